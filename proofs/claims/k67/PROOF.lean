import PyProof.Rows.All
import Wide.All
import OpenK.AllK
import Wide.FinOn
import Lean
import PyProof.EqAt
import PyProof.EqKinds
import PyProof.TupleCall
import PyProof.NeKinds
import PyProof.Draws
import PyProof.ZipIter
import PyProof.DictUpdate
import PyProof.AutoSeq1
import PyProof.ListRange
import PyProof.ListMulRoad
import PyProof.FactsAll.tuple_2
import PyProof.Rows.SortShell
import PyProof.EnumFor
import PyProof.EnumMake
import PyProof.EnumStmt
import PyProof.Rows.SortWalk
import KE.KDictList
import PyProof.SumAny
import PyProof.ConsumeWalk
import PyProof.WalksMore
import PyProof.Rows.TupAssign
import PyProof.ExcArgsOwn
import PySem.Challenge.RW_kindleweb_k67_whole_middling_boxes
set_option Elab.async false
set_option linter.all false
set_option maxRecDepth 100000
set_option maxHeartbeats 4000000
section
open PySem PySem.Spec PyProof.Rows
def bj8:=@wpAny_bind
def bk0:=@Heap.get?_push_of_some
def bk1:=@decide_eq_false
def bk2:=@wpAny_pure
def bk3:=@List.size_toArray
def bk4:=@decide_eq_true
def bk5:=@List.getElem?_eq_getElem
def bk6:=@List.mem_cons
def bk7:=@Int.le_refl
def bk8:=@List.length_map
def bk9:=@List.mem_singleton
def bl0:=@List.getElem?_eq_some_iff
def bl1:=@Nat.le_refl
def bl2:=@List.mem_cons_of_mem
def bl3:=@wpS_bind
def bl4:=@List.not_mem_nil
def bl5:=@Heap.lt_size
def bl6:=@List.mem_cons_self
def bl7:=@Heap.get?_push_size
def bl8:=@Nat.lt_of_lt_of_le
def bl9:=@List.getElem?_map
def bm0:=@wpS_pure
def bm1:=@List.append_assoc
def bm3:=@List.getD_eq_getElem?_getD
def bm4:=@decide_eq_true_eq
def bm5:=@List.map_append
def bm6:=@Bool.false_ne_true
def bm8:=@List.getElem?_set_ne
def bm9:=@List.mem_map
def bn0:=@List.mem_append_left
def bn1:=@Option.some.inj
def bn2:=@List.length_append
def bn3:=@Bool.false_eq_true
def bn4:=@List.mem_append_right
def bn5:=@List.mem_append
def bn6:=@List.take_append_drop
def bn8:=@Bool.and_false
def bn9:=@Nat.ne_of_lt
def bo0:=@List.pairwise_append
def bo1:=@List.mem_filter
def bo2:=@List.getElem?_cons_succ
def bo3:=@Nat.le_trans
def bo4:=@Int.le_trans
def bo5:=@List.append_nil
def bo6:=@or_false
def bo7:=@Array.getElem_mem
def bo8:=@List.take_add_one
def bp0:=@wpAny_newObj_type
def bp1:=@List.length_cons
def bp2:=@List.take_length
def bp3:=@Nat.lt_or_ge
def bp4:=@List.pairwise_singleton
def bp7:=@Array.length_toList
def bp8:=@PySem.mem_of_lookup
def bp9:=@List.map_cons
def bq1:=@wpAny_truthy_bool
def bq2:=@Bool.false_and
def bq3:=@List.length_singleton
def bq4:=@List.map_map
def bq5:=@wpAny_field
def bq6:=@wpAny_callSpecial?_slot
def bq8:=@List.pairwise_iff_getElem
def bq9:=@PySem.W.kia_one
def br0:=@wpAny_call_entry
def br1:=@Bool.and_eq_true
def br2:=@List.lookup_cons
def br3:=@List.mem_of_getElem?
def br4:=@List.take_of_length_le
def br5:=@Around.under_plainId
def br6:=@wpAny_mono
def br7:=@wpAny_holding
def br8:=@wpAny_setField_rec
def bs0:=@List.perm_append_comm
def bs1:=@List.getElem_of_mem
def bs2:=@Array.toList_append
def bs3:=@Bool.eq_iff_iff
def bs5:=@List.length_set
def bs7:=@beq_self_eq_true
def bs8:=@Heap.size_push
def bs9:=@wpAny_seqItems
def bt0:=@Nat.lt_irrefl
def bt1:=@if_false
def bt2:=@List.getElem?_set_self
def bt3:=@List.zip_cons_cons
def bt5:=@wpS_forRange
def bt9:=@Heap.get?_update_self
def bu0:=@Array.getElem?_toList
def bu1:=@Nat.ne_of_gt
def bu2:=@List.pairwise_map
def bu3:=@decide_eq_false_iff_not
def bu5:=@Nat.zero_le
def bu8:=@wpAny_loadPart'
def bu9:=@codeAny_builtin
def bv1:=@Int.mul_le_mul_of_nonneg_right
def bv2:=@Nat.le_add_right
def bv3:=@PySem.F.plain_min_loop
def bv4:=@PySem.F.plain_max_loop
def bv6:=@List.getElem?_append_left
def bv7:=@Prod.ext
def bv9:=@List.nodup_cons
def bw0:=@List.find?_cons
def bw2:=@List.all_eq_true
def bw3:=@List.getElem_mem
def bw4:=@List.getElem?_of_mem
def bw5:=@Int.le_max_right
def bw6:=@PyProof.Rows.callWith_type1
def bw7:=@plainId_quiet
def bw8:=@Nat.le_of_lt
def bw9:=@List.getElem?_append_right
def bx1:=@List.Perm.refl
def bx2:=@Heap.SameBut.update
def bx3:=@wpAny_letGo
def bx4:=@PyProof.Rows.slot_tuple_getitem
def bx5:=@List.drop_eq_getElem_cons
def bx6:=@wpAny_pyIter_tuple
def bx8:=@Bool.true_and
def by1:=@List.Pairwise.nil
def by2:=@of_decide_eq_true
def by3:=@List.nodup_append
def by5:=@List.length_nil
def by6:=@wpAny_rule
def by8:=@Heap.get?_update_other
def bz0:=@List.length_take
def bz1:=@List.length_drop
def bz5:=@of_decide_eq_false
def bz6:=@Nat.eq_or_lt_of_le
def bz7:=@wpAny_tryCatch
def bz8:=@PySem.F.excBase_ValueError
def bz9:=@List.Perm.append_left
def bA0:=@wpAny_execs_nil
def bA1:=@wpAny_passesOwn
def bA2:=@Int.emod_nonneg
def bA3:=@wpAny_updateSeq
def bA4:=@Int.le_max_left
def bA7:=@wpS_mono
def bB1:=@wpAny_attempt
def bB2:=@List.all_cons
def bB5:=@List.drop_take
def bB6:=@List.Perm.swap
def bB7:=@True.intro
end
namespace L2
open PySem PySem.Spec PyProof.Rows
abbrev aM:=Sum Int Str
def mJ:aM->Value->Bool
 | .inl k,v=>Value.isInt k v
 | .inr x,v=>Value.isStrOf x v
def ak8 (w:World):aM->Int
 | .inl k=>hashInt k
 | .inr x=>hashStr w x
theorem j7:∀ {k:aM}{v:Value},mJ k v=true->(∃ i t,k=Sum.inl i/\v=Value.int i t) ∨ (∃ x t,k=Sum.inr x/\v=Value.str x t)
 | .inl i,v,h=>by
  obtain ⟨t,e⟩:=Value.isInt_shape (k:=i) (v:=v) h
  exact .inl ⟨i,t,rfl,e⟩
 | .inr x,v,h=>by
  obtain ⟨t,e⟩:=Value.isStrOf_shape (x:=x) (v:=v) h
  exact .inr ⟨x,t,rfl,e⟩
theorem ak9 (i:Int) (t:Tok):mJ (.inl i) (.int i t)=true:=by simp [mJ,Value.isInt]
theorem al0 (x:Str) (t:Tok):mJ (.inr x) (.str x t)=true:=by simp [mJ,Value.isStrOf]
theorem al1 (a b:Int):decide ((Sum.inl a:aM)=Sum.inl b)=(a == b):=by
 by_cases e:a=b
 ·subst e; simp
 ·have h : ¬ (Sum.inl a:aM)=Sum.inl b:=fun q=>e (Sum.inl.inj q)
  rw [bk1 h]
  exact (beq_eq_false_iff_ne.mpr e).symm
theorem al2 (a b:Str):decide ((Sum.inr a:aM)=Sum.inr b)=decide (a=b):=by
 by_cases e:a=b
 ·subst e; simp
 ·have h : ¬ (Sum.inr a:aM)=Sum.inr b:=fun q=>e (Sum.inr.inj q)
  rw [bk1 h,bk1 e]
theorem al3 (a:Int) (b:Str):decide ((Sum.inl a:aM)=Sum.inr b)=false:=bk1 (fun q=>nomatch q)
theorem al4 (a:Str) (b:Int):decide ((Sum.inr a:aM)=Sum.inl b)=false:=bk1 (fun q=>nomatch q)
def eQ (prog:Program) (w:World):PySem.KeyKind prog w aM where
 is:=mJ
 hash:=ak8 w
 inj:=fun v a b ha hb=>by
  rcases j7 ha with ⟨i,t,rfl,rfl⟩ | ⟨x,t,rfl,rfl⟩
  ·rcases j7 hb with ⟨j,u,rfl,e⟩ | ⟨y,u,rfl,e⟩
   ·injection e with e1 _; rw [e1]
   ·exact nomatch e
  ·rcases j7 hb with ⟨j,u,rfl,e⟩ | ⟨y,u,rfl,e⟩
   ·exact nomatch e
   ·injection e with e1 _; rw [e1]
 byValue:=fun k v h=>by
  rcases j7 h with ⟨i,t,rfl,rfl⟩ | ⟨x,t,rfl,rfl⟩ <;> rfl
 pyHash:=fun hv h=>by
  rcases j7 hv with ⟨i,t,rfl,rfl⟩ | ⟨x,t,rfl,rfl⟩
  ·exact wpAny_pyHash_int h
  ·exact wpAny_pyHash_str h
 eqBool:=fun hu hv h=>by
  rcases j7 hu with ⟨i,t,rfl,rfl⟩ | ⟨x,t,rfl,rfl⟩
  ·rcases j7 hv with ⟨j,u,rfl,rfl⟩ | ⟨y,u,rfl,rfl⟩
   ·rw [al1] at h; exact wpAny_eqBool_int h
   ·rw [al3] at h; exact SeqAt.EqAt.int_str i t y u _ _ _ _ h
  ·rcases j7 hv with ⟨j,u,rfl,rfl⟩ | ⟨y,u,rfl,rfl⟩
   ·rw [al4] at h; exact SeqAt.EqAt.str_int x t j u _ _ _ _ h
   ·rw [al2] at h; exact wpAny_eqBool_str h
 «strs»:=fun k x t v h=>by
  rcases j7 h with ⟨i,u,rfl,e⟩ | ⟨y,u,rfl,e⟩
  ·exact nomatch e
  ·injection e with e1 _
   subst e1
   cases v <;> rfl
theorem al5 (prog:Program) (w:World) (i:Int) (t:Tok):(eQ prog w).is (.inl i) (.int i t)=true:=ak9 i t
theorem al6 (prog:Program) (w:World) (x:Str) (t:Tok):(eQ prog w).is (.inr x) (.str x t)=true:=al0 x t
inductive V where
 | non | bl (b:Bool) | int (i:Int) | str (x:Str) | byt (b:Array UInt8) | flt (b:UInt64) | ref (a:Addr) | ty (n:String)
 deriving DecidableEq
def aV:V->Value->Prop
 | .non,u=>u=Value.none
 | .bl b,u=>u=Value.bool b
 | .int i,u=>∃ t,u=Value.int i t
 | .str x,u=>∃ t,u=Value.str x t
 | .byt b,u=>∃ t,u=Value.bytes b t
 | .flt b,u=>∃ t,u=Value.float b t
 | .ref a,u=>u=Value.ref a
 | .ty n,u=>u=Value.type n
abbrev aS:List V->List Value->Prop:=Paired aV
theorem aS.length {xs:List V}{us:List Value} (r:aS xs us):xs.length=us.length:=Paired.length r
theorem aS.get:∀ {xs:List V}{us:List Value}{i:Nat}{x:V},aS xs us->xs[i]? = some x->∃ u,us[i]? = some u/\aV x u
 | _,_,_,_,.nil,e=>by simp at e
 | _,_,0,_,.cons r _,e=>by simp at e; subst e; exact⟨_,rfl,r⟩
 | _,_,i+1,x,.cons _ t,e=>by
  obtain ⟨u,h1,h2⟩:=aS.get (i:=i) (x:=x) t (by simpa using e)
  exact⟨u,by simpa using h1,h2⟩
theorem aS.append:∀ {xs ys:List V}{us ws:List Value},aS xs us->aS ys ws->aS (xs ++ ys) (us ++ ws)
 | _,_,_,_,.nil,s=>s
 | _,_,_,_,.cons r t,s=>.cons r (aS.append t s)
theorem aS.take:∀ {xs:List V}{us:List Value} (n:Nat),aS xs us->aS (xs.take n) (us.take n)
 | _,_,0,_=>.nil
 | _,_,_+1,.nil=>.nil
 | _,_,n+1,.cons r t=>.cons r (aS.take n t)
theorem aS.drop:∀ {xs:List V}{us:List Value} (n:Nat),aS xs us->aS (xs.drop n) (us.drop n)
 | _,_,0,r=>r
 | _,_,_+1,.nil=>.nil
 | _,_,n+1,.cons _ t=>aS.drop n t
def gE:Option V->Option Value->Prop
 | some v,some u=>aV v u
 | none,none=>True
 | _,_=>False
def KV {κ:Type}:List (κ × V)->List (κ × Value)->Prop:=Paired fun (p:κ × V) (q:κ × Value)=>p.1=q.1/\aV p.2 q.2
def kV:aM->V
 | .inl i=>.int i
 | .inr x=>.str x
inductive HO where
 | lst (xs:List V)
 | tup (xs:List V)
 | dK (kvs:List (aM × V)) | dT (kvs:List (List aM × V))
 | set (S:Int->Bool) (n:Nat)
 | ins (C dx:Addr) (fs:List (Str × V))
 | own (x:Addr)
 | xd (fs:List (Str × V))
 | met (f x:Addr)
 | rng (lo hi:Int)
 | frz (o:Obj) (u:HO)
 | tbl (ps:Array Value)
 | ext (φ:Heap->Prop)
abbrev Hp:=Addr->Option HO
def upd (H:Hp) (a:Addr) (o:HO):Hp:=fun b=>if b=a then some o else H b
theorem cH {H:Hp}{a:Addr}{o:HO}:upd H a o a=some o:=by unfold upd; rw [if_pos rfl]
theorem aZ {H:Hp}{a b:Addr}{o:HO} (h:b ≠ a):upd H a o b=H b:=by unfold upd; rw [if_neg h]
theorem yZ {H:Hp}{a b:Addr}{o u:HO} (h:H a=some o) (h':H b=some u) (d:o ≠ u):a ≠ b:=by
 intro e; subst e; rw [h] at h'; exact d (bn1 h')
theorem dG {H:Hp}{a b:Addr}{o:HO} (h:H a=some o) (h':H b=none):a ≠ b:=by
 intro e; subst e; rw [h] at h'; cases h'
def j8 (h:Heap) (a:Addr):Prop:=∀ o,h.get? a=some o->o.dict=none
theorem j8.new (h:Heap) (o:Obj) (d:o.dict=none) (s:o.isFreed=false:=by rfl):j8 (h.push o) h.objs.size:=fun u e=>by
 rw [bl7 h (o:=o) s] at e
 cases e; exact d
theorem j8.stay {h h':Heap}{a:Addr}{o:Obj} (n:j8 h a) (e:h.get? a=some o) (e':h'.get? a=some o):j8 h' a:=fun u hu=>by
 rw [e'] at hu; cases hu; exact n _ e
section
variable (P : Program) (w : World)
def c9 (H:Hp) (h:Heap) (a:Addr):HO->Prop
 | .lst xs=>xs.length<=sizeLine/\∃ (its:List Value) (n:Nat),aS xs its/\h.get? a=some { cls:=.type "list",data:=.seq its.toArray n }
 | .tup xs=>xs.length<=sizeLine/\∃ its:List Value,aS xs its/\IsTup h a its.toArray/\j8 h a
 | .dK kvs=>kvs.length<=sizeLine/\(a == sysModules)=false/\∃ vs,KV kvs vs/\h.DictOf (eQ P w) a vs
 | .dT kvs=>kvs.length<=sizeLine/\(a == sysModules)=false/\∃ xs:List (List aM × Addr × Value),
   Paired (fun (p:List aM × V) (q:List aM × Addr × Value)=>p.1=q.1/\H q.2.1=some (.tup (p.1.map kV))/\aV p.2 q.2.2) kvs xs/\
   ∃ o es ep,h.get? a=some o/\o.ExactDict/\o.data = .dict es ep/\es.toList=xs.map (entryOfKey (tupleKind (eQ P w)))/\(xs.map (·.1)).Nodup
 | .set S n=>h.SetOf (intKind P w) a S n
 | .ins C dx fs=>H dx=some (.own a)/\fs.length<=1000/\dx ≠ a/\h.get? a=some (PySem.W.instObj C dx)/\
   ∃ mA,h.Ns1 dx mA/\(∀ f,gE (fs.lookup f) (mA f))/\PySem.Within mA (fs.map (·.1))
 | .own _=>∃ o,h.get? a=some o
 | .xd fs=>∃ mA,h.Ns1 a mA/\∀ f,gE (fs.lookup f) (mA f)
 | .rng lo hi=>∃ t u v,h.get? a=some { cls:=.type "range",data:=.fields #[.int lo t,.int hi u,.int 1 v] }
 | .frz o u=>h.get? a=some o/\c9 H h a u
 | .tbl ps=>h.get? a=some { cls:=.none,data:=.fields ps }
 | .met f x=>h.get? a=some (PySem.W.methodObj (.ref f) (.ref x))
 | .ext φ=>φ h/\(∃ o,h.get? a=some o)/\∀ h1 h2:Heap,φ h1->(∀ o,h1.get? a=some o->h2.get? a=some o)->φ h2
def bZ (H:Hp) (h:Heap):Prop:=∀ a o,H a=some o->c9 P w H h a o
end
section
variable {P : Program} {w : World} {H H' : Hp} {h h' : Heap} {a : Addr} {o : HO}
theorem c9.lt (x:c9 P w H h a o):a < h.objs.size:=by
 cases o with
 | lst xs=>obtain ⟨_,_,_,_,e⟩:=x; exact bl5 e
 | tup xs=>obtain ⟨_,_,_,p,_⟩:=x; exact p.lt
 | dK kvs=>obtain ⟨_,_,_,_,o,_,_,e,_⟩:=x; exact bl5 e
 | dT kvs=>obtain ⟨_,_,_,_,o,_,_,e,_⟩:=x; exact bl5 e
 | set S n=>obtain ⟨o,_,_,_,e,_⟩:=x; exact bl5 e
 | ins C dx fs=>obtain ⟨_,_,_,e,_⟩:=x; exact bl5 e
 | own y=>obtain ⟨_,e⟩:=x; exact bl5 e
 | xd fs=>obtain ⟨_,⟨_,_,_,e,_⟩,_⟩:=x; exact bl5 e
 | rng lo hi=>obtain ⟨_,_,_,e⟩:=x; exact bl5 e
 | frz ob u=>obtain ⟨e,_⟩:=x; exact bl5 e
 | tbl ps=>exact bl5 (show h.get? a=some _ from x)
 | met f y=>exact bl5 (show h.get? a=some _ from x)
 | ext φ=>obtain ⟨_,⟨_,e⟩,_⟩:=x; exact bl5 e
theorem Paired.mapP {α β:Type}{F G:α->β->Prop}:∀ {l₁:List α}{l₂:List β},Paired F l₁ l₂->(∀ a b,F a b->G a b)->Paired G l₁ l₂
 | _,_,.nil,_=>.nil
 | _,_,.cons r t,f=>.cons (f _ _ r) (Paired.mapP t f)
theorem c9.stay (x:c9 P w H h a o) (k:∀ b u,(b=a ∨ H b=some (.own a))->h.get? b=some u->h'.get? b=some u)
  (ho:∀ b,H b=some (.own a)->H' b=some (.own a)) (ht:∀ b xs,H b=some (.tup xs)->H' b=some (.tup xs)):c9 P w H' h' a o:=by
 induction o with
 | lst xs=>obtain ⟨z,its,n,r,e⟩:=x; exact⟨z,its,n,r,k _ _ (.inl rfl) e⟩
 | tup xs=>obtain ⟨z,its,r,⟨ob,e,c⟩,nd⟩:=x; exact⟨z,its,r,⟨ob,k _ _ (.inl rfl) e,c⟩,nd.stay e (k _ _ (.inl rfl) e)⟩
 | dK kvs=>obtain ⟨z,y,vs,r,ob,es,ep,e,c⟩:=x; exact⟨z,y,vs,r,ob,es,ep,k _ _ (.inl rfl) e,c⟩
 | dT kvs=>
  obtain ⟨z,y,xs,r,ob,es,ep,e,c⟩:=x
  exact⟨z,y,xs,Paired.mapP r fun p q z=>⟨z.1,ht _ _ z.2.1,z.2.2⟩,ob,es,ep,k _ _ (.inl rfl) e,c⟩
 | set S n=>obtain ⟨ob,es,ep,t,e,c⟩:=x; exact⟨ob,es,ep,t,k _ _ (.inl rfl) e,c⟩
 | ins C dx fs=>
  obtain ⟨d,z,ne,e,mA,⟨od,es,ep,e2,c⟩,r⟩:=x
  exact⟨ho _ d,z,ne,k _ _ (.inl rfl) e,mA,⟨od,es,ep,k _ _ (.inr d) e2,c⟩,r⟩
 | own y=>obtain ⟨ob,e⟩:=x; exact⟨ob,k _ _ (.inl rfl) e⟩
 | xd fs=>obtain ⟨mA,⟨od,es,ep,e,c⟩,r⟩:=x; exact⟨mA,⟨od,es,ep,k _ _ (.inl rfl) e,c⟩,r⟩
 | rng lo hi=>obtain ⟨t,u,v,e⟩:=x; exact⟨t,u,v,k _ _ (.inl rfl) e⟩
 | frz ob u ih=>obtain ⟨e,q⟩:=x; exact⟨k _ _ (.inl rfl) e,ih q⟩
 | tbl ps=>
  have e:h.get? a=some { cls:=.none,data:=.fields ps }:=x
  show h'.get? a=some { cls:=.none,data:=.fields ps }
  exact k a _ (.inl rfl) e
 | met f y=>
  have e:h.get? a=some (PySem.W.methodObj (.ref f) (.ref y)):=x
  show h'.get? a=some (PySem.W.methodObj (.ref f) (.ref y))
  exact k a _ (.inl rfl) e
 | ext φ=>obtain ⟨p,⟨o,e⟩,st⟩:=x; exact⟨st _ _ p fun o q=>k _ _ (.inl rfl) q,⟨o,k _ _ (.inl rfl) e⟩,st⟩
theorem bZ.lt (x:bZ P w H h) (e:H a=some o):a < h.objs.size:=(x a o e).lt
theorem bZ.fresh (x:bZ P w H h) (e:h.objs.size<=a):H a=none:=by
 cases q:H a with
 | none=>rfl
 | some u=>exact absurd (bl8 (x.lt q) e) (bt0 _)
theorem bZ.kept (x:bZ P w H h) (k:∀ b u,h.get? b=some u->h'.get? b=some u):bZ P w H h':=fun a o e=>
 (x a o e).stay (fun b u _ q=>k b u q) (fun _ q=>q) fun _ _ q=>q
theorem bZ.laid (x:bZ P w H h) (k:∀ b u,h.get? b=some u->h'.get? b=some u) (hp:h.objs.size<=a) (new:c9 P w (upd H a o) h' a o):bZ P w (upd H a o) h':=fun b u e=>by
 have hn:=x.fresh hp
 by_cases hb:b=a
 ·subst hb; rw [cH] at e; cases e; exact new
 ·rw [aZ hb] at e
  exact (x b u e).stay (fun c v _ q=>k c v q) (fun c q=>by rw [aZ (dG q hn)]; exact q) fun c xs q=>by rw [aZ (dG q hn)]; exact q
end
def Rd (H:Hp) (a:Addr) (u:HO):Prop:=H a=some u ∨ ∃ o,H a=some (.frz o u)
theorem Rd.ok {P:Program}{w:World}{H:Hp}{h:Heap}{a:Addr}{u:HO} (r:Rd H a u) (x:bZ P w H h):c9 P w H h a u:=by
 rcases r with r | ⟨o,r⟩
 ·exact x a u r
 ·obtain ⟨_,q⟩:=x a _ r
  exact q
def o0:Option HO->Prop
 | some (.lst _)=>True
 | some (.dK _)=>True
 | some (.dT _)=>True
 | some (.set _ _)=>True
 | some (.ins _ _ _)=>True
 | some (.ext _)=>True
 | _=>False
section
variable {P : Program} {w : World} {H : Hp} {h h' : Heap} {x e : Addr} {o' : HO}
theorem bZ.write (ok:bZ P w H h) (mu:o0 (H x)) (he:e=x ∨ H e=some (.own x)) (k:∀ b u,b ≠ e->h.get? b=some u->h'.get? b=some u) (heo:∃ u,h'.get? e=some u)
  (new:c9 P w (upd H x o') h' x o'):bZ P w (upd H x o') h':=fun b u q=>by
 have nown:∀ c y,H c=some (.own y)->c ≠ x:=fun c y r z=>by subst z; rw [r] at mu; exact mu
 have ntup:∀ c xs,H c=some (.tup xs)->c ≠ x:=fun c xs r z=>by subst z; rw [r] at mu; exact mu
 by_cases hb:b=x
 ·subst hb; rw [cH] at q; cases q; exact new
 ·rw [aZ hb] at q
  by_cases hbe:b=e
  ·have q':H b=some (.own x):=by
    rcases he with z | z
    ·exact absurd (hbe.trans z) hb
    ·rw [hbe]; exact z
   rw [q] at q'; cases q'
   obtain ⟨v,hv⟩:=heo
   exact⟨v,by rw [hbe]; exact hv⟩
  ·refine (ok b u q).stay (fun c v hc r=>k c v ?_ r) (fun c r=>by rw [aZ (nown c b r)]; exact r) fun c xs r=>by rw [aZ (ntup c xs r)]; exact r
   rcases hc with rfl | hc
   ·exact hbe
   ·rintro rfl
    rcases he with z | z
    ·exact nown c b hc z
    ·rw [hc] at z; cases z; exact hb rfl
end
structure Un (fs ex:List Addr) (H H':Hp) (h h':Heap):Prop where
 keep:∀ b o,h.get? b=some o->H b=none->b ∉ fs->b ∉ ex->h'.get? b=some o
 slot:∀ b o,h.get? b=some o->H b=none->b ∈ fs->b ∉ ex->∃ sl,h'.get? b=some { o with slots:=sl }
 free:∀ b o,h.get? b=some o->H b=none->b ∉ ex->H' b=none
 there:∀ b o,h.get? b=some o->b ∉ ex->∃ o',h'.get? b=some o'
 tups:∀ b xs,H b=some (.tup xs)->H' b=some (.tup xs)
 frzs:∀ b o u,H b=some (.frz o u)->H' b=some (.frz o u)
 tbls:∀ b ps,H b=some (.tbl ps)->∃ more,H' b=some (.tbl (ps ++ more))
section
variable {fs fs' ex ex' : List Addr} {H H1 H2 : Hp} {h h1 h2 h' : Heap} {a x e : Addr} {o : HO}
theorem Un.any (u:Un fs ex H H1 h h1) {b:Addr}{ob:Obj} (q:h.get? b=some ob) (n:H b=none) (hx:b ∉ ex):∃ sl,h1.get? b=some { ob with slots:=sl }:=by
 by_cases hb:b ∈ fs
 ·exact u.slot b ob q n hb hx
 ·exact⟨ob.slots,u.keep b ob q n hb hx⟩
theorem Un.kept (k:∀ b u,h.get? b=some u->h'.get? b=some u):Un fs ex H H h h':=
 ⟨fun b ob q _ _ _=>k b ob q,fun b ob q _ _ _=>⟨ob.slots,k b ob q⟩,fun _ _ _ n _=>n,fun b ob q _=>⟨ob,k b ob q⟩,fun _ _ q=>q,fun _ _ _ q=>q,fun _ ps q=>⟨#[],by rw [q]; simp⟩⟩
theorem Un.refl:Un fs ex H H h h:=Un.kept fun _ _ q=>q
theorem Un.laid (k:∀ b u,h.get? b=some u->h'.get? b=some u) (hp:h.objs.size<=a) (hn:H a=none):Un fs ex H (upd H a o) h h' where
 keep:=fun b u q _ _ _=>k b u q
 slot:=fun b u q _ _ _=>⟨u.slots,k b u q⟩
 free:=fun b u q n _=>by rw [aZ (bn9 (bl8 (bl5 q) hp))]; exact n
 there:=fun b u q _=>⟨u,k b u q⟩
 tups:=fun b xs q=>by rw [aZ (dG q hn)]; exact q
 frzs:=fun b u xs q=>by rw [aZ (dG q hn)]; exact q
 tbls:=fun b ps q=>⟨#[],by rw [aZ (dG q hn),q]; simp⟩
theorem Un.write (mu:o0 (H x)) (he:e=x ∨ H e=some (.own x)) (k:∀ b u,b ≠ e->h.get? b=some u->h'.get? b=some u) (heo:∃ u,h'.get? e=some u):Un fs ex H (upd H x o) h h':=by
 have hx:∀ b,H b=none->b ≠ x:=fun b n z=>by subst z; rw [n] at mu; exact mu
 have hb:∀ b,H b=none->b ≠ e:=fun b n z=>by
  subst z
  rcases he with r | r
  ·exact hx b n r
  ·rw [n] at r; cases r
 have hm:∀ b u,H b=some u->¬ o0 (some u)->b ≠ x:=fun b u q nm z=>by subst z; rw [q] at mu; exact nm mu
 refine⟨fun b u q n _ _=>k b u (hb b n) q,fun b u q n _ _=>⟨u.slots,k b u (hb b n) q⟩,fun b u q n _=>by rw [aZ (hx b n)]; exact n,fun b u q _=>?_,
  fun b xs q=>by rw [aZ (hm b _ q fun z=>z)]; exact q,fun b u xs q=>by rw [aZ (hm b _ q fun z=>z)]; exact q,fun b ps q=>⟨#[],by rw [aZ (hm b _ q fun z=>z),q]; simp⟩⟩
 by_cases hbe:b=e
 ·subst hbe; exact heo
 ·exact⟨u,k b u hbe q⟩
end
def pZ (h:Heap) (H:Hp):List Addr:=(List.range h.objs.size).filter fun a=>(H a).isSome
def j9 (h:Heap) (H:Hp):Heap:=PySem.W.hideAll h (pZ h H)
theorem al7 (h:Heap) (H:Hp):(j9 h H).objs.size=h.objs.size:=PySem.W.hideAll_size _ _
theorem al8 {h:Heap}{H:Hp}{b:Addr}{o:Obj} (e:h.get? b=some o) (n:H b=none):(j9 h H).get? b=some o:=
 PySem.W.hideAll_get _ e fun hm=>by
  have q:(H b).isSome=true:=(bo1.mp hm).2
  rw [n] at q; simp at q
theorem al9 {h:Heap}{H:Hp}{b:Addr}{o:Obj} (e:(j9 h H).get? b=some o):h.get? b=some o/\H b=none:=by
 have e':h.get? b=some o:=PySem.W.of_hideAll (pZ h H) e
 refine⟨e',?_⟩
 cases q:H b with
 | none=>rfl
 | some x=>
  have hm:b ∈ pZ h H:=bo1.mpr ⟨List.mem_range.mpr (bl5 e'),by simp [q]⟩
  have z:(j9 h H).get? b=none:=PySem.W.hideAll_none (pZ h H) hm
  rw [z] at e; cases e
def am0 (g h:Heap) (L:Addr):List (Addr × Obj):=(List.range h.objs.size).filterMap fun a=>if a=L ∨ (g.get? a).isSome=true then none else (h.get? a).map fun o=>(a,o)
def cM (g h:Heap) (L d:Addr):List (Addr × Obj):=(am0 g h L).filter fun p=>decide (p.1 ≠ d)
structure Mod (K:PySem.W.Frag) (mg:Str->Option Value) (base:Heap):Prop where
 kin:K.In base
 glob:base.Ns mainGlobals mg
 blt:∃ mb,base.Ns builtinsNs mb/\∀ x:Str,x ≠ "__name__"->mb x=bootBuiltins x
 nolimit:base.NoLimit
structure Cx where
 prog:Program
 w:World
 K:PySem.W.Frag
 mg:Str->Option Value
 base:Heap
 A:Around
 N:List Str
 s₀:Shared
 H₀:Hp
 env:Env
 outer:List Env
 stack:List Env
 ex:List Addr
 fn:Str->Bool
 calm:Bool
 pn:List (Addr × Obj)
 xe:Value->Shared->Prop
def bQ (l:List Env):List Addr:=l.filterMap (·.frame)
abbrev Cx.fs (X:Cx):List Addr:=bQ X.outer
def jA (sc:Scope) (x:Str):Prop:=sc.names.lookup x=some .local ∨ sc.names.lookup x=some .cell ∨ sc.names.lookup x=some .free
def gR (sc:Scope) (x:Str):Prop:=sc.names.lookup x=some .local ∨ sc.names.lookup x=some .cell
def am1 (env:Env) (h:Heap) (m:Str->Option Value) (x:Str) (u:Value):Prop:=
 (env.kindOf x=some .local/\m x=some u) ∨ ((env.kindOf x=some .cell ∨ env.kindOf x=some .free)/\∃ c,env.cells.lookup x=some c/\h.IsCell c (some u))
structure Cx.Ok (X:Cx):Prop where
 mod:Mod X.K X.mg X.base
 kind:X.env.scope.kind = .function
 glob:X.env.globals=mainGlobals
 blt:X.env.builtins=builtinsNs
 above:X.s₀.heap.objs.size<=X.env.locals
 inj:∀ x y c,X.env.cells.lookup x=some c->X.env.cells.lookup y=some c->x=y
 has:∀ x,(X.env.kindOf x=some .cell ∨ X.env.kindOf x=some .free)->∃ c,X.env.cells.lookup x=some c
 cab:∀ x c,X.fn x=true->X.env.cells.lookup x=some c->X.s₀.heap.objs.size<=c
 hd:X.calm=true->X.A.handled=none
 frames:X.A.frames=some X.stack
 stk:X.stack=X.outer ∨ (X.stack=X.env :: X.outer/\X.env.frame=some X.env.locals)
 exf:∀ b ∈ X.ex,b ≠ X.env.locals/\∀ x c,X.env.cells.lookup x=some c->c ≠ b
 bs:∀ b o,X.base.get? b=some o->X.s₀.heap.get? b=some o/\X.H₀ b=none
 bsz:X.base.objs.size<=X.s₀.heap.objs.size
 noex:∀ b o,X.base.get? b=some o->b ∉ X.ex
 exfs:∀ b ∈ X.ex,b ∉ X.fs
 funs:X.s₀.heap.FunFrames X.base X.outer
 frf:∀ b ∈ X.fs,X.H₀ b=none
structure a7 (X:Cx) (pins:List (Addr × Obj)) (σ:List (Option V)) (H:Hp) (s:Shared):Prop where
 ok:X.Ok
 os:s.os=X.s₀.os
 bare:AllBare s.gens
 base:Un X.fs X.ex X.H₀ H X.s₀.heap s.heap
 loc:∃ m,s.heap.Ns X.env.locals m/\∀ (i:Nat) (x:Str) (v:V),X.N[i]? = some x->σ[i]? = some (some v)->jA X.env.scope x->∃ u,aV v u/\am1 X.env s.heap m x u
 cell:∀ x c,X.env.cells.lookup x=some c->∃ v,s.heap.IsCell c v
 free:H X.env.locals=none
 freeC:∀ x c,X.env.cells.lookup x=some c->H c=none
 pin:∀ p ∈ X.pn ++ pins,s.heap.get? p.1=some p.2/\H p.1=none/\p.1 ≠ X.env.locals/\p.1 ∉ X.fs/\∀ v,p.2.data ≠ .cell v
 hok:bZ X.prog X.w H s.heap
 len:σ.length=X.N.length
section
variable {X : Cx} {pins : List (Addr × Obj)} {σ : List (Option V)} {H H' : Hp} {s : Shared} {h' : Heap}
theorem Cx.Ok.nofr (ok:X.Ok) {b:Addr}{o:Obj} (e:X.base.get? b=some o):b ∉ X.fs:=fun hb=>by
 have:=(ok.funs.mem hb).1
 rw [e] at this; cases this
theorem a7.bs (I:a7 X pins σ H s):∀ b o,X.base.get? b=some o->s.heap.get? b=some o/\H b=none:=fun b o e=>
 ⟨I.base.keep b o (I.ok.bs b o e).1 (I.ok.bs b o e).2 (I.ok.nofr e) (I.ok.noex b o e),I.base.free b o (I.ok.bs b o e).1 (I.ok.bs b o e).2 (I.ok.noex b o e)⟩
theorem a7.bk (I:a7 X pins σ H s):∀ b o,X.base.get? b=some o->s.heap.get? b=some o:=fun b o e=>(I.bs b o e).1
theorem a7.mod (I:a7 X pins σ H s):Mod X.K X.mg X.base:=I.ok.mod
theorem a7.kIn (I:a7 X pins σ H s):X.K.In s.heap:=I.ok.mod.kin.keeps I.bk
theorem a7.fr (I:a7 X pins σ H s):∃ m,Fr X.base X.env.locals s.heap m:=
 let ⟨m,hn,_⟩:=I.loc
 ⟨m,hn,I.bk,bo3 I.ok.bsz I.ok.above⟩
theorem a7.lt (I:a7 X pins σ H s):X.env.locals < s.heap.objs.size:=let ⟨_,hn,_⟩:=I.loc; hn.lt
theorem a7.sz (I:a7 X pins σ H s):X.s₀.heap.objs.size<=s.heap.objs.size:=bo3 I.ok.above (bw8 I.lt)
theorem a7.nofs (I:a7 X pins σ H s) {a:Addr} (h:s.heap.objs.size<=a):a ∉ X.fs:=fun hb=>by
 obtain ⟨_,o,ho,_⟩:=I.ok.funs.mem hb
 exact absurd (bl8 (bl5 ho) (bo3 I.sz h)) (bt0 _)
theorem a7.cne (I:a7 X pins σ H s):∀ x c,X.env.cells.lookup x=some c->c ≠ X.env.locals:=fun x c e z=>by
 obtain ⟨v,o,ho,hd⟩:=I.cell x c e
 obtain ⟨m,⟨o',es,ep,ho',hd',_⟩,_⟩:=I.loc
 rw [z,ho'] at ho; cases ho; rw [hd'] at hd; cases hd
theorem a7.funs (I:a7 X pins σ H s):s.heap.FunFrames X.base X.outer:=by
 have all:∀ (l:List Env),(∀ b ∈ bQ l,b ∈ X.fs)->X.s₀.heap.FunFrames X.base l->s.heap.FunFrames X.base l:=by
  intro l
  induction l with
  | nil=>intro _ _; trivial
  | cons env r ih=>
   intro hs hl
   obtain ⟨hk,⟨L,o,hf,hn,ho,hd⟩,hr⟩:=hl
   have hL:L ∈ X.fs:=hs L (by unfold bQ; rw [List.filterMap_cons,hf]; exact bl6)
   obtain ⟨sl,e⟩:=I.base.slot L o ho (I.ok.frf L hL) hL fun z=>I.ok.exfs L z hL
   exact⟨hk,⟨L,_,hf,hn,e,hd⟩,ih (fun b hb=>hs b (by unfold bQ; rw [List.filterMap_cons,hf]; exact bl2 _ hb)) hr⟩
 exact all X.outer (fun _ hb=>hb) I.ok.funs
theorem a7.stack (I:a7 X pins σ H s):s.heap.FunFrames X.base X.stack:=by
 rcases I.ok.stk with e | ⟨e,hf⟩
 ·rw [e]; exact I.funs
 ·rw [e]
  obtain ⟨m,hn,_⟩:=I.loc
  refine .cons (by rw [I.ok.kind]; decide) hf hn ?_ I.funs
  exact Heap.get?_none_of_le (bo3 I.ok.bsz I.ok.above)
theorem a7.stkSub (I:a7 X pins σ H s):∀ b ∈ bQ X.stack,b ∈ X.env.locals :: X.fs:=fun b hb=>by
 rcases I.ok.stk with e | ⟨e,hf⟩
 ·rw [e] at hb; exact bl2 _ hb
 ·rw [e] at hb
  unfold bQ at hb
  rw [List.filterMap_cons,hf] at hb
  exact hb
theorem a7.stkFree (I:a7 X pins σ H s):∀ b ∈ bQ X.stack,H b=none:=fun b hb=>by
 rcases bk6.mp (I.stkSub b hb) with e | hb
 ·rw [e]; exact I.free
 ·obtain ⟨_,o,ho,_⟩:=I.ok.funs.mem hb
  exact I.base.free b o ho (I.ok.frf b hb) fun z=>I.ok.exfs b z hb
theorem a7.step {g':Array GenState}{t':Nat}{d':Drawn}{ch:List Addr} (I:a7 X pins σ H s)
  (hch:∀ b ∈ ch,(b ∈ X.ex ∨ X.s₀.heap.objs.size<=b)/\b ≠ X.env.locals/\(∀ x c,X.env.cells.lookup x=some c->c ≠ b)/\∀ p ∈ X.pn ++ pins,p.1 ≠ b)
  (keep:∀ b o,b ≠ X.env.locals->b ∉ X.fs->b ∉ ch->s.heap.get? b=some o->H b=none->h'.get? b=some o)
  (slot:∀ b o,b ≠ X.env.locals->b ∈ X.fs->b ∉ ch->s.heap.get? b=some o->H b=none->∃ sl,h'.get? b=some { o with slots:=sl }) (free:∀ b o,b ∉ ch->s.heap.get? b=some o->H b=none->H' b=none)
  (there:∀ b o,b ∉ ch->s.heap.get? b=some o->∃ o',h'.get? b=some o')
  (tups:∀ b xs,H b=some (.tup xs)->H' b=some (.tup xs)) (frzs:∀ b o u,H b=some (.frz o u)->H' b=some (.frz o u)) (tbls:∀ b ps,H b=some (.tbl ps)->∃ more,H' b=some (.tbl (ps ++ more)))
  (ns:∀ m,s.heap.Ns X.env.locals m->h'.Ns X.env.locals m) (hok:bZ X.prog X.w H' h') (hg:AllBare g') :
  a7 X pins σ H' { s with heap:=h',gens:=g',drawn:=d',toks:=t' }:=by
 have neL:∀ b o,X.s₀.heap.get? b=some o->b ≠ X.env.locals:=fun b o e=>bn9 (bl8 (bl5 e) I.ok.above)
 have neC:∀ b o,X.s₀.heap.get? b=some o->b ∉ X.ex->b ∉ ch:=fun b o e hx hb=>by
  rcases (hch b hb).1 with z | z
  ·exact hx z
  ·exact absurd (bl8 (bl5 e) z) (bt0 _)
 have cellK:∀ x c,X.env.cells.lookup x=some c->∀ v,s.heap.IsCell c v->h'.IsCell c v:=fun x c e v ⟨o,ho,hd⟩=>by
  have nch:c ∉ ch:=fun z=>(hch c z).2.2.1 x c e rfl
  by_cases hc:c ∈ X.fs
  ·obtain ⟨sl,q⟩:=slot c o (I.cne x c e) hc nch ho (I.freeC x c e)
   exact⟨_,q,hd⟩
  ·exact⟨o,keep c o (I.cne x c e) hc nch ho (I.freeC x c e),hd⟩
 refine⟨I.ok,I.os,hg,⟨fun b o e n hb hx=>?_,fun b o e n hb hx=>?_,fun b o e n hx=>?_,fun b o e hx=>?_,fun b xs e=>tups b xs (I.base.tups b xs e),fun b o xs e=>frzs b o xs (I.base.frzs b o xs e),fun b ps e=>?_⟩,?_,fun x c e=>?_,?_,fun x c e=>?_,fun p hp=>?_,hok,I.len⟩
 ·exact keep b o (neL b o e) hb (neC b o e hx) (I.base.keep b o e n hb hx) (I.base.free b o e n hx)
 ·obtain ⟨sl,e1⟩:=I.base.slot b o e n hb hx
  obtain ⟨sl',e2⟩:=slot b _ (neL b o e) hb (neC b o e hx) e1 (I.base.free b o e n hx)
  exact⟨sl',e2⟩
 ·obtain ⟨o',e1⟩:=I.base.there b o e hx
  exact free b o' (neC b o e hx) e1 (I.base.free b o e n hx)
 ·obtain ⟨o',e1⟩:=I.base.there b o e hx
  exact there b o' (neC b o e hx) e1
 ·obtain ⟨m1,e1⟩:=I.base.tbls b ps e
  obtain ⟨m2,e2⟩:=tbls b _ e1
  exact⟨m1 ++ m2,by rw [e2,Array.append_assoc]⟩
 ·obtain ⟨m,hn,hl⟩:=I.loc
  refine⟨m,ns m hn,fun i x v e1 e2 e3=>?_⟩
  obtain ⟨u,r,l⟩:=hl i x v e1 e2 e3
  refine⟨u,r,?_⟩
  rcases l with l | ⟨k,c,e,z⟩
  ·exact .inl l
  ·exact .inr ⟨k,c,e,cellK x c e _ z⟩
 ·obtain ⟨v,z⟩:=I.cell x c e
  exact⟨v,cellK x c e v z⟩
 ·obtain ⟨m,⟨o,_,_,ho,_⟩,_⟩:=I.loc
  exact free _ o (fun z=>(hch _ z).2.1 rfl) ho I.free
 ·obtain ⟨v,o,ho,hd⟩:=I.cell x c e
  exact free c o (fun z=>(hch c z).2.2.1 x c e rfl) ho (I.freeC x c e)
 ·obtain ⟨e,n,ne,nf,d⟩:=I.pin p hp
  have nch:p.1 ∉ ch:=fun z=>(hch p.1 z).2.2.2 p hp rfl
  exact⟨keep p.1 p.2 ne nf nch e n,free p.1 p.2 nch e n,ne,nf,d⟩
theorem a7.un {t':Nat} (I:a7 X pins σ H s) (u:Un X.fs [] H H' s.heap h') (hok:bZ X.prog X.w H' h'):a7 X pins σ H' { s with heap:=h',toks:=t' }:=by
 obtain ⟨m,⟨o,es,ep,ho,r⟩,_⟩:=id I.loc
 obtain ⟨sl,hL⟩:=u.any ho I.free (by simp)
 exact I.step (g':=s.gens) (d':=s.drawn) (ch:=[]) (fun _ z=>nomatch z) (fun b o _ hb _ e n=>u.keep b o e n hb (by simp)) (fun b o _ hb _ e n=>u.slot b o e n hb (by simp)) (fun b o _ e n=>u.free b o e n (by simp)) (fun b o _ e=>u.there b o e (by simp)) u.tups u.frzs u.tbls (fun m' hm=>by
  obtain ⟨o',es',ep',ho',r'⟩:=hm
  rw [ho] at ho'; cases ho'
  exact⟨_,es',ep',hL,r'⟩) hok I.bare
theorem a7.call {g':Array GenState}{t':Nat}{d':Drawn}{ch:List Addr} (I:a7 X pins σ H s) (u:Un (bQ X.stack) ch H H' s.heap h') (hok:bZ X.prog X.w H' h') (hg:AllBare g')
  (hch:∀ b ∈ ch,(b ∈ X.ex ∨ X.s₀.heap.objs.size<=b)/\b ≠ X.env.locals/\(∀ x c,X.env.cells.lookup x=some c->c ≠ b)/\∀ p ∈ X.pn ++ pins,p.1 ≠ b) :
  a7 X pins σ H' { s with heap:=h',gens:=g',drawn:=d',toks:=t' }:=by
 obtain ⟨m,⟨o,es,ep,ho,r⟩,_⟩:=id I.loc
 obtain ⟨sl,hL⟩:=u.any ho I.free fun z=>(hch _ z).2.1 rfl
 exact I.step (ch:=ch) hch (fun b o hL hb hc e n=>u.keep b o e n (fun z=>(bk6.mp (I.stkSub b z)).elim hL hb) hc) (fun b o _ _ hc e n=>u.any e n hc) (fun b o hc e n=>u.free b o e n hc) (fun b o hc e=>u.there b o e hc) u.tups u.frzs u.tbls (fun m' hm=>by
  obtain ⟨o',es',ep',ho',r'⟩:=hm
  rw [ho] at ho'; cases ho'
  exact⟨_,es',ep',hL,r'⟩) hok hg
theorem a7.turned {t':Nat}{it:Addr} (I:a7 X pins σ H s) (k:∀ b o,b ≠ it->s.heap.get? b=some o->h'.get? b=some o) (hn:H it=none) (hL:it ≠ X.env.locals)
  (h1:it ∈ X.ex ∨ X.s₀.heap.objs.size<=it) (h2:∀ x c,X.env.cells.lookup x=some c->c ≠ it) (h3:∀ p ∈ X.pn ++ pins,p.1 ≠ it):a7 X pins σ H { s with heap:=h',toks:=t' }:=by
 have nit:∀ b u,H b=some u->b ≠ it:=fun b u e z=>by rw [z,hn] at e; cases e
 refine I.step (g':=s.gens) (d':=s.drawn) (ch:=[it]) (fun b hb=>?_) (fun b o _ _ hc e _=>k b o (fun z=>hc (by simp [z])) e) (fun b o _ _ hc e _=>⟨o.slots,k b o (fun z=>hc (by simp [z])) e⟩) (fun _ _ _ _ n=>n)
  (fun b o hc e=>⟨o,k b o (fun z=>hc (by simp [z])) e⟩) (fun _ _ e=>e) (fun _ _ _ e=>e) (fun b ps e=>⟨#[],by rw [e]; simp⟩) (fun m hm=>?_) (fun b u e=>?_) I.bare
 ·have e:b=it:=by simpa using hb
  subst e
  exact⟨h1,hL,h2,h3⟩
 ·obtain ⟨o,es,ep,ho,r⟩:=hm
  exact⟨o,es,ep,k _ o (Ne.symm hL) ho,r⟩
 ·refine (I.hok b u e).stay (fun c v hc q=>k c v ?_ q) (fun _ q=>q) fun _ _ q=>q
  rcases hc with z | z
  ·rw [z]; exact nit b u e
  ·exact nit c _ z
theorem a7.tok (I:a7 X pins σ H s) (t:Nat):a7 X pins σ H { s with toks:=t }:=I.un (h':=s.heap) (t':=t) Un.refl I.hok
theorem a7.kept {t':Nat} (I:a7 X pins σ H s) (k:∀ b u,s.heap.get? b=some u->h'.get? b=some u):a7 X pins σ H { s with heap:=h',toks:=t' }:=I.un (Un.kept k) (I.hok.kept k)
theorem a7.laid {a:Addr}{o:HO}{t':Nat} (I:a7 X pins σ H s) (k:∀ b u,s.heap.get? b=some u->h'.get? b=some u) (hp:s.heap.objs.size<=a) (new:c9 X.prog X.w (upd H a o) h' a o) :
  a7 X pins σ (upd H a o) { s with heap:=h',toks:=t' }:=I.un (Un.laid k hp (I.hok.fresh hp)) (I.hok.laid k hp new)
theorem a7.write {x e:Addr}{o:HO}{t':Nat} (I:a7 X pins σ H s) (mu:o0 (H x)) (he:e=x ∨ H e=some (.own x)) (k:∀ b u,b ≠ e->s.heap.get? b=some u->h'.get? b=some u) (heo:∃ u,h'.get? e=some u)
  (new:c9 X.prog X.w (upd H x o) h' x o):a7 X pins σ (upd H x o) { s with heap:=h',toks:=t' }:=I.un (Un.write mu he k heo) (I.hok.write mu he k heo new)
theorem a7.weak {σ':List (Option V)} (I:a7 X pins σ H s) (hl:σ'.length=σ.length) (w:∀ (i:Nat) v,σ'[i]? = some (some v)->σ[i]? = some (some v)):a7 X pins σ' H s:=
 ⟨I.ok,I.os,I.bare,I.base,let ⟨m,hn,hl'⟩:=I.loc; ⟨m,hn,fun i x v e1 e2 e3=>hl' i x v e1 (w i v e2) e3⟩,I.cell,I.free,I.freeC,I.pin,I.hok,hl.trans I.len⟩
theorem a7.pins_of {pins':List (Addr × Obj)} (I:a7 X pins σ H s) (h:∀ p ∈ pins',s.heap.get? p.1=some p.2/\H p.1=none/\p.1 ≠ X.env.locals/\p.1 ∉ X.fs/\∀ v,p.2.data ≠ .cell v):a7 X pins' σ H s:=
 ⟨I.ok,I.os,I.bare,I.base,I.loc,I.cell,I.free,I.freeC,fun p hp=>(bn5.mp hp).elim (fun z=>I.pin p (bn0 _ z)) (h p),I.hok,I.len⟩
theorem tY {N:List Str} (hN:N.Nodup) {i j:Nat}{x:Str} (a:N[i]? = some x) (b:N[j]? = some x):i=j:=by
 obtain ⟨h1,e1⟩:=bl0.mp a
 obtain ⟨h2,e2⟩:=bl0.mp b
 exact (List.getElem_inj hN).mp (e1.trans e2.symm)
theorem z0 {M:Model}{A:Around}{E:Value->Shared->Prop}{i:Nat}{x:Str}{v:V}{u:Value}{Q:Unit->Shared->Prop} (I:a7 X pins σ H s) (hN:X.N.Nodup) (hi:X.N[i]? = some x) (hx:gR X.env.scope x) (r:aV v u)
  (h:∀ s',a7 X pins (σ.set i (some v)) H s'->(∃ a,Heap.SameBut a s.heap s'.heap/\(a=X.env.locals ∨ X.env.cells.lookup x=some a))->Q () s') (hf:X.fn x=true ∨ X.env.scope.names.lookup x=some .local:=by first | exact .inl rfl | exact .inr rfl | assumption):wpAny M A (storeName X.env x u) Q E s:=by
 obtain ⟨m,hn,hl⟩:=id I.loc
 have hcls:(X.env.scope.kind == .class || (X.env.scope.kind == .module && X.env.locals != X.env.globals))=false:=by rw [I.ok.kind]; rfl
 have hiσ:i < σ.length:=by rw [I.len]; exact (bl0.mp hi).1
 have cne:=I.cne
 have tracked:∀ {a:Addr}{h':Heap},(∃ o,s.heap.get? a=some o/\H a=none)->Heap.SameBut a s.heap h'->bZ X.prog X.w H h':=fun {a h'} ha hs b ob e=>by
  obtain ⟨_,_,hfree⟩:=ha
  refine (I.hok b ob e).stay (fun c w' hc q=>(hs.2 c ?_).trans q) (fun _ q=>q) fun _ _ q=>q
  rintro rfl
  rcases hc with rfl | hc
  ·rw [hfree] at e; cases e
  ·rw [hfree] at hc; cases hc
 rcases hx with hk | hk
 ·refine wpAny_storeName_local hk hn (fun h' hn' hs=>?_) hcls
  obtain ⟨oL,_,_,hoL,_⟩:=id hn
  refine h _ ⟨I.ok,I.os,I.bare,⟨fun b o e n hb hx=>?_,fun b o e n hb hx=>?_,I.base.free,fun b o e hx=>?_,I.base.tups,I.base.frzs,I.base.tbls⟩,⟨_,hn',fun j y v' e1 e2 e3=>?_⟩,fun y c e=>?_,I.free,I.freeC,fun p hp=>?_,tracked ⟨oL,hoL,I.free⟩ hs,by simpa using I.len⟩ ⟨_,hs,.inl rfl⟩
  ·exact (hs.2 b (bn9 (bl8 (bl5 e) I.ok.above))).trans (I.base.keep b o e n hb hx)
  ·obtain ⟨sl,e1⟩:=I.base.slot b o e n hb hx
   exact⟨sl,(hs.2 b (bn9 (bl8 (bl5 e) I.ok.above))).trans e1⟩
  ·obtain ⟨o',e1⟩:=I.base.there b o e hx
   exact⟨o',(hs.2 b (bn9 (bl8 (bl5 e) I.ok.above))).trans e1⟩
  ·by_cases hj:j=i
   ·subst hj
    rw [hi] at e1; cases e1
    rw [bt2 hiσ] at e2
    cases e2
    exact⟨u,r,.inl ⟨hk,by simp⟩⟩
   ·rw [bm8 (Ne.symm hj)] at e2
    obtain ⟨u',r',q⟩:=hl j y v' e1 e2 e3
    refine⟨u',r',?_⟩
    rcases q with ⟨k,e⟩ | ⟨k,c,e,z⟩
    ·refine .inl ⟨k,?_⟩
     have:y ≠ x:=fun e=>hj (tY hN e1 (e ▸ hi))
     simp [this,e]
    ·exact .inr ⟨k,c,e,z.sameBut hs (cne y c e)⟩
  ·obtain ⟨w',z⟩:=I.cell y c e
   exact⟨w',z.sameBut hs (cne y c e)⟩
  ·obtain ⟨e,n,ne,nf,d⟩:=I.pin p hp
   exact⟨(hs.2 p.1 ne).trans e,n,ne,nf,d⟩
 ·have hfn:X.fn x=true:=by
   rcases hf with z | z
   ·exact z
   ·rw [z] at hk; cases hk
  obtain ⟨c,hc⟩:=I.ok.has x (.inl hk)
  obtain ⟨w',z⟩:=I.cell x c hc
  refine wpAny_storeName_cell I.ok.kind hk hc z (fun h' hc' hs=>?_)
  obtain ⟨oc,hoc,hocd⟩:=id z
  refine h { s with heap:=h' } ⟨I.ok,I.os,I.bare,⟨fun b o e n hb hx=>?_,fun b o e n hb hx=>?_,I.base.free,fun b o e hx=>?_,I.base.tups,I.base.frzs,I.base.tbls⟩,⟨m,hn.sameBut hs (Ne.symm (cne x c hc)),fun j y v' e1 e2 e3=>?_⟩,fun y c' e=>?_,I.free,I.freeC,fun p hp=>?_,tracked ⟨oc,hoc,I.freeC x c hc⟩ hs,by simpa using I.len⟩ ⟨c,hs,.inr hc⟩
  ·exact (hs.2 b (bn9 (bl8 (bl5 e) (I.ok.cab x c hfn hc)))).trans (I.base.keep b o e n hb hx)
  ·obtain ⟨sl,e1⟩:=I.base.slot b o e n hb hx
   exact⟨sl,(hs.2 b (bn9 (bl8 (bl5 e) (I.ok.cab x c hfn hc)))).trans e1⟩
  ·obtain ⟨o',e1⟩:=I.base.there b o e hx
   exact⟨o',(hs.2 b (bn9 (bl8 (bl5 e) (I.ok.cab x c hfn hc)))).trans e1⟩
  ·by_cases hj:j=i
   ·subst hj
    rw [hi] at e1; cases e1
    rw [bt2 hiσ] at e2
    cases e2
    exact⟨u,r,.inr ⟨.inl hk,c,hc,hc'⟩⟩
   ·rw [bm8 (Ne.symm hj)] at e2
    obtain ⟨u',r',q⟩:=hl j y v' e1 e2 e3
    refine⟨u',r',?_⟩
    rcases q with q | ⟨k,c',e,z'⟩
    ·exact .inl q
    ·refine .inr ⟨k,c',e,z'.sameBut hs ?_⟩
     rintro rfl
     exact hj (tY hN e1 (I.ok.inj _ _ _ e hc ▸ hi))
  ·by_cases hcc:c'=c
   ·subst hcc; exact⟨_,hc'⟩
   ·obtain ⟨w2,z2⟩:=I.cell y c' e
    exact⟨w2,z2.sameBut hs hcc⟩
  ·obtain ⟨e,n,ne,nf,d⟩:=I.pin p hp
   refine⟨(hs.2 p.1 ?_).trans e,n,ne,nf,d⟩
   intro q
   rw [q,hoc] at e
   have q':oc=p.2:=bn1 e
   exact d w' (by rw [<- q']; exact hocd)
theorem tZ {M:Model}{A:Around}{E:Value->Shared->Prop}{i:Nat}{x:Str}{v:V}{u:Value}{Q:Unit->Shared->Prop} (I:a7 X pins σ H s) (hN:X.N.Nodup) (hi:X.N[i]? = some x) (hx:gR X.env.scope x) (r:aV v u)
  (h:∀ s',a7 X pins (σ.set i (some v)) H s'->Q () s') (hf:X.fn x=true ∨ X.env.scope.names.lookup x=some .local:=by first | exact .inl rfl | exact .inr rfl | assumption):wpAny M A (storeName X.env x u) Q E s:=
 z0 I hN hi hx r (fun s' I' _=>h s' I') hf
theorem a7.call' {s':Shared}{ch:List Addr} (I:a7 X pins σ H s) (ho:s'.os=s.os) (u:Un (bQ X.stack) ch H H' s.heap s'.heap) (hok:bZ X.prog X.w H' s'.heap) (hg:AllBare s'.gens)
  (hch:∀ b ∈ ch,(b ∈ X.ex ∨ X.s₀.heap.objs.size<=b)/\b ≠ X.env.locals/\(∀ x c,X.env.cells.lookup x=some c->c ≠ b)/\∀ p ∈ X.pn ++ pins,p.1 ≠ b):a7 X pins σ H' s':=by
 obtain ⟨h',g',d',t',o'⟩:=s'
 have e:o'=s.os:=ho
 subst e
 exact I.call (g':=g') (t':=t') (d':=d') u hok hg hch
end
abbrev XK:=Value->Option Addr->Hp->Prop
abbrev St:=List (Option V)
abbrev VK:=V->Hp->Prop
abbrev TE:=St->Hp->VK->Prop
abbrev TT:=St->Hp->(Bool->Hp->Prop)->Prop
abbrev TA:=St->Hp->(List V->Hp->Prop)->Prop
structure cZ where
 nx:St->Hp->Prop
 rt:VK
 bk:St->Hp->Prop:=fun _ _=>False
 ct:St->Hp->Prop:=fun _ _=>False
abbrev TS:=cZ->St->Hp->Prop
def EP (X:Cx) (pins:List (Addr × Obj)) (σ:St) (Q:VK) (u:Value) (s':Shared):Prop:=∃ v H',a7 X pins σ H' s'/\aV v u/\Q v H'
def TP (X:Cx) (pins:List (Addr × Obj)) (σ:St) (Q:Bool->Hp->Prop) (b:Bool) (s':Shared):Prop:=∃ H',a7 X pins σ H' s'/\Q b H'
def AP (X:Cx) (pins:List (Addr × Obj)) (σ:St) (Q:List V->Hp->Prop) (us:List Value) (s':Shared):Prop:=∃ vs H',a7 X pins σ H' s'/\aS vs us/\Q vs H'
def SP (X:Cx) (pins:List (Addr × Obj)) (D:cZ) (f:Flow) (s':Shared):Prop:=
 match f with
 | .next=>∃ σ' H',a7 X pins σ' H' s'/\D.nx σ' H'
 | .brk=>∃ σ' H',a7 X pins σ' H' s'/\D.bk σ' H'
 | .cont=>∃ σ' H',a7 X pins σ' H' s'/\D.ct σ' H'
 | .ret u=>∃ v σ' H',a7 X pins σ' H' s'/\aV v u/\D.rt v H'
def PE (X:Cx) (e:Expr) (t:TE):Prop:=
 ∀ (pins:List (Addr × Obj)) (s:Shared) (σ:St) (H:Hp) (Q:VK),a7 X pins σ H s->t σ H Q->wpAny (model X.prog X.w) X.A (eval e X.env) (EP X pins σ Q) X.xe s
def PT (X:Cx) (e:Expr) (t:TT):Prop:=
 ∀ (pins:List (Addr × Obj)) (s:Shared) (σ:St) (H:Hp) (Q:Bool->Hp->Prop),a7 X pins σ H s->t σ H Q->wpAny (model X.prog X.w) X.A (isTrue e X.env (eval e X.env)) (TP X pins σ Q) X.xe s
def PW (X:Cx) (e:Expr) (t:TT):Prop:=
 ∀ (whole:Sem Value) (pins:List (Addr × Obj)) (s:Shared) (σ:St) (H:Hp) (Q:Bool->Hp->Prop),a7 X pins σ H s->t σ H Q->wpAny (model X.prog X.w) X.A (isTrue e X.env whole) (TP X pins σ Q) X.xe s
theorem PW.pt {X:Cx}{e:Expr}{t:TT} (h:PW X e t):PT X e t:=h _
def PA (X:Cx) (es:List Expr) (t:TA):Prop:=
 ∀ (pos:Pos) (pins:List (Addr × Obj)) (s:Shared) (σ:St) (H:Hp) (Q:List V->Hp->Prop),a7 X pins σ H s->t σ H Q->wpAny (model X.prog X.w) X.A (spliced (backTo pos (starEach es X.env))) (AP X pins σ Q) X.xe s
def PS (X:Cx) (st:Stmt) (t:TS):Prop:=
 ∀ (pins:List (Addr × Obj)) (s:Shared) (σ:St) (H:Hp) (D:cZ),a7 X pins σ H s->t D σ H->wpAny (model X.prog X.w) X.A (exec st X.env) (SP X pins D) X.xe s
def dU (X:Cx) (st:List Stmt) (t:TS):Prop:=
 ∀ (pins:List (Addr × Obj)) (s:Shared) (σ:St) (H:Hp) (D:cZ),a7 X pins σ H s->t D σ H->wpAny (model X.prog X.w) X.A (execs st X.env) (SP X pins D) X.xe s
theorem aL {α:Type}{t:Sem α}{Q Q':α->Shared->Prop}{M:Model}{A:Around}{E:Value->Shared->Prop}{s:Shared} (h:wpAny M A t Q E s) (hQ:∀ a s,Q a s->Q' a s):wpAny M A t Q' E s:=br6 h hQ fun _ _ x=>x
section
variable {X : Cx}
theorem bin {a b:Expr}{ta tb:TE} (ha:PE X a ta) (hb:PE X b tb) {pins:List (Addr × Obj)}{s:Shared}{σ:St}{H:Hp}{R:V->V->Hp->Prop} (I:a7 X pins σ H s) (h:ta σ H fun x H1=>tb σ H1 fun y H2=>R x y H2)
  {α:Type}{Q:α->Shared->Prop}{f:Value->Value->Sem α}
  (hf:∀ v u s2 x y H2,a7 X pins σ H2 s2->aV x v->aV y u->R x y H2->wpAny (model X.prog X.w) X.A (f v u) Q X.xe s2) :
  wpAny (model X.prog X.w) X.A (eval a X.env) (fun v s₁=>wpAny (model X.prog X.w) X.A (eval b X.env) (fun u s₂=>wpAny (model X.prog X.w) X.A (f v u) Q X.xe s₂) X.xe s₁) X.xe s:=by
 refine aL (ha pins s σ H _ I h) fun v s1 ⟨x,H1,I1,r1,q1⟩=>?_
 refine aL (hb pins s1 σ H1 _ I1 q1) fun u s2 ⟨y,H2,I2,r2,q2⟩=>?_
 exact hf v u s2 x y H2 I2 r1 r2 q2
def kU (i:Nat):TE:=fun σ H Q=>∃ v,σ[i]? = some (some v)/\Q v H
def tC (v:V):TE:=fun _ H Q=>Q v H
theorem mK {i:Nat}{x:Str}{pos:Pos} (hN:X.N[i]? = some x) (hv:jA X.env.scope x) (hd:(x == ("__debug__" : Str))=false:=by decide) (hcd:(x == ("__classdict__" : Str))=false:=by decide):PE X (.Name x pos) (kU i):=by
 intro pins s σ H Q I h
 obtain ⟨v,e,h⟩:=h
 obtain ⟨m,hn,hl⟩:=I.loc
 obtain ⟨u,r,l⟩:=hl i x v hN e hv
 have fin:EP X pins σ Q u s:=⟨v,H,I,r,h⟩
 rcases l with ⟨hk,hm⟩ | ⟨hk,c,hc,hcell⟩
 ·exact wpAny_Name (wpAny_loadName_local I.ok.kind hk hn hm fin) hd
 ·rcases hk with hk | hk
  ·exact wpAny_Name (wpAny_loadName_cell I.ok.kind hk hc hcell fin) hd
  ·exact wpAny_Name (wpAny_loadName_free I.ok.kind hk hc hcell fin hcd) hd
theorem am2 {i j pos}:PE X (.Constant (.int i) j pos) (tC (.int i)):=fun _ _ _ H _ I h=>wpAny_Constant_int ⟨.int i,H,I.tok _,⟨_,rfl⟩,h⟩
theorem am3 {b j pos}:PE X (.Constant (.bool b) j pos) (tC (.bl b)):=fun _ _ _ H _ I h=>Constant_bool ⟨.bl b,H,I,rfl,h⟩
theorem am4 {j pos}:PE X (.Constant .none j pos) (tC .non):=fun _ _ _ H _ I h=>Constant_none ⟨.non,H,I,rfl,h⟩
theorem am5 {x j pos}:PE X (.Constant (.str x) j pos) (tC (.str x)):=fun _ _ _ H _ I h=>Calls.Constant_str ⟨.str x,H,I.tok _,⟨_,rfl⟩,h⟩
def Gl (X:Cx) (x:Str):Prop:=X.env.kindOf x=some .globalImplicit
theorem o7 {E:Value->Shared->Prop}{pins:List (Addr × Obj)}{s:Shared}{σ:St}{H:Hp}{x:Str}{u:Value}{pos:Pos}{Q:Value->Shared->Prop} (I:a7 X pins σ H s) (hg:Gl X x) (hm:X.mg x=some u) (h:Q u s)
  (hd:(x == ("__debug__" : Str))=false:=by decide):wpAny (model X.prog X.w) X.A (eval (.Name x pos) X.env) Q E s:=
 Calls.Name_function_global I.ok.kind hg (Calls.loadGlobal_global (by rw [I.ok.glob]; exact I.mod.glob.keeps I.bk) hm h) hd
theorem kW {E:Value->Shared->Prop}{pins:List (Addr × Obj)}{s:Shared}{σ:St}{H:Hp}{x:Str}{u:Value}{pos:Pos}{Q:Value->Shared->Prop} (I:a7 X pins σ H s) (hg:Gl X x) (hm:X.mg x=none) (hv:bootBuiltins x=some u) (h:Q u s)
  (hn:x ≠ "__name__":=by decide) (hd:(x == ("__debug__" : Str))=false:=by decide):wpAny (model X.prog X.w) X.A (eval (.Name x pos) X.env) Q E s:=by
 obtain ⟨mb,h1,h2⟩:=I.mod.blt
 exact Calls.Name_function_global I.ok.kind hg (Calls.loadGlobal_builtin (by rw [I.ok.glob]; exact I.mod.glob.keeps I.bk) hm (by rw [I.ok.blt]; exact h1.keeps I.bk) ((h2 x hn).trans hv) h) hd
theorem z9 {x:Str}{v:V}{u:Value}{pos:Pos} (hg:Gl X x) (hm:X.mg x=some u) (r:aV v u) (hd:(x == ("__debug__" : Str))=false:=by decide):PE X (.Name x pos) (tC v):=
 fun _ _ _ H _ I h=>o7 I hg hm ⟨v,H,I,r,h⟩ hd
theorem zA {x:Str}{v:V}{u:Value}{pos:Pos} (hg:Gl X x) (hm:X.mg x=none) (hv:bootBuiltins x=some u) (r:aV v u) (hn:x ≠ "__name__":=by decide) (hd:(x == ("__debug__" : Str))=false:=by decide):PE X (.Name x pos) (tC v):=
 fun _ _ _ H _ I h=>kW I hg hm hv ⟨v,H,I,r,h⟩ hn hd
variable {a b : Expr} {ta tb : TE} {pos : Pos}
def PC (X:Cx) (op:CmpOp) (a b:Expr) (t:TE):Prop:=
 ∀ (pins:List (Addr × Obj)) (s:Shared) (σ:St) (H:Hp) (Q:VK),a7 X pins σ H s->t σ H Q->
  wpAny (model X.prog X.w) X.A (eval a X.env) (fun v s₁=>wpAny (model X.prog X.w) X.A (eval b X.env) (fun u s₂=>wpAny (model X.prog X.w) X.A (compareOp op v u) (EP X pins σ Q) X.xe s₂) X.xe s₁) X.xe s
def tB (t:TE):TT:=fun σ H Q=>t σ H fun x H1=>∃ c,x = .bl c/\Q c H1
theorem am6 {op:CmpOp}{t:TE} (h:PC X op a b t) (h1:behindInMarks op b=false:=by first | exact nobehind _ (by decide) (by decide) | rfl):PT X (.Compare a [op] [b] pos) (tB t):=by
 intro pins s σ H Q I hw
 refine wpAny_isTrue_Compare1 (aL (h pins s σ H _ I hw) fun v s1 h1=>aL h1 fun u s2 h2=>aL h2 fun c s3 ⟨x,H1,I1,r1,q1⟩=>?_) h1
 obtain ⟨d,rfl,q⟩:=q1
 cases r1
 exact bq1 ⟨H1,I1,q⟩
theorem am7 {e:Expr}{t:TE} (h:PE X e t) (he:∀ whole,isTrue e X.env whole=(do let v <- whole; standAt e.pos; holding [v] (truthy v)):=by intro _; rfl):PT X e (tB t):=by
 intro pins s σ H Q I hw
 refine isTrue_plain (aL (h pins s σ H _ I hw) fun v s1 ⟨x,H1,I1,r1,q1⟩=>?_) (he _)
 obtain ⟨d,rfl,q⟩:=q1
 cases r1
 exact bq1 ⟨H1,I1,q⟩
variable {tA tB' : TT} {cM : List Expr}
def zB (t u:TT):TT:=fun σ H Q=>t σ H fun c H1=>if c=true then u σ H1 Q else Q false H1
def zC (t u:TT):TT:=fun σ H Q=>t σ H fun c H1=>if c=true then Q true H1 else u σ H1 Q
def zD (t:TT):TT:=fun σ H Q=>t σ H fun c H1=>Q (!c) H1
theorem am8 (ha:PT X a tA):PW X (.BoolOp .And [a] pos) tA:=by
 intro wh pins s σ H Q I h
 refine isTrue_and (aL (ha pins s σ H Q I h) fun c s1 e=>?_)
 cases c with
 | true=>exact isTrue_and_nil e
 | false=>exact e
theorem am9 (ha:PT X a tA):PW X (.BoolOp .Or [a] pos) tA:=by
 intro wh pins s σ H Q I h
 refine isTrue_or (aL (ha pins s σ H Q I h) fun c s1 e=>?_)
 cases c with
 | false=>exact isTrue_or_nil e
 | true=>exact e
theorem an0 (ha:PT X a tA) (hb:PW X (.BoolOp .And (b :: cM) pos) tB'):PW X (.BoolOp .And (a :: b :: cM) pos) (zB tA tB'):=by
 intro wh pins s σ H Q I h
 refine isTrue_and (aL (ha pins s σ H _ I h) fun c s1 ⟨H1,I1,q1⟩=>?_)
 cases c with
 | true=>exact hb wh pins s1 σ H1 Q I1 q1
 | false=>exact⟨H1,I1,q1⟩
theorem an1 (ha:PT X a tA) (hb:PW X (.BoolOp .Or (b :: cM) pos) tB'):PW X (.BoolOp .Or (a :: b :: cM) pos) (zC tA tB'):=by
 intro wh pins s σ H Q I h
 refine isTrue_or (aL (ha pins s σ H _ I h) fun c s1 ⟨H1,I1,q1⟩=>?_)
 cases c with
 | true=>exact⟨H1,I1,q1⟩
 | false=>exact hb wh pins s1 σ H1 Q I1 q1
theorem an2 (ha:PT X a tA):PT X (.UnaryOp .Not a pos) (zD tA):=by
 intro pins s σ H Q I h
 exact isTrue_not (ha pins s σ H (fun c H1=>Q (!c) H1) I h)
def zE (ta tb:TE):TE:=fun σ H Q=>ta σ H fun x H1=>∃ c,x = .bl c/\if c=true then tb σ H1 Q else Q (.bl false) H1
def zF (ta:TE):TE:=fun σ H Q=>ta σ H fun x H1=>∃ c,x = .bl c/\Q (.bl (!c)) H1
theorem an3 {op}{t:TE} (h:PE X a t):PE X (.BoolOp op [a] pos) t:=fun pins s σ H Q I hw=>BoolOp_one (h pins s σ H Q I hw)
theorem an4 (ha:PE X a ta) (hb:PE X (.BoolOp .And (b :: cM) pos) tb):PE X (.BoolOp .And (a :: b :: cM) pos) (zE ta tb):=by
 intro pins s σ H Q I h
 refine BoolOp_and (aL (ha pins s σ H _ I h) fun v s1 ⟨x,H1,I1,r1,q1⟩=>?_)
 obtain ⟨c,rfl,q1⟩:=q1
 cases r1
 refine bq1 ?_
 cases c with
 | true=>exact hb pins s1 σ H1 Q I1 q1
 | false=>exact⟨.bl false,H1,I1,rfl,q1⟩
theorem an5 (ha:PE X a ta):PE X (.UnaryOp .Not a pos) (zF ta):=by
 intro pins s σ H Q I h
 refine UnaryOp_ (aL (ha pins s σ H _ I h) fun v s1 ⟨x,H1,I1,r1,q1⟩=>?_)
 obtain ⟨c,rfl,q1⟩:=q1
 cases r1
 exact not_of (bq1 ⟨.bl (!c),H1,I1,rfl,q1⟩)
end
def aT (K:PySem.W.Frag) (H:Hp) (a:Addr) (xs:List V):Prop:=
 Rd H a (.lst xs) ∨
  ∃ (o:Obj) (its:Array Value) (n:Nat),K.lookup a=some o/\o.cls = .type "list"/\o.dict=none/\o.data = .seq its n/\its.size<=sizeLine/\aS xs its.toList
def aU (K:PySem.W.Frag) (H:Hp) (a:Addr) (xs:List V):Prop:=
 Rd H a (.tup xs) ∨
  ∃ (o:Obj) (its:Array Value) (n:Nat),K.lookup a=some o/\o.cls = .type "tuple"/\o.data = .seq its n/\its.size<=sizeLine/\aS xs its.toList
def an6:Value->Option V
 | .none=>some .non
 | .bool b=>some (.bl b)
 | .int i _=>some (.int i)
 | .str x _=>some (.str x)
 | .bytes b _=>some (.byt b)
 | .float b _=>some (.flt b)
 | .ref a=>some (.ref a)
 | .type n=>some (.ty n)
 | _=>none
theorem aV.abs {x:V}{u:Value} (r:aV x u):an6 u=some x:=by
 cases x with
 | non=>cases r; rfl
 | bl _=>cases r; rfl
 | int _=>obtain ⟨t,rfl⟩:=r; rfl
 | str _=>obtain ⟨t,rfl⟩:=r; rfl
 | byt _=>obtain ⟨t,rfl⟩:=r; rfl
 | flt _=>obtain ⟨t,rfl⟩:=r; rfl
 | ref _=>cases r; rfl
 | ty _=>cases r; rfl
theorem aV.inj {x y:V}{u:Value} (r:aV x u) (q:aV y u):x=y:=bn1 (r.abs.symm.trans q.abs)
theorem aS.inj:∀ {xs ys:List V}{us:List Value},aS xs us->aS ys us->xs=ys
 | _,_,_,.nil,.nil=>rfl
 | _,_,_,.cons r t,.cons r' t'=>by rw [r.inj r',aS.inj t t']
section
variable {X : Cx} {pins : List (Addr × Obj)} {σ : St} {H : Hp} {s : Shared} {a : Addr} {xs ys : List V}
theorem aT.of {K:PySem.W.Frag} (h:H a=some (.lst xs)):aT K H a xs:=.inl (.inl h)
theorem aU.of {K:PySem.W.Frag} (h:H a=some (.tup xs)):aU K H a xs:=.inl (.inl h)
theorem a7.list (I:a7 X pins σ H s) (h:aT X.K H a xs):∃ its:List Value,aS xs its/\PlainL s.heap a its.toArray/\xs.length<=sizeLine:=by
 rcases h with h | ⟨o,its,n,hk,hc,hd,hs,hz,r⟩
 ·obtain ⟨z,its,n,r,e⟩:=h.ok I.hok
  exact⟨its,r,⟨_,n,e,rfl,rfl,rfl⟩,z⟩
 ·refine⟨its.toList,r,⟨o,n,I.kIn a o hk,hc,hd,by simpa using hs⟩,?_⟩
  have e:=r.length
  simp only [bp7] at e
  omega
theorem a7.tuple (I:a7 X pins σ H s) (h:aU X.K H a xs):∃ its:List Value,aS xs its/\IsTup s.heap a its.toArray/\xs.length<=sizeLine:=by
 rcases h with h | ⟨o,its,n,hk,hc,hs,hz,r⟩
 ·obtain ⟨z,its,r,p,_⟩:=h.ok I.hok
  exact⟨its,r,p,z⟩
 ·refine⟨its.toList,r,⟨o,I.kIn a o hk,hc,n,by simpa using hs⟩,?_⟩
  have e:=r.length
  simp only [bp7] at e
  omega
theorem a7.list_inj (I:a7 X pins σ H s) (h:aT X.K H a xs) (h':aT X.K H a ys):xs=ys:=by
 obtain ⟨its,r,⟨o,n,e,_,_,d⟩,_⟩:=I.list h
 obtain ⟨its',r',⟨o',n',e',_,_,d'⟩,_⟩:=I.list h'
 rw [e] at e'; cases e'
 rw [d] at d'
 injection d' with d1 _
 have:its=its':=by simpa using congrArg Array.toList d1
 subst this
 exact r.inj r'
theorem a7.tuple_inj (I:a7 X pins σ H s) (h:aU X.K H a xs) (h':aU X.K H a ys):xs=ys:=by
 obtain ⟨its,r,⟨o,e,_,n,d⟩,_⟩:=I.tuple h
 obtain ⟨its',r',⟨o',e',_,n',d'⟩,_⟩:=I.tuple h'
 rw [e] at e'; cases e'
 rw [d] at d'
 injection d' with d1 _
 have:its=its':=by simpa using congrArg Array.toList d1
 subst this
 exact r.inj r'
end
abbrev Cx.wish (X:Cx) (E:Value->Shared->Prop):Cx:={ X with xe:=E }
abbrev Cx.nox (X:Cx):Cx:=X.wish fun _ _=>False
theorem Cx.Ok.wish {X:Cx} (ok:X.Ok) (E:Value->Shared->Prop):(X.wish E).Ok:=
 ⟨ok.mod,ok.kind,ok.glob,ok.blt,ok.above,ok.inj,ok.has,ok.cab,ok.hd,ok.frames,ok.stk,ok.exf,ok.bs,ok.bsz,ok.noex,ok.exfs,ok.funs,ok.frf⟩
theorem Cx.Ok.unwish {X:Cx}{E:Value->Shared->Prop} (ok:(X.wish E).Ok):X.Ok:=
 ⟨ok.mod,ok.kind,ok.glob,ok.blt,ok.above,ok.inj,ok.has,ok.cab,ok.hd,ok.frames,ok.stk,ok.exf,ok.bs,ok.bsz,ok.noex,ok.exfs,ok.funs,ok.frf⟩
section
variable {X : Cx} {pins : List (Addr × Obj)} {σ : St} {H : Hp} {s : Shared} {E : Value → Shared → Prop}
theorem a7.wish (I:a7 X pins σ H s) (E:Value->Shared->Prop):a7 (X.wish E) pins σ H s:=⟨I.ok.wish E,I.os,I.bare,I.base,I.loc,I.cell,I.free,I.freeC,I.pin,I.hok,I.len⟩
theorem a7.unwish (I:a7 (X.wish E) pins σ H s):a7 X pins σ H s:=⟨I.ok.unwish,I.os,I.bare,I.base,I.loc,I.cell,I.free,I.freeC,I.pin,I.hok,I.len⟩
theorem SP.unwish {D:cZ}{f:Flow}{s':Shared} (h:SP (X.wish E) pins D f s'):SP X pins D f s':=by
 cases f with
 | next=>obtain ⟨σ',H',I,q⟩:=h; exact⟨σ',H',I.unwish,q⟩
 | brk=>obtain ⟨σ',H',I,q⟩:=h; exact⟨σ',H',I.unwish,q⟩
 | cont=>obtain ⟨σ',H',I,q⟩:=h; exact⟨σ',H',I.unwish,q⟩
 | ret u=>obtain ⟨v,σ',H',I,r,q⟩:=h; exact⟨v,σ',H',I.unwish,r,q⟩
theorem dU.nox {st:List Stmt}{t:TS} (h:dU X.nox st t):dU X st t:=fun pins s σ H D I hw=>
 br6 (h pins s σ H D (I.wish _) hw) (fun _ _ q=>q.unwish) fun _ _ z=>False.elim z
end
section
variable {X : Cx} {st : Stmt} {cM : List Stmt} {t u : TS} {e : Expr} {te : TE} {pos : Pos}
def zG:TS:=fun D σ H=>D.nx σ H
def zH (t u:TS):TS:=fun D σ H=>t { D with nx:=u D } σ H
theorem an7:dU X [] zG:=fun _ _ σ H _ I h=>bA0 ⟨σ,H,I,h⟩
theorem an8 (h1:PS X st t) (h2:dU X cM u):dU X (st :: cM) (zH t u):=by
 intro pins s σ H D I h
 refine wpAny_execs_cons (aL (h1 pins s σ H { D with nx:=u D } I h) fun f s1 q=>?_)
 cases f with
 | next=>
  obtain ⟨σ',H',I',q⟩:=q
  exact h2 pins s1 σ' H' D I' q
 | ret v=>exact q
 | brk=>exact q
 | cont=>exact q
theorem an9 (h1:PS X st t):dU X [st] t:=by
 intro pins s σ H D I h
 refine wpAny_execs_cons (aL (h1 pins s σ H D I h) fun f s1 q=>?_)
 cases f with
 | next=>exact bA0 q
 | ret v=>exact q
 | brk=>exact q
 | cont=>exact q
theorem a7.quiet {pins:List (Addr × Obj)}{σ:St}{H:Hp}{s:Shared} (I:a7 X pins σ H s):interactive X.env=false:=by simp [interactive,I.ok.kind]
def o8 (te:TE):TS:=fun D σ H=>te σ H fun _ H1=>D.nx σ H1
theorem qA (he:PE X e te) (hs:swapsWith e none pos.line X.env=pure false:=by rfl):PS X (.Expr e pos) (o8 te):=by
 intro pins s σ H D I h
 exact wpAny_Expr_any (aL (he pins s σ H _ I h) fun v s1 ⟨x,H1,I1,r1,q1⟩=>⟨σ,H1,I1,q1⟩) I.quiet hs
def u9 (te:TE):TS:=fun D σ H=>te σ H D.rt
theorem zI (he:PE X e te):PS X (.Return (some e) pos) (u9 te):=by
 intro pins s σ H D I h
 exact wpAny_Return_some (aL (he pins s σ H _ I h) fun v s1 ⟨x,H1,I1,r1,q1⟩=>⟨x,σ,H1,I1,r1,q1⟩)
def zJ (c:TT) (t u:TS):TS:=fun D σ H=>c σ H fun b H1=>if b=true then t D σ H1 else u D σ H1
theorem ao0 {c:Expr}{a b:List Stmt}{tc:TT} (hc:PT X c tc) (ha:dU X a t) (hb:dU X b u):PS X (.If c a b pos) (zJ tc t u):=by
 intro pins s σ H D I h
 refine wpAny_If (aL (hc pins s σ H _ I h) fun d s1 ⟨H1,I1,q1⟩=>?_)
 cases d with
 | true=>exact ha pins s1 σ H1 D I1 q1
 | false=>exact hb pins s1 σ H1 D I1 q1
end
abbrev TG:=V->St->Hp->(St->Hp->Prop)->Prop
abbrev kX:=List V->St->Hp->(St->Hp->Prop)->Prop
def PG (X:Cx) (target:Expr) (t:TG):Prop:=
 ∀ (pins:List (Addr × Obj)) (s:Shared) (σ:St) (H:Hp) (v:V) (u:Value) (Q:St->Hp->Prop),a7 X pins σ H s->aV v u->t v σ H Q->
  wpAny (model X.prog X.w) X.A (assign target X.env u) (fun _ s'=>∃ σ' H',a7 X pins σ' H' s'/\Q σ' H') X.xe s
def qB (X:Cx) (ts:List Expr) (t:kX):Prop:=
 ∀ (pins:List (Addr × Obj)) (s:Shared) (σ:St) (H:Hp) (vs:List V) (us:List Value) (Q:St->Hp->Prop),a7 X pins σ H s->aS vs us->t vs σ H Q->
  wpAny (model X.prog X.w) X.A (assignInOrder ((assignEach ts X.env).map (·.2)) us) (fun _ s'=>∃ σ' H',a7 X pins σ' H' s'/\Q σ' H') X.xe s
section
variable {X : Cx} {pos : Pos}
def dA (i:Nat):TG:=fun v σ H Q=>Q (σ.set i (some v)) H
theorem gS {i:Nat}{x:Str} (hN:X.N.Nodup) (hi:X.N[i]? = some x) (hx:gR X.env.scope x) (hf:X.fn x=true ∨ X.env.scope.names.lookup x=some .local:=by first | exact .inl rfl | exact .inr rfl | assumption):PG X (.Name x pos) (dA i):=by
 intro pins s σ H v u Q I r h
 exact wpAny_assign_Name (tZ I hN hi hx r (fun s' I'=>⟨_,H,I',h⟩) hf)
def mL:kX:=fun vs σ H Q=>vs = []/\Q σ H
def gF (t:TG) (u:kX):kX:=fun vs σ H Q=>∃ v r,vs=v :: r/\t v σ H fun σ' H'=>u r σ' H' Q
theorem qD:qB X [] mL:=by
 intro pins s σ H vs us Q I r h
 obtain ⟨e,h⟩:=h
 subst e
 cases r
 exact assignInOrder_nil ⟨σ,H,I,h⟩
theorem iM {e:Expr}{es:List Expr}{t:TG}{u:kX} (h1:PG X e t) (h2:qB X es u)
  (hs:(assignEach (e :: es) X.env).map (·.2)=assign e X.env :: (assignEach es X.env).map (·.2):=by rfl):qB X (e :: es) (gF t u):=by
 intro pins s σ H vs us Q I r h
 obtain ⟨v,vr,e1,h⟩:=h
 subst e1
 cases r with
 | cons r rr=>
  rw [hs]
  refine assignInOrder_cons (aL (h1 pins s σ H _ _ _ I r h) fun _ s1 ⟨σ1,H1,I1,q1⟩=>?_)
  exact h2 pins s1 σ1 H1 _ _ Q I1 rr q1
def mM (K:PySem.W.Frag) (n:Nat) (t:kX):TG:=fun v σ H Q=>∃ a xs,v = .ref a/\aU K H a xs/\xs.length=n/\t xs σ H Q
theorem qE {es:List Expr}{k:Nat}{t:kX}{n:Nat} (hc:X.calm=true) (h:qB X es t)
  (hn:(assignEach es X.env).length=n:=by rfl) (hst:(assignEach es X.env).findIdx? (·.1)=none:=by rfl):PG X (.Tuple es k pos) (mM X.K n t):=by
 intro pins s σ H v u Q I r hw
 obtain ⟨a,xs,e1,hq,hl,hw⟩:=hw
 subst e1
 cases r
 obtain ⟨its,rv,ht,hz⟩:=I.tuple hq
 refine assign_Tuple_tuple (I.ok.hd hc) ht (by simp [hn,<- hl,rv.length]) hst fun h' hx=>?_
 have I1:a7 X pins σ H { s with heap:=h' }:=I.kept (t':=s.toks) fun b o e=>hx b o (bn9 (bl5 e)) e
 exact h pins _ σ H xs _ Q I1 (by simpa using rv) hw
def mO (te:TE) (g:TG):TS:=fun D σ H=>te σ H fun x H1=>g x σ H1 D.nx
theorem zK {tg e:Expr}{te:TE}{g:TG} (he:PE X e te) (hg:PG X tg g) (hs:swapsWithSole [tg] e pos.line X.env=pure false:=by rfl) (hw:swappedStores [tg] e X.env=pure none:=by rfl)
  (h1:(assignEach [tg] X.env).map (·.2) = [assign tg X.env]:=by rfl):PS X (.Assign [tg] e pos) (mO te g):=by
 intro pins s σ H D I h
 refine wpAny_Assign_stores (aL (he pins s σ H _ I h) fun v s1 ⟨x,H1,I1,r1,q1⟩=>?_) hs hw
 rw [h1]
 exact aL (hg pins s1 σ H1 x v _ I1 r1 q1) fun _ s2 q=>q
theorem zL {i:Nat}{x:Str}{e:Expr}{te:TE}{pos':Pos} (hN:X.N.Nodup) (hi:X.N[i]? = some x) (hx:gR X.env.scope x) (he:PE X e te) (hs:swapsWith e (some (.Name x pos')) pos.line X.env=pure false:=by rfl) (hf:X.fn x=true ∨ X.env.scope.names.lookup x=some .local:=by first | exact .inl rfl | exact .inr rfl | assumption) :
  PS X (.Assign [.Name x pos'] e pos) (mO te (dA i)):=by
 intro pins s σ H D I h
 refine wpAny_Assign_Name (aL (he pins s σ H _ I h) fun v s1 ⟨y,H1,I1,r1,q1⟩=>?_) hs
 exact tZ I1 hN hi hx r1 (fun s2 I2=>⟨_,H1,I2,q1⟩) hf
end
section
variable {X : Cx} {pos : Pos}
def zM (c:TT) (tb:TS):TS:=fun D σ H=>∃ W:Nat->St->Hp->Prop,(∃ m,W m σ H)/\∀ m σ H,W m σ H->
 c σ H fun b H1=>if b=true then ∃ N:St->Hp->Prop,(∀ σ' H',N σ' H'->∃ m',m' < m/\W m' σ' H')/\tb { D with nx:=N,ct:=N,bk:=D.nx } σ H1 else D.nx σ H1
theorem ao1 {c:Expr}{body:List Stmt}{tc:TT}{tb:TS} (hp:PassesOwn (model X.prog X.w) X.A X.env X.xe) (hc:PT X c tc) (hb:dU X body tb):PS X (.While c body [] pos) (zM tc tb):=by
 intro pins s σ H D I h
 obtain ⟨W,⟨m0,w0⟩,turn⟩:=h
 refine wpAny_While (codeAny_whileLoop (fun n s'=>∃ σ' H',a7 X pins σ' H' s'/\W n σ' H') ?_ m0 ⟨σ,H,I,w0⟩)
 rintro n s1 ⟨σ1,H1,I1,w1⟩
 refine bA1 hp (aL (hc pins s1 σ1 H1 _ I1 (turn n σ1 H1 w1)) fun b s2 ⟨H2,I2,q2⟩=>?_)
 cases b with
 | true=>
  obtain ⟨N,hN,q2⟩:=q2
  rw [if_pos rfl]
  refine bA1 hp (aL (hb pins s2 σ1 H2 _ I2 q2) fun f s3 q3=>?_)
  cases f with
  | next=>
   obtain ⟨σ3,H3,I3,n3⟩:=q3
   obtain ⟨m',hm,w3⟩:=hN σ3 H3 n3
   exact⟨m',hm,σ3,H3,I3,w3⟩
  | cont=>
   obtain ⟨σ3,H3,I3,n3⟩:=q3
   obtain ⟨m',hm,w3⟩:=hN σ3 H3 n3
   exact⟨m',hm,σ3,H3,I3,w3⟩
  | brk=>exact q3
  | ret v=>exact q3
 | false=>
  rw [if_neg bm6]
  exact bA0 ⟨σ1,H2,I2,q2⟩
end
structure It where
 go:Nat->Hp->Prop
 yld:Nat->Hp->V->Hp->Prop
 stop:Nat->Hp->Prop
def gG (X:Cx) (pins:List (Addr × Obj)) (H:Hp) (b:Addr):Prop:=
 H b=none/\b ≠ X.env.locals/\b ∉ X.fs/\(b ∈ X.ex ∨ X.s₀.heap.objs.size<=b)/\(∀ x c,X.env.cells.lookup x=some c->c ≠ b)/\∀ p ∈ X.pn ++ pins,p.1 ≠ b
theorem a7.fpOk {X:Cx}{pins:List (Addr × Obj)}{σ:St}{H H':Hp}{s:Shared}{b:Addr} (I:a7 X pins σ H s) (hb:s.heap.objs.size<=b) (hn:H' b=none):gG X pins H' b:=by
 refine⟨hn,bu1 (bl8 I.lt hb),I.nofs hb,.inr (bo3 I.sz hb),fun x c e z=>?_,fun p hp z=>?_⟩
 ·obtain ⟨v,q⟩:=I.cell x c e
  exact absurd (bl8 q.lt (by rw [z]; exact hb)) (bt0 _)
 ·exact absurd (bl8 (bl5 (I.pin p hp).1) (by rw [z]; exact hb)) (bt0 _)
structure iN (P:Program) (w:World) (K:PySem.W.Frag) (tg:Expr) (J:It) (fp:List Addr) (it:Addr) (tn:Nat->Heap->Prop):Prop where
 mem:it ∈ fp
 obj:∀ i h,tn i h->∀ b ∈ fp,∃ o,h.get? b=some o/\∀ v,o.data ≠ .cell v
 keep:∀ i h h',tn i h->(∀ b ∈ fp,∀ o,h.get? b=some o->h'.get? b=some o)->tn i h'
 item:∀ (X:Cx),X.prog=P->X.w=w->X.K=K->X.calm=true->∀ (i:Nat) (pins:List (Addr × Obj)) (s:Shared) (σ:St) (H:Hp) (E:Value->Shared->Prop),a7 X pins σ H s->(∀ b ∈ fp,gG X pins H b)->tn i s.heap->J.go i H->
  wpAny (model P w) X.A (pyNext (.ref it)) (fun r s1=>∃ u,r=some u/\
   wpAny (model P w) X.A (letOwnedTupleGo tg (.ref it) u) (fun _ s2=>∃ x H',a7 X pins σ H' s2/\aV x u/\J.yld i H x H'/\tn (i+1) s2.heap/\∀ b ∈ fp,H' b=none) E s1) E s
 done:∀ (X:Cx),X.prog=P->X.w=w->X.K=K->X.calm=true->∀ (i:Nat) (pins:List (Addr × Obj)) (s:Shared) (σ:St) (H:Hp) (E:Value->Shared->Prop),a7 X pins σ H s->(∀ b ∈ fp,gG X pins H b)->tn i s.heap->J.stop i H->
  wpAny (model P w) X.A (pyNext (.ref it)) (fun r s1=>r=none/\a7 X pins σ H s1) E s
 self:∀ (A:Around) (i:Nat) (s:Shared) (Q:Value->Shared->Prop) (E:Value->Shared->Prop),tn i s.heap->Q (.ref it) s->wpAny (model P w) A (pyIter (.ref it)) Q E s
abbrev TI:=St->Hp->(It->Hp->Prop)->Prop
def zN (X:Cx) (pins:List (Addr × Obj)) (σ:St) (tg:Expr) (R:It->Hp->Prop) (itv:Value) (s2:Shared):Prop:=
 ∃ (it:Addr) (fp:List Addr) (tn:Nat->Heap->Prop) (J:It) (H':Hp),itv = .ref it/\a7 X pins σ H' s2/\iN X.prog X.w X.K tg J fp it tn/\tn 0 s2.heap/\(∀ b ∈ fp,gG X pins H' b)/\R J H'
def PI (X:Cx) (tg iter:Expr) (wi:TI):Prop:=
 ∀ (pins:List (Addr × Obj)) (s:Shared) (σ:St) (H:Hp) (R:It->Hp->Prop),a7 X pins σ H s->wi σ H R->
  wpAny (model X.prog X.w) X.A (eval iter X.env) (fun v s1=>wpAny (model X.prog X.w) X.A (pyIter v) (zN X pins σ tg R) X.xe s1) X.xe s
theorem uA {M:Model}{A:Around}{E:Value->Shared->Prop}{s:Shared}{tg:Expr}{it:Addr}{u:Value}{o:Obj}{n:String}{vs:Array Value}{Q:Unit->Shared->Prop} (ho:s.heap.get? it=some o) (hc:o.cls = .type n) (hd:o.data = .fields vs)
    (hn : ["enumerate","zip","dict_itemiterator","dict_reverseitemiterator","odict_iterator","itertools.zip_longest","itertools.pairwise"].contains n=false) (hQ:Q () s):wpAny M A (letOwnedTupleGo tg (.ref it) u) Q E s:=by
  unfold letOwnedTupleGo
  cases tg <;> first
    | exact bk2 hQ
    | (cases u <;> first
        | exact bk2 hQ
        | (refine bj8 (wpAny_load ho ?_)
           rw [hc,hd]
           show wpAny M A (if (["enumerate","zip","dict_itemiterator","dict_reverseitemiterator","odict_iterator","itertools.zip_longest","itertools.pairwise"].contains n && vs[0]? == some (rawInt _))=true then _ else _) Q E s
           rw [if_neg (by intro h; rw [hn,bq2] at h; cases h)]
           exact bk2 hQ))
def uB (K:PySem.W.Frag) (a:Addr):It:=
 ⟨fun i H=>∃ xs x,aT K H a xs/\xs[i]? = some x,fun i H x H'=>H'=H/\∀ xs,aT K H a xs->xs[i]? = some x,fun i H=>∃ xs,aT K H a xs/\xs.length<=i⟩
def uC (K:PySem.W.Frag) (a:Addr):It:=
 ⟨fun i H=>∃ xs x,aU K H a xs/\xs[i]? = some x,fun i H x H'=>H'=H/\∀ xs,aU K H a xs->xs[i]? = some x,fun i H=>∃ xs,aU K H a xs/\xs.length<=i⟩
def qF (lo:Int) (n:Nat):It:=⟨fun i _=>i < n,fun i H x H'=>H'=H/\x = .int (lo+i),fun i _=>n<=i⟩
theorem ao2 {P:Program}{w:World}{K:PySem.W.Frag}{tg:Expr} (a it:Addr):iN P w K tg (uB K a) [it] it (fun i h=>h.IsListIter it a i) where
 mem:=by simp
 obj:=fun i h st b hb=>by
  have e:b=it:=by simpa using hb
  subst e
  obtain ⟨o,e,c,d⟩:=st
  exact⟨o,e,fun v z=>by rw [d] at z; cases z⟩
 keep:=fun i h h' st k=>st.at fun o e=>k it (by simp) o e
 item:=by
  intro X hP hw hK hc i pins s σ H E I hf st hg
  subst hP hw hK
  obtain ⟨xs,x,hq,hx⟩:=hg
  obtain ⟨its,rv,p,hz⟩:=I.list hq
  obtain ⟨u,hu,ru⟩:=rv.get hx
  obtain ⟨f0,f1,f2,f3,f4,f5⟩:=hf it (by simp)
  refine wpAny_pyNext_list_item st p.isList (x:=u) (by simpa using hu) fun h' st' sb=>?_
  have I1:a7 X pins σ H { s with heap:=h' }:=I.turned (t':=s.toks) (fun b o hb e=>(sb.2 b hb).trans e) f0 f1 f3 f4 f5
  obtain ⟨o,e,c,d⟩:=id st'
  exact⟨u,rfl,uA (s:={ s with heap:=h' }) e c d (by decide) ⟨x,H,I1,ru,⟨rfl,fun ys hy=>by rw [I.list_inj hy hq]; exact hx⟩,st',fun b hb=>(hf b hb).1⟩⟩
 done:=by
  intro X hP hw hK hc i pins s σ H E I hf st hg
  subst hP hw hK
  obtain ⟨xs,hq,hx⟩:=hg
  obtain ⟨its,rv,p,hz⟩:=I.list hq
  obtain ⟨f0,f1,f2,f3,f4,f5⟩:=hf it (by simp)
  have hl:=rv.length
  exact wpAny_pyNext_list_end (I.ok.hd hc) st p.isList (by simp; omega) fun h' eb=>⟨rfl,I.turned (t':=s.toks) (fun b o hb e=>eb b o hb e) f0 f1 f3 f4 f5⟩
 self:=fun _ _ _ _ _ st h=>wpAny_pyIter_listiter st h
theorem ao3 {P:Program}{w:World}{K:PySem.W.Frag}{tg:Expr} (a it:Addr):iN P w K tg (uC K a) [it] it (fun i h=>h.IsTupleIter it a i) where
 mem:=by simp
 obj:=fun i h st b hb=>by
  have e:b=it:=by simpa using hb
  subst e
  obtain ⟨o,e,c,d⟩:=st
  exact⟨o,e,fun v z=>by rw [d] at z; cases z⟩
 keep:=fun i h h' st k=>st.at fun o e=>k it (by simp) o e
 item:=by
  intro X hP hw hK hc i pins s σ H E I hf st hg
  subst hP hw hK
  obtain ⟨xs,x,hq,hx⟩:=hg
  obtain ⟨its,rv,p,hz⟩:=I.tuple hq
  obtain ⟨u,hu,ru⟩:=rv.get hx
  obtain ⟨f0,f1,f2,f3,f4,f5⟩:=hf it (by simp)
  refine wpAny_pyNext_tuple_item st (show s.heap.IsTuple a its.toArray from p) (x:=u) (by simpa using hu) fun h' st' sb=>?_
  have I1:a7 X pins σ H { s with heap:=h' }:=I.turned (t':=s.toks) (fun b o hb e=>(sb.2 b hb).trans e) f0 f1 f3 f4 f5
  obtain ⟨o,e,c,d⟩:=id st'
  exact⟨u,rfl,uA (s:={ s with heap:=h' }) e c d (by decide) ⟨x,H,I1,ru,⟨rfl,fun ys hy=>by rw [I.tuple_inj hy hq]; exact hx⟩,st',fun b hb=>(hf b hb).1⟩⟩
 done:=by
  intro X hP hw hK hc i pins s σ H E I hf st hg
  subst hP hw hK
  obtain ⟨xs,hq,hx⟩:=hg
  obtain ⟨its,rv,p,hz⟩:=I.tuple hq
  obtain ⟨f0,f1,f2,f3,f4,f5⟩:=hf it (by simp)
  have hl:=rv.length
  exact wpAny_pyNext_tuple_end (I.ok.hd hc) st (show s.heap.IsTuple a its.toArray from p) (by simp; omega) fun h' eb=>⟨rfl,I.turned (t':=s.toks) (fun b o hb e=>eb b o hb e) f0 f1 f3 f4 f5⟩
 self:=fun _ _ _ _ _ st h=>wpAny_pyIter_tupleiter st h
theorem ao4 {P:Program}{w:World}{K:PySem.W.Frag}{tg:Expr} (it:Addr) (lo:Int) (n:Nat):iN P w K tg (qF lo n) [it] it (fun i h=>IsRangeIter h it (lo+(i:Nat) * 1) ((n:Int) - (i:Nat)) 1) where
 mem:=by simp
 obj:=fun i h st b hb=>by
  have e:b=it:=by simpa using hb
  subst e
  exact⟨_,st,fun v z=>by
   have z':Data.fields _=Data.cell v:=z
   cases z'⟩
 keep:=fun i h h' st k=>k it (by simp) _ st
 item:=by
  intro X hP hw hK hc i pins s σ H E I hf st hg
  subst hP hw hK
  obtain ⟨f0,f1,f2,f3,f4,f5⟩:=hf it (by simp)
  have W:=Walks.range (prog:=X.prog) (w:=X.w) (I.ok.hd hc) it lo 1 n
  refine W.item i s _ _ hg st fun v h' tk hv st' kk=>?_
  obtain ⟨t,rfl⟩:=hv
  have I1:a7 X pins σ H { s with heap:=h',toks:=tk }:=I.turned (fun b o hb e=>kk b o (by simpa using hb) e) f0 f1 f3 f4 f5
  refine⟨_,rfl,uA (s:={ s with heap:=h',toks:=tk }) (n:="range_iterator") st' rfl rfl (by decide) ⟨.int (lo+i),H,I1,⟨t,?_⟩,⟨rfl,rfl⟩,st',fun b hb=>(hf b hb).1⟩⟩
  rw [Int.mul_one]
 done:=by
  intro X hP hw hK hc i pins s σ H E I hf st hg
  subst hP hw hK
  obtain ⟨f0,f1,f2,f3,f4,f5⟩:=hf it (by simp)
  exact wpAny_pyNext_range_end (I.ok.hd hc) st (by have:n<=i:=hg; omega) fun h' eb=>⟨rfl,I.turned (t':=s.toks) (fun b o hb e=>eb b o hb e) f0 f1 f3 f4 f5⟩
 self:=fun _ _ _ _ _ st h=>wpAny_pyIter_rangeiter st h
section
variable {X : Cx} {tg : Expr}
theorem ao5 {pins:List (Addr × Obj)}{σ:St}{H:Hp}{s:Shared}{R:It->Hp->Prop}{E:Value->Shared->Prop}{lo hi:Int}{t u v:Tok}{tk:Nat} (I:a7 X pins σ H s) (h1 : -(2 ^ 62)<=lo) (h2:lo < 2 ^ 62) (h3 : -(2 ^ 62)<=hi) (h4:hi < 2 ^ 62)
  (q:R (qF lo (hi - lo).toNat) H):wpAny (model X.prog X.w) X.A (pyIter (.ref s.heap.objs.size)) (zN X pins σ tg R) E { s with heap:=s.heap.push { cls:=.type "range",data:=.fields #[.int lo t,.int hi u,.int 1 v] },toks:=tk }:=by
 refine wpAny_pyIter_range (IsRange.new ..) (small_one h1 h2 h3 h4) ?_
 have I1:a7 X pins σ H { s with heap:=s.heap.push { cls:=.type "range",data:=.fields #[.int lo t,.int hi u,.int 1 v] },toks:=tk }:=I.kept fun b o e=>bk0 _ e
 refine⟨(s.heap.push { cls:=.type "range",data:=.fields #[.int lo t,.int hi u,.int 1 v] }).objs.size,[(s.heap.push { cls:=.type "range",data:=.fields #[.int lo t,.int hi u,.int 1 v] }).objs.size],_,_,H,rfl,
  I1.kept (t':=tk) fun b o e=>bk0 _ e,ao4 _ lo (hi - lo).toNat,?_,fun b hb=>?_,q⟩
 ·have e1:lo+((0:Nat):Int) * 1=lo:=by simp
  have e2:(((hi - lo).toNat:Nat):Int) - ((0:Nat):Int)=Builtin.Range.rangeSize lo hi 1:=by rw [rangeSize_one]; split <;> omega
  show IsRangeIter _ _ (lo+((0:Nat):Int) * 1) ((((hi - lo).toNat:Nat):Int) - ((0:Nat):Int)) 1
  rw [e1,e2]
  exact bl7 _ rfl
 ·have e:b=(s.heap.push { cls:=.type "range",data:=.fields #[.int lo t,.int hi u,.int 1 v] }).objs.size:=by simpa using hb
  subst e
  exact I1.fpOk (bl1 _) (I1.hok.fresh (bl1 _))
def zO (ta:TA):TI:=fun σ H R=>ta σ H fun vs H1=>∃ j:Int,vs = [.int j]/\-(2 ^ 62)<=j/\j < 2 ^ 62/\R (qF 0 j.toNat) H1
theorem ao6 {a:Expr}{ta:TA}{p pos:Pos} (hg:Gl X "range") (hm:X.mg "range" = none) (ha:PA X [a] ta) (hs:starEach [a] X.env = [(false,eval a X.env)]:=by rfl):PI X tg (.Call (.Name "range" p) [a] [] pos) (zO ta):=by
 intro pins s σ H R I h
 refine Call_ (kW I hg hm boot_range (bw6 (aL (ha pos pins s σ H _ I h) fun us s1 ⟨vs,H1,I1,r1,q1⟩=>?_) hs rfl))
 obtain ⟨j,e,q1,q2,q⟩:=q1
 subst e
 cases r1 with
 | cons r rr=>
  cases rr
  obtain ⟨t,rfl⟩:=r
  exact call_range_1 (ao5 I1 (by omega) (by omega) q1 q2 (by simpa using q))
def zP (wi:TI) (g:TG) (tb:TS):TS:=fun D σ H=>wi σ H fun J H1=>∃ W:Nat->Nat->St->Hp->Prop,(∃ m,W 0 m σ H1)/\∀ i m σ H,W i m σ H->
 (J.stop i H/\D.nx σ H) ∨ (J.go i H/\∃ N:St->Hp->Prop,(∀ σ' H',N σ' H'->∃ m',m' < m/\W (i+1) m' σ' H')/\∀ x H',J.yld i H x H'->g x σ H' fun σ2 H2=>tb { D with nx:=N,ct:=N,bk:=D.nx } σ2 H2)
def o9 (fp:List Addr) (h:Heap):List (Addr × Obj):=fp.filterMap fun b=>(h.get? b).map fun o=>(b,o)
theorem qG {fp:List Addr}{h:Heap}{b:Addr}{o:Obj} (hb:b ∈ fp) (e:h.get? b=some o):(b,o) ∈ o9 fp h:=List.mem_filterMap.mpr ⟨b,hb,by rw [e]; rfl⟩
theorem ao7 {fp:List Addr}{h:Heap}{p:Addr × Obj} (hp:p ∈ o9 fp h):p.1 ∈ fp/\h.get? p.1=some p.2:=by
 obtain ⟨b,hb,e⟩:=List.mem_filterMap.mp hp
 cases q:h.get? b with
 | none=>rw [q] at e; cases e
 | some o=>
  rw [q] at e
  have e':(b,o)=p:=bn1 e
  subst e'
  exact⟨hb,q⟩
theorem a7.pinned {pins:List (Addr × Obj)}{σ:St}{H:Hp}{s:Shared}{fp:List Addr} (I:a7 X pins σ H s) (hf:∀ b ∈ fp,gG X pins H b) (ho:∀ b ∈ fp,∃ o,s.heap.get? b=some o/\∀ v,o.data ≠ .cell v):a7 X (pins ++ o9 fp s.heap) σ H s:=
 I.pins_of fun p hp=>(bn5.mp hp).elim (fun z=>I.pin p (bn4 _ z)) fun z=>by
  obtain ⟨hb,e⟩:=ao7 z
  obtain ⟨f0,f1,f2,_⟩:=hf p.1 hb
  obtain ⟨o,e',d⟩:=ho p.1 hb
  rw [e] at e'; cases e'
  exact⟨e,f0,f1,f2,d⟩
theorem a7.unpinned {pins pl:List (Addr × Obj)}{σ:St}{H:Hp}{s:Shared} (I:a7 X (pins ++ pl) σ H s):a7 X pins σ H s:=I.pins_of fun p hp=>I.pin p (bn4 _ (bn0 _ hp))
theorem ao8 {iter:Expr}{body:List Stmt}{wi:TI}{g:TG}{tb:TS}{pos:Pos} (hp:PassesOwn (model X.prog X.w) X.A X.env X.xe) (hc:X.calm=true) (hi:PI X tg iter wi) (hg:PG X tg g) (hb:dU X body tb)
  (hs:∀ x,foldedSetIterable iter X.env x=pure x:=by intro _; rfl):PS X (.For tg iter body [] pos) (zP wi g tb):=by
 intro pins s σ H D I h
 refine wpAny_For (aL (hi pins s σ H _ I h) fun v s1 h1=>aL h1 fun itv s2 h2=>?_) hs
 obtain ⟨it,fp,tn,J,H2,e,I2,T,st2,f2,W,⟨m0,w0⟩,turn⟩:=h2
 subst e
 have stat:∀ {H':Hp},(∀ b ∈ fp,H' b=none)->∀ b ∈ fp,gG X pins H' b:=fun hn b hb=>⟨hn b hb,(f2 b hb).2⟩
 refine codeAny_forLoop_any (fun n s'=>∃ i σ' H',a7 X pins σ' H' s'/\tn i s'.heap/\(∀ b ∈ fp,H' b=none)/\W i n σ' H') ?_ m0 ⟨0,σ,H2,I2,st2,fun b hb=>(f2 b hb).1,w0⟩
 rintro n s3 ⟨i,σ3,H3,I3,st3,fr3,w3⟩
 rcases turn i n σ3 H3 w3 with ⟨stop,qn⟩ | ⟨go,N,hN,step⟩
 ·refine bA1 hp (aL (T.done X rfl rfl rfl hc i pins s3 σ3 H3 X.xe I3 (stat fr3) st3 stop) fun r s4 ⟨hr,I4⟩=>?_)
  subst hr
  exact bA0 ⟨σ3,H3,I4,qn⟩
 ·refine bA1 hp (aL (T.item X rfl rfl rfl hc i pins s3 σ3 H3 X.xe I3 (stat fr3) st3 go) fun r s4 ⟨u,hr,h4⟩=>?_)
  subst hr
  refine bA1 hp (aL h4 fun _ s5 ⟨x,H5,I5,r5,y5,st5,fr5⟩=>?_)
  have I5':=I5.pinned (stat fr5) (T.obj _ _ st5)
  refine bA1 hp (aL (hg _ s5 σ3 H5 x u _ I5' r5 (step x H5 y5)) fun _ s6 ⟨σ6,H6,I6,q6⟩=>?_)
  refine bA1 hp (aL (hb _ s6 σ6 H6 _ I6 q6) fun f s7 q7=>?_)
  have again:∀ {σ7:St}{H7:Hp},a7 X (pins ++ o9 fp s5.heap) σ7 H7 s7->N σ7 H7->∃ m,m < n/\∃ i σ' H',a7 X pins σ' H' s7/\tn i s7.heap/\(∀ b ∈ fp,H' b=none)/\W i m σ' H':=fun {σ7 H7} I7 n7=>by
   obtain ⟨m',hm,w7⟩:=hN σ7 H7 n7
   refine⟨m',hm,i+1,σ7,H7,I7.unpinned,T.keep _ _ _ st5 fun b hb o e=>(I7.pin (b,o) (bn4 _ (bn4 _ (qG hb e)))).1,fun b hb=>?_,w7⟩
   obtain ⟨o,e,d⟩:=T.obj _ _ st5 b hb
   exact (I7.pin (b,o) (bn4 _ (bn4 _ (qG hb e)))).2.1
  cases f with
  | next=>obtain ⟨σ7,H7,I7,n7⟩:=q7; exact again I7 n7
  | cont=>obtain ⟨σ7,H7,I7,n7⟩:=q7; exact again I7 n7
  | brk=>obtain ⟨σ7,H7,I7,q7⟩:=q7; exact⟨σ7,H7,I7.unpinned,q7⟩
  | ret v=>obtain ⟨x7,σ7,H7,I7,r7,q7⟩:=q7; exact⟨x7,σ7,H7,I7.unpinned,r7,q7⟩
end
abbrev R2:=V->V->Hp->VK->Prop
def bN (X:Cx) (f:Value->Value->Sem Value) (r:R2):Prop:=
 ∀ (pins:List (Addr × Obj)) (s:Shared) (σ:St) (H:Hp) (x y:V) (v u:Value) (Q:VK),a7 X pins σ H s->aV x v->aV y u->r x y H Q->
  wpAny (model X.prog X.w) X.A (f v u) (EP X pins σ Q) X.xe s
def uD (X:Cx) (f:Value->Sem Value) (r:V->Hp->VK->Prop):Prop:=
 ∀ (pins:List (Addr × Obj)) (s:Shared) (σ:St) (H:Hp) (x:V) (v:Value) (Q:VK),a7 X pins σ H s->aV x v->r x H Q->
  wpAny (model X.prog X.w) X.A (f v) (EP X pins σ Q) X.xe s
def cO (X:Cx) (f:Value) (r:List V->Hp->VK->Prop):Prop:=
 ∀ (pins:List (Addr × Obj)) (s:Shared) (σ:St) (H:Hp) (xs:List V) (us:List Value) (Q:VK),a7 X pins σ H s->aS xs us->r xs H Q->
  wpAny (model X.prog X.w) X.A (call f us) (EP X pins σ Q) X.xe s
def oA (r:R2) (ta tb:TE):TE:=fun σ H Q=>ta σ H fun x H1=>tb σ H1 fun y H2=>r x y H2 Q
def tUn (r:V->Hp->VK->Prop) (ta:TE):TE:=fun σ H Q=>ta σ H fun x H1=>r x H1 Q
def rI (C:Int->Int->Prop) (g:Int->Int->V):R2:=fun x y H Q=>∃ i j,x = .int i/\y = .int j/\C i j/\Q (g i j) H
def eR (g:Int->Int->V):R2:=fun x y H Q=>∃ i j,x = .int i/\y = .int j/\Q (g i j) H
def rU (g:Int->V):V->Hp->VK->Prop:=fun x H Q=>∃ i,x = .int i/\Q (g i) H
section
variable {X : Cx} {a b c : Expr} {ta tb tc : TE} {pos : Pos}
theorem uE (ha:PE X a ta) (hb:PE X b tb) {pins:List (Addr × Obj)}{s:Shared}{σ:St}{H:Hp}{R:V->V->Hp->Prop} (I:a7 X pins σ H s)
  (h:ta σ H fun x H1=>tb σ H1 fun y H2=>R x y H2) {Q:Value->Shared->Prop}{f:Value->Value->Sem Value}
  (hf:∀ v u s2 x y H2,a7 X pins σ H2 s2->aV x v->aV y u->R x y H2->wpAny (model X.prog X.w) X.A (f v u) Q X.xe s2) :
  wpAny (model X.prog X.w) X.A (eval a X.env) (fun v s₁=>wpAny (model X.prog X.w) X.A (eval b X.env) (fun u s₂=>wpAny (model X.prog X.w) X.A (f v u) Q X.xe s₂) X.xe s₁) X.xe s:=by
 refine aL (ha pins s σ H _ I h) fun v s1 ⟨x,H1,I1,r1,q1⟩=>?_
 refine aL (hb pins s1 σ H1 _ I1 q1) fun u s2 ⟨y,H2,I2,r2,q2⟩=>?_
 exact hf v u s2 x y H2 I2 r1 r2 q2
theorem ao9 {op:Operator}{r:R2} (ho:bN X (binaryOp op) r) (ha:PE X a ta) (hb:PE X b tb):PE X (.BinOp a op b pos) (oA r ta tb):=by
 intro pins s σ H Q I h
 exact wpAny_BinOp (uE ha hb I h fun v u s2 x y H2 I2 rx ry q=>ho pins s2 σ H2 x y v u Q I2 rx ry q)
theorem ap0 {op:UnaryOp}{r:V->Hp->VK->Prop} (ho:uD X (unaryOp op) r) (ha:PE X a ta):PE X (.UnaryOp op a pos) (tUn r ta):=by
 intro pins s σ H Q I h
 exact UnaryOp_ (aL (ha pins s σ H _ I h) fun v s1 ⟨x,H1,I1,r1,q1⟩=>ho pins s1 σ H1 x v Q I1 r1 q1)
theorem qH {f:Value->Value->Sem Value}{C:Int->Int->Prop}{g:Int->Int->Int}
  (rule:∀ (i j:Int) (t u:Tok) (s:Shared) (Q:Value->Shared->Prop) (E:Value->Shared->Prop),C i j->Q (.int (g i j) s.toks) { s with toks:=s.toks+1 }->wpAny (model X.prog X.w) X.A (f (.int i t) (.int j u)) Q E s) :
  bN X f (rI C fun i j=>.int (g i j)):=by
 intro pins s σ H x y v u Q I rx ry h
 obtain ⟨i,j,rfl,rfl,hc,q⟩:=h
 obtain ⟨t,rfl⟩:=rx
 obtain ⟨t',rfl⟩:=ry
 exact rule i j t t' s _ _ hc ⟨.int (g i j),H,I.tok _,⟨_,rfl⟩,q⟩
theorem zQ {f:Value->Value->Sem Value}{g:Int->Int->Int}
  (rule:∀ (i j:Int) (t u:Tok) (s:Shared) (Q:Value->Shared->Prop) (E:Value->Shared->Prop),Q (.int (g i j) s.toks) { s with toks:=s.toks+1 }->wpAny (model X.prog X.w) X.A (f (.int i t) (.int j u)) Q E s) :
  bN X f (eR fun i j=>.int (g i j)):=by
 intro pins s σ H x y v u Q I rx ry h
 obtain ⟨i,j,rfl,rfl,q⟩:=h
 obtain ⟨t,rfl⟩:=rx
 obtain ⟨t',rfl⟩:=ry
 exact rule i j t t' s _ _ ⟨.int (g i j),H,I.tok _,⟨_,rfl⟩,q⟩
theorem qI {f:Value->Value->Sem Value}{g:Int->Int->Bool}
  (rule:∀ (i j:Int) (t u:Tok) (s:Shared) (Q:Value->Shared->Prop) (E:Value->Shared->Prop),Q (.bool (g i j)) s->wpAny (model X.prog X.w) X.A (f (.int i t) (.int j u)) Q E s) :
  bN X f (eR fun i j=>.bl (g i j)):=by
 intro pins s σ H x y v u Q I rx ry h
 obtain ⟨i,j,rfl,rfl,q⟩:=h
 obtain ⟨t,rfl⟩:=rx
 obtain ⟨t',rfl⟩:=ry
 exact rule i j t t' s _ _ ⟨.bl (g i j),H,I,rfl,q⟩
def uF (i j:Int):Prop:=0 < j/\j < 1073741824
def uG (i j:Int):Prop:=0<=j/\j<=1000000/\i.natAbs < 2 ^ 64
def oB (i j:Int):Prop:=(-(2 ^ 64) < i/\i < 2 ^ 64) ∨ (-(2 ^ 64) < j/\j < 2 ^ 64)
theorem oB.ok {i j:Int} (h:oB i j):IntMulOk i j:=by
 rcases h with ⟨h1,h2⟩ | ⟨h1,h2⟩
 ·exact .of_left (intBits_le_64 h1 h2)
 ·exact .of_right (intBits_le_64 h1 h2)
theorem ap1:bN X (binaryOp .Add) (eR fun i j=>.int (i+j)):=zQ fun _ _ _ _ _ _ _ q=>add_int q
theorem ap2:bN X (binaryOp .Sub) (eR fun i j=>.int (i - j)):=zQ fun _ _ _ _ _ _ _ q=>sub_int q
theorem ap3:bN X (binaryOp .Mult) (rI oB fun i j=>.int (i * j)):=qH fun _ _ _ _ _ _ _ hc q=>mul_int q hc.ok
theorem ap4:bN X (binaryOp .FloorDiv) (rI uF fun i j=>.int (i / j)):=qH fun i j _ _ _ _ _ hc q=>by
 have h1:(0:Int) < j:=hc.1
 have h2:j < 1073741824:=hc.2
 exact floordiv_int (by omega) (by rw [Int.fdiv_eq_ediv_of_nonneg i (by omega)]; exact q) (.inl (PyProof.noPylong_small (by omega)))
theorem ap5:bN X (binaryOp .Mod) (rI (fun _ j=>0 < j) fun i j=>.int (i % j)):=qH fun i j _ _ _ _ _ hc q=>by
 have h1:(0:Int) < j:=hc
 exact mod_int' (by omega) (by rw [Int.fmod_eq_emod_of_nonneg i (by omega)]; exact q)
theorem ap6:bN X (binaryOp .Pow) (rI uG fun i j=>.int (i ^ j.toNat)):=qH fun _ _ _ _ _ _ _ hc q=>pow_int_small hc.1 hc.2.1 hc.2.2 q
theorem unI {f:Value->Sem Value}{g:Int->Int}
  (rule:∀ (i:Int) (t:Tok) (s:Shared) (Q:Value->Shared->Prop) (E:Value->Shared->Prop),Q (.int (g i) s.toks) { s with toks:=s.toks+1 }->wpAny (model X.prog X.w) X.A (f (.int i t)) Q E s) :
  uD X f (rU fun i=>.int (g i)):=by
 intro pins s σ H x v Q I rx h
 obtain ⟨i,rfl,q⟩:=h
 obtain ⟨t,rfl⟩:=rx
 exact rule i t s _ _ ⟨.int (g i),H,I.tok _,⟨_,rfl⟩,q⟩
theorem ap7:uD X (unaryOp .USub) (rU fun i=>.int (-i)):=unI fun _ _ _ _ _ q=>neg_int q
end
def zR:V->V->Bool
 | .non,.non=>true | .non,.int _=>true | .int _,.non=>true | .non,.bl _=>true | .bl _,.non=>true | .non,.str _=>true | .str _,.non=>true
 | .int _,.int _=>true | .bl _,.bl _=>true | .str _,.str _=>true | .byt _,.byt _=>true
 | .int _,.str _=>true | .str _,.int _=>true | .bl _,.str _=>true | .str _,.bl _=>true
 | _,_=>false
def zS:R2:=fun x y H Q=>zR x y=true/\Q (.bl (decide (x=y))) H
def uH:R2:=fun x y H Q=>zR x y=true/\Q (.bl (!decide (x=y))) H
theorem zT {i j:Int}:decide (V.int i=V.int j)=(i == j):=by
 rw [bs3]
 simp
theorem zU {i j:Bool}:decide (V.bl i=V.bl j)=(i == j):=by
 rw [bs3]
 simp
theorem zV {i j:Str}:decide (V.str i=V.str j)=(i == j):=by
 rw [bs3]
 simp
theorem zW {i j:Array UInt8}:decide (V.byt i=V.byt j)=(i.toList == j.toList):=by
 rw [bs3]
 cases i
 cases j
 simp
section
variable {X : Cx} {a b c : Expr} {ta tb tc : TE} {pos : Pos}
theorem c8 {pins:List (Addr × Obj)}{σ:St}{H:Hp}{s:Shared}{Q:VK}{k k':Bool} (I:a7 X pins σ H s) (q:Q (.bl k) H) (e:k=k'):EP X pins σ Q (.bool k') s:=by
 subst e
 exact⟨.bl k,H,I,rfl,q⟩
theorem zX:bN X (compareOp .Eq) zS:=by
 intro pins s σ H x y v u Q I rx ry h
 obtain ⟨hs,q⟩:=h
 cases x with
 | non=>
  cases rx
  cases y with
  | non=>cases ry; exact PySem.EqNone.eq_none_none (c8 I q (by simp))
  | bl j=>cases ry; exact PySem.EqNone.eq_none_bool (c8 I q (by simp))
  | int j=>obtain ⟨t',rfl⟩:=ry; exact PySem.EqNone.eq_none_int (c8 I q (by simp))
  | str j=>obtain ⟨t',rfl⟩:=ry; exact PySem.EqNone.eq_none_str (c8 I q (by simp))
  | _=>exact absurd (show false=true from hs) bm6
 | bl i=>
  cases rx
  cases y with
  | non=>cases ry; exact PySem.EqNone.eq_bool_none (c8 I q (by simp))
  | bl j=>cases ry; exact eq_bool (c8 I q zU)
  | str j=>obtain ⟨t',rfl⟩:=ry; exact PySem.EqMixed.eq_bool_str (c8 I q (by simp))
  | _=>exact absurd (show false=true from hs) bm6
 | int i=>
  obtain ⟨t,rfl⟩:=rx
  cases y with
  | non=>cases ry; exact PySem.EqNone.eq_int_none (c8 I q (by simp))
  | int j=>obtain ⟨t',rfl⟩:=ry; exact eq_int (c8 I q zT)
  | str j=>obtain ⟨t',rfl⟩:=ry; exact PySem.EqMixed.eq_int_str (c8 I q (by simp))
  | _=>exact absurd (show false=true from hs) bm6
 | str i=>
  obtain ⟨t,rfl⟩:=rx
  cases y with
  | non=>cases ry; exact PySem.EqNone.eq_str_none (c8 I q (by simp))
  | bl j=>cases ry; exact PySem.EqMixed.eq_str_bool (c8 I q (by simp))
  | int j=>obtain ⟨t',rfl⟩:=ry; exact PySem.EqMixed.eq_str_int (c8 I q (by simp))
  | str j=>obtain ⟨t',rfl⟩:=ry; exact eq_str (c8 I q zV)
  | _=>exact absurd (show false=true from hs) bm6
 | byt i=>
  obtain ⟨t,rfl⟩:=rx
  cases y with
  | byt j=>obtain ⟨t',rfl⟩:=ry; exact PySem.W.eq_bytes (c8 I q zW)
  | _=>exact absurd (show false=true from hs) bm6
 | _=>cases y <;> exact absurd (show false=true from hs) bm6
theorem zY:bN X (compareOp .NotEq) uH:=by
 intro pins s σ H x y v u Q I rx ry h
 obtain ⟨hs,q⟩:=h
 cases x with
 | non=>
  cases rx
  cases y with
  | non=>cases ry; exact PySem.EqNone.ne_none_none (c8 I q (by simp))
  | bl j=>cases ry; exact PySem.EqNone.ne_none_bool (c8 I q (by simp))
  | int j=>obtain ⟨t',rfl⟩:=ry; exact PySem.EqNone.ne_none_int (c8 I q (by simp))
  | str j=>obtain ⟨t',rfl⟩:=ry; exact PySem.EqNone.ne_none_str (c8 I q (by simp))
  | _=>exact absurd (show false=true from hs) bm6
 | bl i=>
  cases rx
  cases y with
  | non=>cases ry; exact PySem.EqNone.ne_bool_none (c8 I q (by simp))
  | bl j=>cases ry; exact ne_bool (c8 I q (congrArg not zU))
  | str j=>obtain ⟨t',rfl⟩:=ry; exact PySem.EqMixed.ne_bool_str (c8 I q (by simp))
  | _=>exact absurd (show false=true from hs) bm6
 | int i=>
  obtain ⟨t,rfl⟩:=rx
  cases y with
  | non=>cases ry; exact PySem.EqNone.ne_int_none (c8 I q (by simp))
  | int j=>obtain ⟨t',rfl⟩:=ry; exact ne_int (c8 I q (congrArg not zT))
  | str j=>obtain ⟨t',rfl⟩:=ry; exact PySem.EqMixed.ne_int_str (c8 I q (by simp))
  | _=>exact absurd (show false=true from hs) bm6
 | str i=>
  obtain ⟨t,rfl⟩:=rx
  cases y with
  | non=>cases ry; exact PySem.EqNone.ne_str_none (c8 I q (by simp))
  | bl j=>cases ry; exact PySem.EqMixed.ne_str_bool (c8 I q (by simp))
  | int j=>obtain ⟨t',rfl⟩:=ry; exact PySem.EqMixed.ne_str_int (c8 I q (by simp))
  | str j=>obtain ⟨t',rfl⟩:=ry; exact ne_str (c8 I q (congrArg not zV))
  | _=>exact absurd (show false=true from hs) bm6
 | byt i=>
  obtain ⟨t,rfl⟩:=rx
  cases y with
  | byt j=>obtain ⟨t',rfl⟩:=ry; exact PySem.W.ne_bytes (c8 I q (congrArg not zW))
  | _=>exact absurd (show false=true from hs) bm6
 | _=>cases y <;> exact absurd (show false=true from hs) bm6
theorem qJ:bN X (compareOp .Lt) (eR fun i j=>.bl (decide (i < j))):=qI fun _ _ _ _ _ _ _ q=>lt_int q
theorem kY:bN X (compareOp .LtE) (eR fun i j=>.bl (decide (i<=j))):=qI fun _ _ _ _ _ _ _ q=>le_int q
theorem ap8:bN X (compareOp .Gt) (eR fun i j=>.bl (decide (j < i))):=qI fun _ _ _ _ _ _ _ q=>gt_int q
theorem zZ:bN X (compareOp .GtE) (eR fun i j=>.bl (decide (j<=i))):=qI fun _ _ _ _ _ _ _ q=>ge_int q
theorem ap9:bN X (compareOp .Is) (fun x y H Q=>y = .non/\Q (.bl (decide (x = .non))) H):=by
 intro pins s σ H x y v u Q I rx ry h
 obtain ⟨rfl,q⟩:=h
 cases ry
 refine is_none_gen (c8 I q ?_)
 cases x <;> first
  | (cases rx; rfl)
  | (obtain ⟨t,rfl⟩:=rx; rfl)
theorem aq0:bN X (compareOp .IsNot) (fun x y H Q=>y = .non/\Q (.bl (!decide (x = .non))) H):=by
 intro pins s σ H x y v u Q I rx ry h
 obtain ⟨rfl,q⟩:=h
 cases ry
 refine isnot_none_gen (c8 I q ?_)
 cases x <;> first
  | (cases rx; rfl)
  | (obtain ⟨t,rfl⟩:=rx; rfl)
theorem eU (b:Expr) {op:CmpOp} (h:op ≠ .In:=by decide) (h2:op ≠ .NotIn:=by decide):behindInMarks op b=false:=by
 have e1:(op == CmpOp.In)=false:=by cases op <;> first | rfl | exact absurd rfl h
 have e2:(op == CmpOp.NotIn)=false:=by cases op <;> first | rfl | exact absurd rfl h2
 cases b <;> simp [behindInMarks,e1,e2]
theorem aq1 {op:CmpOp}{r:R2} (ho:bN X (compareOp op) r) (ha:PE X a ta) (hb:PE X b tb) (hm:behindInMarks op b=false):PE X (.Compare a [op] [b] pos) (oA r ta tb):=by
 intro pins s σ H Q I h
 exact wpAny_Compare1 (uE ha hb I h fun v u s2 x y H2 I2 rx ry q=>ho pins s2 σ H2 x y v u Q I2 rx ry q) hm
def uI (t:TE):TT:=fun σ H Q=>t σ H fun x H'=>∃ k,x = .bl k/\Q k H'
theorem aq2 {op:CmpOp}{r:R2} (ho:bN X (compareOp op) r) (ha:PE X a ta) (hb:PE X b tb) (hm:behindInMarks op b=false):PT X (.Compare a [op] [b] pos) (uI (oA r ta tb)):=by
 intro pins s σ H Q I h
 refine wpAny_isTrue_Compare1 (aL (ha pins s σ H _ I h) fun v s1 ⟨x,H1,I1,r1,q1⟩=>aL (hb pins s1 σ H1 _ I1 q1) fun u s2 ⟨y,H2,I2,r2,q2⟩=>
  aL (ho pins s2 σ H2 x y v u _ I2 r1 r2 q2) fun c s3 ⟨z,H3,I3,r3,k,e,q3⟩=>?_) hm
 subst e
 cases r3
 exact bq1 ⟨H3,I3,q3⟩
def A0 (r r':R2) (ta tb tc:TE):TE:=fun σ H Q=>ta σ H fun x H1=>tb σ H1 fun y H2=>r x y H2 fun z H3=>∃ k,z = .bl k/\
 (if k=true then tc σ H3 fun w' H4=>r' y w' H4 Q else Q (.bl false) H3)
theorem A1 {op op':CmpOp}{r r':R2} (ho:bN X (compareOp op) r) (ho':bN X (compareOp op') r') (ha:PE X a ta) (hb:PE X b tb) (hc:PE X c tc)
  (hm:lastMarks [op,op'] [b,c]=false:=by with_unfolding_all rfl):PT X (.Compare a [op,op'] [b,c] pos) (uI (A0 r r' ta tb tc)):=by
 intro pins s σ H Q I h
 refine isTrue_chain (aL (ha pins s σ H _ I h) fun v s1 ⟨x,H1,I1,r1,q1⟩=>test_link (aL (hb pins s1 σ H1 _ I1 q1) fun u s2 ⟨y,H2,I2,r2,q2⟩=>
  aL (ho pins s2 σ H2 x y v u _ I2 r1 r2 q2) fun d s3 ⟨z,H3,I3,r3,k,e,q3⟩=>?_)) hm
 subst e
 cases r3
 refine bq1 ?_
 cases k with
 | false=>
  obtain ⟨k',e',q'⟩:=q3
  cases e'
  exact ite_ff ⟨H3,I3,q'⟩
 | true=>
  refine ite_tt (test_last (aL (hc pins s3 σ H3 _ I3 q3) fun w' s4 ⟨z',H4,I4,r4,q4⟩=>aL (ho' pins s4 σ H4 y z' u w' _ I4 r2 r4 q4) fun d' s5 ⟨z2,H5,I5,r5,k2,e2,q5⟩=>?_))
  subst e2
  cases r5
  exact bq1 ⟨H5,I5,q5⟩
theorem qL:(sizeLine:Nat) < 2 ^ 63:=by rw [sizeLine_eq]; decide
theorem aq3:bN X (binaryOp .Add) (fun x y H Q=>∃ i j,x = .str i/\y = .str j/\i.length+j.length<=sizeLine/\Q (.str (i ++ j)) H):=by
 intro pins s σ H x y v u Q I rx ry h
 obtain ⟨i,j,rfl,rfl,hz,q⟩:=h
 obtain ⟨t,rfl⟩:=rx
 obtain ⟨t',rfl⟩:=ry
 exact add_str (fun t' tk=>⟨.str (i ++ j),H,I.tok _,⟨_,rfl⟩,q⟩) hz
theorem gU {x:V}{us:List Value} (r:aS [x] us):∃ u,us = [u]/\aV x u:=by
 cases r with
 | cons r1 r2=>cases r2; exact⟨_,rfl,r1⟩
theorem k9 {x y:V}{us:List Value} (r:aS [x,y] us):∃ u w',us = [u,w']/\aV x u/\aV y w':=by
 cases r with
 | cons r1 r2=>
  cases r2 with
  | cons r3 r4=>cases r4; exact⟨_,_,rfl,r1,r3⟩
theorem aq4 (hc:X.calm=true):cO X (.builtin "max") (fun xs H Q=>∃ i j,xs = [.int i,.int j]/\Q (.int (if j > i then j else i)) H):=by
 intro pins s σ H xs us Q I r h
 obtain ⟨i,j,rfl,q⟩:=h
 obtain ⟨u,w',rfl,⟨t,rfl⟩,⟨t',rfl⟩⟩:=k9 r
 refine max_two_ints (I.ok.hd hc) fun h' tk k=>⟨_,H,I.kept k,?_,q⟩
 by_cases hj:j > i
 ·rw [if_pos hj,if_pos hj]; exact⟨_,rfl⟩
 ·rw [if_neg hj,if_neg hj]; exact⟨_,rfl⟩
theorem aq5 (hc:X.calm=true):cO X (.builtin "min") (fun xs H Q=>∃ i j,xs = [.int i,.int j]/\Q (.int (if j < i then j else i)) H):=by
 intro pins s σ H xs us Q I r h
 obtain ⟨i,j,rfl,q⟩:=h
 obtain ⟨u,w',rfl,⟨t,rfl⟩,⟨t',rfl⟩⟩:=k9 r
 refine min_two_ints (I.ok.hd hc) fun h' tk k=>⟨_,H,I.kept k,?_,q⟩
 by_cases hj:j < i
 ·rw [if_pos hj,if_pos hj]; exact⟨_,rfl⟩
 ·rw [if_neg hj,if_neg hj]; exact⟨_,rfl⟩
theorem aq6:cO X (.type "int") (fun xs H Q=>(∃ i,xs = [.int i]/\Q (.int i) H) ∨ ∃ k,xs = [.bl k]/\Q (.int (if k then 1 else 0)) H):=by
 intro pins s σ H xs us Q I r h
 rcases h with ⟨i,rfl,q⟩ | ⟨k,rfl,q⟩
 ·obtain ⟨u,rfl,t,rfl⟩:=gU r
  exact call_int_int ⟨.int i,H,I,⟨_,rfl⟩,q⟩
 ·obtain ⟨u,rfl,r1⟩:=gU r
  cases r1
  exact call_int_bool ⟨.int (if k then 1 else 0),H,I.tok _,⟨_,rfl⟩,q⟩
end
structure uJ (h:Heap) (x dx C:Addr) (mA:Str->Option Value):Prop where
 obj:h.get? x=some (PySem.W.instObj C dx)
 ns:h.Ns1 dx mA
 ne:dx ≠ x
theorem aq7 {h:Heap}{dx:Addr}{mA:Str->Option Value} (n:h.Ns1 dx mA):∃ od,h.get? dx=some od/\∀ name,PySem.W.lookIn name od=some (mA name):=by
 obtain ⟨o,es,ep,ho,hd,hk,_,hm⟩:=n
 refine⟨o,ho,fun name=>?_⟩
 have e:=hm name
 unfold nsFind findBy at e
 rw [<- Array.find?_toList] at e
 unfold PySem.W.lookIn
 rw [hd]
 dsimp only
 split
 ·rename_i y q
  rw [q] at e
  exact congrArg some e
 ·rename_i q
  rw [q] at e
  have a:es.toList.any (·.refKey)=false:=by
   rw [List.any_eq_false]
   intro y hy
   obtain ⟨z,t,hkey⟩:=hk y (Array.mem_toList_iff.mp hy)
   simp [DictEntry.refKey,hkey]
  have a' : ¬ es.toList.any (·.refKey)=true:=by rw [a]; exact bm6
  rw [if_neg a']
  exact congrArg some e
theorem uJ.look {h:Heap}{x dx C:Addr}{mA:Str->Option Value} (I:uJ h x dx C mA):∃ od,PySem.W.InstAt h x (PySem.W.instObj C dx) C (some od)/\∀ name,PySem.W.lookIn name od=some (mA name):=
 let ⟨od,ho,hl⟩:=aq7 I.ns
 ⟨od,⟨I.obj,rfl,rfl,ho⟩,hl⟩
theorem gE.some_of {v:V}{o:Option Value} (r:gE (some v) o):∃ u,o=some u/\aV v u:=by
 cases o with
 | none=>exact (show False from r).elim
 | some u=>exact⟨u,rfl,r⟩
section
variable {P : Program} {w : World} {H H' : Hp} {h h' : Heap} {a C dx : Addr} {fs fs' : List (Str × V)}
theorem aq8 (hok:bZ P w H h) (e:H a=some (.ins C dx fs)):∃ mA,uJ h a dx C mA/\(∀ f,gE (fs.lookup f) (mA f))/\PySem.Within mA (fs.map (·.1))/\fs.length<=1000/\H dx=some (.own a):=by
 obtain ⟨d,z,ne,ob,mA,n,r,q⟩:=(show c9 P w H h a (.ins C dx fs) from hok a _ e)
 exact⟨mA,⟨ob,n,ne⟩,r,q,z,d⟩
end
structure uK (K:PySem.W.Frag) (C:Addr):Prop where
 pg:PySem.W.plainGet K C Str.empty=true
 hd:PySem.W.hasDictIn K C=true
 po:PySem.W.plainOver K C=true
 sa:PySem.W.findIn K (.ref C) "__setattr__" = some (some (.builtin "object.__setattr__"))
theorem uK.get {K:PySem.W.Frag}{C:Addr} (c:uK K C) (f:Str):PySem.W.plainGet K C f=true:=c.pg
section
variable {X : Cx} {pins : List (Addr × Obj)} {σ : St} {H : Hp} {s : Shared} {A : Around} {E : Value → Shared → Prop} {Q : Value → Shared → Prop} {c : Value} {b : Bool}
inductive fU (K:PySem.W.Frag) (H:Hp):V->Value->Prop where
 | non:fU K H .non (.type "NoneType")
 | bl (x:Bool):fU K H (.bl x) (.type "bool")
 | int (i:Int):fU K H (.int i) (.type "int")
 | str (x:Str):fU K H (.str x) (.type "str")
 | flt (x:UInt64):fU K H (.flt x) (.type "float")
 | lst {a:Addr}{xs:List V} (e:H a=some (.lst xs)):fU K H (.ref a) (.type "list")
 | frz {a:Addr}{o:Obj}{xs:List V} (e:H a=some (.frz o (.lst xs))):fU K H (.ref a) (.type "list")
 | tup {a:Addr}{xs:List V} (e:H a=some (.tup xs)):fU K H (.ref a) (.type "tuple")
 | dK {a:Addr}{kvs:List (aM × V)} (e:H a=some (.dK kvs)):fU K H (.ref a) (.type "dict")
 | dT {a:Addr}{kvs:List (List aM × V)} (e:H a=some (.dT kvs)):fU K H (.ref a) (.type "dict")
 | ins {a C dx:Addr}{fs:List (Str × V)} (e:H a=some (.ins C dx fs)) (cl:uK K C) (ha:PySem.W.findIn K (.ref C) "__class__" = some (some (.builtin "object.__class__")))
   (hn:PySem.W.specialIn K (.builtin "object.__class__") "__get__" = some (some (.builtin "getset_descriptor.__get__"))) (htk:PySem.W.takesIn K (.builtin "object.__class__")=some true)
   (hm:PySem.W.mroIn K C (.type "object")=some true):fU K H (.ref a) (.ref C)
theorem aq9 {x:V}{u t:Value} (I:a7 X pins σ H s) (rx:aV x u) (ty:fU X.K H x t) (e:PySem.W.kitOne X.K t c=some b) (h:∀ tk,Q (.bool b) { s with toks:=tk }) :
  wpAny (model X.prog X.w) A (call (.builtin "isinstance") [u,c]) Q E s:=by
 cases ty with
 | non=>cases (show u=Value.none from rx); exact bq9 PySem.W.kitx_none I.kIn bB7 e (fun z=>nomatch z) h
 | bl y=>cases (show u=Value.bool y from rx); exact bq9 PySem.W.kitx_bool I.kIn bB7 e (fun z=>nomatch z) h
 | int i=>obtain ⟨t,q⟩:=(show ∃ t,u=Value.int i t from rx); cases q; exact bq9 PySem.W.kitx_int I.kIn bB7 e (fun z=>nomatch z) h
 | str y=>obtain ⟨t,q⟩:=(show ∃ t,u=Value.str y t from rx); cases q; exact bq9 PySem.W.kitx_str I.kIn bB7 e (fun z=>nomatch z) h
 | flt y=>obtain ⟨t,q⟩:=(show ∃ t,u=Value.float y t from rx); cases q; exact bq9 PySem.W.kitx_float I.kIn bB7 e (fun z=>nomatch z) h
 | @lst a xs ea=>
  cases (show u=Value.ref a from rx)
  obtain ⟨_,_,n,_,h1⟩:=(show c9 X.prog X.w H s.heap a (.lst xs) from I.hok a _ ea)
  exact bq9 PySem.W.kitx_list I.kIn ⟨_,h1,rfl⟩ e (fun z=>nomatch z) h
 | @frz a ob xs ea=>
  cases (show u=Value.ref a from rx)
  obtain ⟨_,_,_,n,_,h1⟩:=(show c9 X.prog X.w H s.heap a (.frz ob (.lst xs)) from I.hok a _ ea)
  exact bq9 PySem.W.kitx_list I.kIn ⟨_,h1,rfl⟩ e (fun z=>nomatch z) h
 | @tup a xs ea=>
  cases (show u=Value.ref a from rx)
  obtain ⟨_,_,_,p,_⟩:=(show c9 X.prog X.w H s.heap a (.tup xs) from I.hok a _ ea)
  obtain ⟨o,h1,h2,_⟩:=p
  exact bq9 PySem.W.kitx_tuple I.kIn ⟨o,h1,h2⟩ e (fun z=>nomatch z) h
 | @dK a kvs ea=>
  cases (show u=Value.ref a from rx)
  obtain ⟨_,_,vs,_,p⟩:=(show c9 X.prog X.w H s.heap a (.dK kvs) from I.hok a _ ea)
  obtain ⟨o,es,ep,h1,h2,_⟩:=p
  exact bq9 PySem.W.kitx_dict I.kIn ⟨o,h1,h2.1⟩ e (fun z=>nomatch z) h
 | @dT a kvs ea=>
  cases (show u=Value.ref a from rx)
  obtain ⟨_,_,xs,_,o,es,ep,h1,h2,_⟩:=(show c9 X.prog X.w H s.heap a (.dT kvs) from I.hok a _ ea)
  exact bq9 PySem.W.kitx_dict I.kIn ⟨o,h1,h2.1⟩ e (fun z=>nomatch z) h
 | @ins a C dx fs ea cl ha hn htk hm=>
  cases (show u=Value.ref a from rx)
  obtain ⟨mA,O,_⟩:=aq8 I.hok ea
  obtain ⟨od,J,_⟩:=O.look
  exact bq9 (PySem.W.kitx_own (cl.get _) cl.hd ha hn htk hm) I.kIn J e (fun z=>nomatch z) h
end
structure cE (k:Nat) (A:Around):Prop where
 hd:A.handled=none
 dp:A.depth+3 * k+5 < recursionLimit
 un:A.units+16 * k+200 < cLine
theorem cE.mono {j k:Nat}{A:Around} (r:cE k A) (h:j<=k):cE j A:=⟨r.hd,by have:=r.dp; omega,by have:=r.un; omega⟩
theorem cE.deeper {k:Nat}{A:Around} (r:cE (k+1) A) (env:Env):cE k (A.deeper env):=
 ⟨r.hd,by have:=r.dp; show A.depth+1+3 * k+5 < _; omega,by have:=r.un; show A.units+3+16 * k+200 < _; omega⟩
theorem cE.depth {k:Nat}{A:Around} (r:cE k A):A.depth < recursionLimit:=by have:=r.dp; omega
theorem cE.units {k:Nat}{A:Around} (r:cE k A):A.units+64 < cLine:=by have:=r.un; omega
def kZ:TA:=fun _ H Q=>Q [] H
def kA (ta:TE) (tr:TA):TA:=fun σ H Q=>ta σ H fun x H1=>tr σ H1 fun xs H2=>Q (x :: xs) H2
section
variable {X : Cx} {e : Expr} {es : List Expr} {te : TE} {t : TA} {pos : Pos}
theorem iO:PA X [] kZ:=fun _ _ _ _ H Q I h=>Calls.spliced_nil ⟨[],H,I,.nil,h⟩
theorem fV (ha:PE X e te) (hr:PA X es t) (hs:starEach (e :: es) X.env=(false,eval e X.env) :: starEach es X.env:=by rfl):PA X (e :: es) (kA te t):=by
 intro pos pins s σ H Q I h
 rw [hs]
 show wpAny _ _ (spliced ((false,eval e X.env) :: backTo pos (starEach es X.env))) _ _ s
 refine Calls.spliced_cons (aL (ha pins s σ H _ I h) fun u s1 ⟨x,H1,I1,r1,q1⟩=>?_)
 exact aL (hr pos pins s1 σ H1 _ I1 q1) fun us s2 ⟨xs,H2,I2,r2,q2⟩=>⟨x :: xs,H2,I2,.cons r1 r2,q2⟩
def A2 (t:TA):TE:=fun σ H Q=>t σ H fun xs H1=>xs.length<=sizeLine/\∀ p,H1 p=none->Q (.ref p) (upd H1 p (.tup xs))
def A3 (t:TA):TE:=fun σ H Q=>t σ H fun xs H1=>xs.length<=sizeLine/\∀ p,H1 p=none->Q (.ref p) (upd H1 p (.lst xs))
theorem ar0 {x1} (h:PA X es t):PE X (.Tuple es x1 pos) (A2 t):=by
 intro pins s σ H Q I hq
 refine wpAny_Tuple_spliced (aL (h pos pins s σ H _ I hq) fun us s1 ⟨xs,H1,I1,r,z,q⟩=>⟨by rw [<- r.length]; exact z,?_⟩)
 have hf:H1 s1.heap.objs.size=none:=I1.hok.fresh (bl1 _)
 refine⟨.ref s1.heap.objs.size,upd H1 s1.heap.objs.size (.tup xs),I1.laid (t':=s1.toks) (fun b u e=>bk0 _ e) (bl1 _) ?_,rfl,q _ hf⟩
 exact⟨z,us,r,⟨_,bl7 _ rfl,rfl,_,rfl⟩,j8.new _ _ rfl⟩
theorem ar1 (h:PA X es t):PE X (.List es pos) (A3 t):=by
 intro pins s σ H Q I hq
 refine wpAny_List_spliced (aL (h pos pins s σ H _ I hq) fun us s1 ⟨xs,H1,I1,r,z,q⟩=>⟨by rw [<- r.length]; exact z,?_⟩)
 have hf:H1 s1.heap.objs.size=none:=I1.hok.fresh (bl1 _)
 refine⟨.ref s1.heap.objs.size,upd H1 s1.heap.objs.size (.lst xs),I1.laid (t':=s1.toks) (fun b u e=>bk0 _ e) (bl1 _) ?_,rfl,q _ hf⟩
 exact⟨z,us,0,r,bl7 _ rfl⟩
end
abbrev Sp:=List V->Hp->VK->XK->Prop
abbrev gV:=List Env->Hp->Shared->XK->Value->Shared->Prop
structure qM (P:Program) (w:World) (K:PySem.W.Frag) (mg:Str->Option Value) (base:Heap) (A:Around) (outer:List Env) (s:Shared) (H:Hp):Prop where
 frames:A.frames=some outer
 mod:Mod K mg base
 bs:∀ b o,base.get? b=some o->s.heap.get? b=some o/\H b=none
 bsz:base.objs.size<=s.heap.objs.size
 funs:s.heap.FunFrames base outer
 frf:∀ b ∈ bQ outer,H b=none
 hok:bZ P w H s.heap
 bare:AllBare s.gens
def CE (outer:List Env) (P:Program) (w:World) (H:Hp) (s:Shared) (Q:VK) (u:Value) (s':Shared):Prop:=
 ∃ v H',s'.os=s.os/\AllBare s'.gens/\Un (bQ outer) [] H H' s.heap s'.heap/\bZ P w H' s'.heap/\aV v u/\Q v H'
def CR (CX:gV) (outer:List Env) (P:Program) (w:World) (H:Hp) (s:Shared) (Q:VK) (E:XK) (r:Result) (s':Shared):Prop:=
 match r with
 | .ok (.ret u)=>CE outer P w H s Q u s'
 | .ok _=>False
 | .error e=>CX outer H s E e s'
structure dQ (P:Program) (w:World) (K:PySem.W.Frag) (mg:Str->Option Value) (base:Heap) (CX:gV) (k:Nat) (f:Addr) (fd:FuncData) (ps:List Str) (sp:Sp):Prop where
 len:∀ vs H Q E,sp vs H Q E->vs.length=ps.length
 run:∀ (A:Around) (outer:List Env) (s:Shared) (H:Hp) (args:Args) (us:List Value) (vs:List V) (Q:VK) (E:XK),cE k A->qM P w K mg base A outer s H->BindsTo s fd args (ps.zip us)->aS vs us->sp vs H Q E->
  codeAny (model P w) A (.call (.ref f) args) (CR CX outer P w H s Q E) s
theorem dQ.imp {P:Program}{w:World}{K:PySem.W.Frag}{mg:Str->Option Value}{base:Heap}{CX:gV}{k:Nat}{f:Addr}{fd:FuncData}{ps:List Str}{sp sp':Sp} (F:dQ P w K mg base CX k f fd ps sp)
  (h:∀ vs H Q E,sp' vs H Q E->sp vs H Q E):dQ P w K mg base CX k f fd ps sp':=
 ⟨fun vs H Q E q=>F.len vs H Q E (h _ _ _ _ q),fun A outer s H args us vs Q E hr he hb hv hs=>F.run A outer s H args us vs Q E hr he hb hv (h _ _ _ _ hs)⟩
section
variable {X : Cx} {pins : List (Addr × Obj)} {σ : St} {H : Hp} {s s' : Shared}
theorem a7.env0 (I:a7 X pins σ H s):qM X.prog X.w X.K X.mg X.base X.A X.stack s H:=
 ⟨I.ok.frames,I.ok.mod,I.bs,bo3 I.ok.bsz I.sz,I.stack,I.stkFree,I.hok,I.bare⟩
theorem a7.after {Q:VK}{u:Value} (I:a7 X pins σ H s) (h:CE X.stack X.prog X.w H s Q u s'):EP X pins σ Q u s':=by
 obtain ⟨v,H',os,bare,un,hok,r,q⟩:=h
 obtain ⟨hh,g,d,t,os'⟩:=s'
 obtain rfl:os'=s.os:=os
 exact⟨v,H',I.call (h':=hh) (g':=g) (d':=d) (t':=t) (ch:=[]) un hok bare (fun b z=>absurd z (by simp)),r,q⟩
end
def uL (sp:Sp) (dvs:List V) (E:XK) (t:TA):TE:=fun σ H Q=>t σ H fun vs H1=>sp (vs ++ dvs) H1 Q E
def jB (K:PySem.W.Frag) (fd:FuncData) (ps:List Str) (ds:List Value):Prop:=
 ∀ (s:Shared) (us:List Value),K.In s.heap->(us ++ ds).length=ps.length->BindsTo s fd ⟨us,[]⟩ (ps.zip (us ++ ds))
theorem jB.all {K:PySem.W.Frag}{fd:FuncData}{ps:List Str} (h:∀ us:List Value,us.length=ps.length->bindArgs fd ⟨us,[]⟩=pure (ps.zip us)):jB K fd ps []:=fun s us _ hl=>by
 rw [bo5] at hl ⊢
 exact .of_eq (h us hl)
def oC (CX:gV) (X:Cx) (E:XK):Prop:=∀ (pins:List (Addr × Obj)) (σ:St) (H:Hp) (s:Shared) (e:Value) (s':Shared),a7 X pins σ H s->CX X.stack H s E e s'->X.xe e s'
section
variable {X : Cx} {CX : gV} {k : Nat} {f C : Addr} {fd : FuncData} {ps : List Str} {sp : Sp} {dvs : List V} {ds : List Value} {E : XK} {x m : Str} {p pos apos : Pos} {e o : Expr} {es : List Expr} {ta : TE} {t : TA}
theorem ar2 {pins:List (Addr × Obj)}{σ:St}{H:Hp}{s:Shared}{Q:VK}{us:List Value}{vs:List V} (F:dQ X.prog X.w X.K X.mg X.base CX k f fd ps sp) (hr:cE k X.A) (hb:jB X.K fd ps ds) (hd:aS dvs ds) (hx:oC CX X E)
  (I:a7 X pins σ H s) (r:aS vs us) (h:sp (vs ++ dvs) H Q E):wpAny (model X.prog X.w) X.A (call (.ref f) us) (EP X pins σ Q) X.xe s:=by
 have r2:aS (vs ++ dvs) (us ++ ds):=r.append hd
 have hl:(us ++ ds).length=ps.length:=by rw [<- r2.length]; exact F.len _ _ _ _ h
 refine wpAny_call (codeAny_mono (F.run X.A X.stack s H ⟨us,[]⟩ (us ++ ds) (vs ++ dvs) Q E hr I.env0 (hb s us I.kIn hl) r2 h) fun r s' hq=>?_)
 cases r with
 | error e=>exact hx pins σ H s e s' I hq
 | ok fl=>
  cases fl with
  | ret u=>exact I.after hq
  | next=>exact False.elim hq
  | brk=>exact False.elim hq
  | cont=>exact False.elim hq
theorem uM (F:dQ X.prog X.w X.K X.mg X.base CX k f fd ps sp) (hr:cE k X.A) (hg:Gl X x) (hm:X.mg x=some (.ref f)) (hk:PySem.W.keepIn X.K (.ref f)=true) (hb:jB X.K fd ps ds) (hd:aS dvs ds) (hx:oC CX X E)
  (ha:PA X (e :: es) t) (hdb:(x == ("__debug__" : Str))=false:=by decide) (he:starEach (e :: es) X.env=(false,eval e X.env) :: starEach es X.env:=by rfl) (hpl:(backTo pos (starEach es X.env)).any (·.1)=false:=by rfl) :
  PE X (.Call (.Name x p) (e :: es) [] pos) (uL sp dvs E t):=by
 intro pins s σ H Q I h
 refine wpAny_Call_Name_kw (o7 I hg hm ?_ hdb)
 refine PySem.W.callWith_K (h₀:=X.base) I.ok.mod.kin hk (aL (ha pos pins s σ H _ I h) fun us s1 ⟨vs,H1,I1,r,q⟩=>⟨I1.kIn,?_⟩) he hpl
 exact ar2 F hr hb hd hx I1 r q
end
def PK (X:Cx) (kws:List Keyword) (t:TA):Prop:=
 ∀ (pos:Pos) (pins:List (Addr × Obj)) (s:Shared) (σ:St) (H:Hp) (Q:List V->Hp->Prop),a7 X pins σ H s->t σ H Q->wpAny (model X.prog X.w) X.A (evalAll ((backToKw pos (keywordEach kws X.env)).map (·.2))) (AP X pins σ Q) X.xe s
structure FnScope (N P:List Str) (sc:Scope):Prop where
 kind:sc.kind = .function
 co:sc.isCoroutine=false
 gen:sc.isGenerator=false
 nd:N.Nodup
 pre:N.take P.length=P
 par:∀ x ∈ P,sc.names.lookup x=some .local ∨ sc.names.lookup x=some .cell
 nofree:∀ y ∈ sc.names,y.2 ≠ .free
theorem A4 {kindOf:Str->Option NameKind}{x:Str}:∀ {binds:List (Str × Value)}{m:Str->Option Value},(∀ v,(x,v) ∉ binds)->bindL kindOf binds m x=m x
 | [],_,_=>rfl
 | (n,v) :: r,m,h=>by
  unfold bindL
  rw [A4 fun w hw=>h w (bl2 _ hw)]
  split
  ·have:x ≠ n:=by rintro rfl; exact h v bl6
   simp [this]
  ·rfl
theorem A5 {kindOf:Str->Option NameKind}{x:Str}:∀ {binds:List (Str × Value)}{m:Str->Option Value},(∀ v,(x,v) ∉ binds)->bindC kindOf binds m x=m x
 | [],_,_=>rfl
 | (n,v) :: r,m,h=>by
  unfold bindC
  rw [A5 fun w hw=>h w (bl2 _ hw)]
  split
  ·rfl
  ·have:x ≠ n:=by rintro rfl; exact h v bl6
   simp [this]
theorem A6 {kindOf:Str->Option NameKind}{x:Str}{v:Value}:∀ {P:List Str}{vs:List Value}{i:Nat}{m:Str->Option Value},P.Nodup->P[i]? = some x->vs[i]? = some v->kindOf x=some .local->
  bindL kindOf (P.zip vs) m x=some v
 | [],_,_,_,_,h,_,_=>by simp at h
 | _ :: _,[],_,_,_,_,h,_=>by simp at h
 | p :: P,w :: vs,0,m,nd,h1,h2,hk=>by
  simp at h1 h2; subst h1; subst h2
  show bindL kindOf ((p,w) :: P.zip vs) m p=_
  unfold bindL
  rw [A4 fun v hv=>(bv9.mp nd).1 (List.of_mem_zip hv).1,if_pos hk]
  simp
 | p :: P,w :: vs,i+1,m,nd,h1,h2,hk=>by
  show bindL kindOf ((p,w) :: P.zip vs) m x=_
  unfold bindL
  exact A6 (i:=i) (bv9.mp nd).2 (by simpa using h1) (by simpa using h2) hk
theorem A7 {kindOf:Str->Option NameKind}{x:Str}{v:Value}:∀ {P:List Str}{vs:List Value}{i:Nat}{m:Str->Option Value},P.Nodup->P[i]? = some x->vs[i]? = some v->kindOf x ≠ some .local->
  bindC kindOf (P.zip vs) m x=some v
 | [],_,_,_,_,h,_,_=>by simp at h
 | _ :: _,[],_,_,_,_,h,_=>by simp at h
 | p :: P,w :: vs,0,m,nd,h1,h2,hk=>by
  simp at h1 h2; subst h1; subst h2
  show bindC kindOf ((p,w) :: P.zip vs) m p=_
  unfold bindC
  rw [A5 fun v hv=>(bv9.mp nd).1 (List.of_mem_zip hv).1,if_neg hk]
  simp
 | p :: P,w :: vs,i+1,m,nd,h1,h2,hk=>by
  show bindC kindOf ((p,w) :: P.zip vs) m x=_
  unfold bindC
  exact A7 (i:=i) (bv9.mp nd).2 (by simpa using h1) (by simpa using h2) hk
def gW (N:List Str) (vs:List V):St:=vs.map some ++ List.replicate (N.length - vs.length) none
def dH (CX:gV) (P:Program) (w:World) (K:PySem.W.Frag) (mg:Str->Option Value) (base:Heap) (N:List Str) (qual:Str) (scope:Scope) (f:Addr) (cd:Value) (A:Around) (outer:List Env) (s:Shared) (H:Hp) (E:XK):Cx where
 prog:=P
 w:=w
 K:=K
 mg:=mg
 base:=base
 A:=A.deeper (envOfC qual scope s.heap.objs.size f cd)
 N:=N
 s₀:=s
 H₀:=H
 env:=envOfC qual scope s.heap.objs.size f cd
 outer:=outer
 stack:=envOfC qual scope s.heap.objs.size f cd :: outer
 ex:=[]
 calm:=true
 fn:=fun _=>true
 pn:=[]
 xe:=fun e s'=>wpAny (model P w) (A.deeper (envOfC qual scope s.heap.objs.size f cd)) (leaving (envOfC qual scope s.heap.objs.size f cd) e) (fun _ s''=>CX outer H s E e s'') (fun e' s''=>CX outer H s E e' s'') s'
theorem A8 {sc:Scope}{n:Nat}{x:Str} (h:sc.names.lookup x=some .cell):∃ c,(cellsFrom n sc.names []).lookup x=some c:=by
 have q:=PySem.W.cellsFrom_some sc.names n [] (.inl h)
 exact Option.isSome_iff_exists.mp q
theorem ar3 {CX:gV}{P:Program}{w:World}{K:PySem.W.Frag}{mg:Str->Option Value}{base:Heap}{N ps:List Str}{qual:Str}{scope:Scope}{f:Addr}{cd:Value}{A:Around}{outer:List Env}{s s1:Shared}{H:Hp}{E:XK}{us:List Value}{vs:List V}
  (S:FnScope N ps scope) (hd:A.handled=none) (e0:qM P w K mg base A outer s H) (hl:vs.length=ps.length) (r:aS vs us)
  (x:InCallC s s.heap.objs.size (bindL (envOfC qual scope s.heap.objs.size f cd).kindOf (ps.zip us) fun _=>none) (cellsFrom (s.heap.objs.size+1) scope.names []) (bindC (envOfC qual scope s.heap.objs.size f cd).kindOf (ps.zip us) fun _=>none) s1) :
  a7 (dH CX P w K mg base N qual scope f cd A outer s H E) [] (gW N vs) H s1:=by
 have hpl:ps.length<=N.length:=by have:=congrArg List.length S.pre; rw [bz0] at this; omega
 obtain ⟨h1,tk,rfl,hk⟩:=x.done
 have noA:∀ b:Addr,b ∉ (dH CX P w K mg base N qual scope f cd A outer s H E).ex:=fun b z=>absurd (show b ∈ ([]:List Addr) from z) (by simp)
 refine⟨⟨e0.mod,S.kind,rfl,rfl,bl1 _,fun y z c h1 h2=>?_,fun y hy=>?_,fun y c _ h=>?_,fun _=>hd,Around.frames_deeper e0.frames,.inr ⟨rfl,rfl⟩,fun b z=>absurd z (noA b),e0.bs,e0.bsz,fun b _ _=>noA b,fun b z=>absurd z (noA b),e0.funs,e0.frf⟩,
  rfl,e0.bare,Un.kept hk,⟨_,x.toInCall.ns,fun i y v h1 h2 h3=>?_⟩,fun y c h=>⟨_,x.cell y c h⟩,e0.hok.fresh (bl1 _),fun y c h=>?_,fun p hp=>absurd (show p ∈ ([]:List (Addr × Obj)) from hp) (by simp),e0.hok.kept hk,?_⟩
 ·exact name_of_addr x.apart (bp8 h1) (bp8 h2)
 ·have hy:scope.names.lookup y=some .cell ∨ scope.names.lookup y=some .free:=hy
  rcases hy with hy | hy
  ·exact A8 hy
  ·exact absurd rfl (S.nofree _ (bp8 hy))
 ·exact bw8 (x.above y c (bp8 h))
 ·have hi:i < vs.length:=by
   unfold gW at h2
   by_cases hi:i < vs.length
   ·exact hi
   ·rw [bw9 (by simpa using hi)] at h2
    rw [List.getElem?_replicate] at h2
    split at h2 <;> cases h2
  have ha:vs[i]? = some v:=by
   unfold gW at h2
   rw [bv6 (by simpa using hi),bl9] at h2
   cases e:vs[i]? with
   | none=>rw [e] at h2; cases h2
   | some a=>rw [e] at h2; cases h2; rfl
  obtain ⟨u,hu,rv⟩:=r.get ha
  have hp:ps[i]? = some y:=by
   rw [<- S.pre,List.getElem?_take_of_lt (by omega)]; exact h1
  have ndP:ps.Nodup:=by rw [<- S.pre]; exact S.nd.sublist (List.take_sublist _ _)
  refine⟨u,rv,?_⟩
  rcases S.par y (br3 hp) with k | k
  ·exact .inl ⟨k,A6 ndP hp hu k⟩
  ·obtain ⟨c,e⟩:=A8 (n:=s.heap.objs.size+1) k
   refine .inr ⟨.inl k,c,e,?_⟩
   have q:=x.cell y c e
   rw [A7 ndP hp hu (by show scope.names.lookup y ≠ _; rw [k]; decide)] at q
   exact q
 ·exact e0.hok.fresh (bw8 (x.above y c (bp8 h)))
 ·unfold gW
  show _=N.length
  rw [bn2,bk8,List.length_replicate]
  omega
theorem A9 {CX:gV}{P:Program}{w:World}{K:PySem.W.Frag}{mg:Str->Option Value}{base:Heap}{k:Nat}{f:Addr}{name qual:Str}{params:Arguments}{body:List Stmt}{scope:Scope}{dV kV doc pm cdv ct oc:Value}{an od:Option Addr}
  {osl:Array (Option Value)}{N ps:List Str}{sp:Sp} (lk:K.lookup f=some ⟨oc,od,.func (PySem.W.fnOf name qual params body scope dV kV doc pm an cdv ct),osl⟩) (hcd:PySem.W.codeIn K cdv qual=true) (S:FnScope N ps scope)
  (len:∀ vs H Q E,sp vs H Q E->vs.length=ps.length)
  (hbody:∀ (A:Around) (outer:List Env) (s:Shared) (H:Hp) (vs:List V) (Q:VK) (E:XK),cE k (A.deeper (envOfC qual scope s.heap.objs.size f cdv))->sp vs H Q E->
   ∃ t,dU (dH CX P w K mg base N qual scope f cdv A outer s H E) body t/\t { nx:=fun _ H'=>Q .non H',rt:=Q } (gW N vs) H) :
  dQ P w K mg base CX (k+1) f (PySem.W.fnOf name qual params body scope dV kV doc pm an cdv ct) ps sp:=by
 refine⟨len,fun A outer s H args us vs Q E hr e0 hb r hsp=>?_⟩
 have hl:=len _ _ _ _ hsp
 have KX:K.In s.heap:=e0.mod.kin.keeps fun b o e=>(e0.bs b o e).1
 have lim:s.heap.NoLimit:=e0.mod.nolimit.keeps fun b o e=>(e0.bs b o e).1
 have hkind:∀ y ∈ ps.zip us,scope.names.lookup y.1=some .local ∨ (scope.names.lookup y.1=some .cell/\((cellsFrom (s.heap.objs.size+1) scope.names []).lookup y.1).isSome=true):=fun ⟨n,v⟩ hy=>by
  rcases S.par n (List.of_mem_zip hy).1 with q | q
  ·exact .inl q
  ·exact .inr ⟨q,PySem.W.cellsFrom_some _ _ _ (.inl q)⟩
 refine codeAny_call_function hr.depth (KX _ _ lk) rfl S.co S.gen rfl (PySem.W.codeRec_of KX hcd) (hb _ _ _ _ ?_)
 refine wpAny_newFunctionEnv_cells S.kind hkind fun env he s1 x=>?_
 subst he
 refine⟨lim.keeps x.toInCall.keep,codeAny_func ?_⟩
 obtain ⟨t,ht,hq⟩:=hbody A outer s H vs Q E (hr.deeper _) hsp
 have I:a7 (dH CX P w K mg base N qual scope f cdv A outer s H E) [] (gW N vs) H s1:=ar3 S hr.hd e0 hl r x
 refine br6 (ht [] s1 (gW N vs) H _ I hq) (fun fl s' hs=>?_) fun e s' hs=>hs
 have fin:∀ {σ':St}{H':Hp}{v:V}{u:Value},a7 (dH CX P w K mg base N qual scope f cdv A outer s H E) [] σ' H' s'->aV v u->Q v H'->CE outer P w H s Q u s':=
  fun {σ' H' v u} J rv q=>⟨v,H',J.os,J.bare,J.base,J.hok,rv,q⟩
 cases fl with
 | ret u=>
  obtain ⟨v,σ',H',J,rv,q⟩:=hs
  exact fin J rv q
 | next=>
  obtain ⟨σ',H',J,q⟩:=hs
  exact fin (v:=V.non) (u:=Value.none) J rfl q
 | brk=>
  obtain ⟨_,_,_,q⟩:=hs
  exact False.elim q
 | cont=>
  obtain ⟨_,_,_,q⟩:=hs
  exact False.elim q
section
variable {X : Cx} {x : Str} {p pos : Pos} {e : Expr} {es : List Expr} {t : TA} {id T : String} {r : List V → Hp → VK → Prop}
def uN (r:List V->Hp->VK->Prop) (t:TA):TE:=fun σ H Q=>t σ H fun vs H1=>r vs H1 Q
theorem uO (hc:cO X (.builtin id) r) (hg:Gl X x) (hm:X.mg x=none) (hv:bootBuiltins x=some (.builtin id)) (ha:PA X (e :: es) t) (hn:x ≠ "__name__":=by decide) (hdb:(x == ("__debug__" : Str))=false:=by decide)
  (he:starEach (e :: es) X.env=(false,eval e X.env) :: starEach es X.env:=by rfl) (hpl:(backTo pos (starEach es X.env)).any (·.1)=false:=by rfl):PE X (.Call (.Name x p) (e :: es) [] pos) (uN r t):=by
 intro pins s σ H Q I h
 refine wpAny_Call_Name_kw (kW I hg hm hv ?_ hn hdb)
 exact PyProof.Rows.callWith_builtin1 (aL (ha pos pins s σ H _ I h) fun us s1 ⟨vs,H1,I1,r1,q1⟩=>hc pins s1 σ H1 vs us Q I1 r1 q1) he hpl
theorem B0 (hc:cO X (.type T) r) (hg:Gl X x) (hm:X.mg x=none) (hv:bootBuiltins x=some (.type T)) (ha:PA X (e :: es) t) (hn:x ≠ "__name__":=by decide) (hdb:(x == ("__debug__" : Str))=false:=by decide)
  (he:starEach (e :: es) X.env=(false,eval e X.env) :: starEach es X.env:=by rfl) (hpl:(backTo pos (starEach es X.env)).any (·.1)=false:=by rfl):PE X (.Call (.Name x p) (e :: es) [] pos) (uN r t):=by
 intro pins s σ H Q I h
 refine wpAny_Call_Name_kw (kW I hg hm hv ?_ hn hdb)
 exact bw6 (aL (ha pos pins s σ H _ I h) fun us s1 ⟨vs,H1,I1,r1,q1⟩=>hc pins s1 σ H1 vs us Q I1 r1 q1) he hpl
end
end L2
namespace HT
open PySem PyProof.Rows
def aR:List Int->List Int->Bool
 | [],[]=>false
 | [],_ :: _=>true
 | _ :: _,[]=>false
 | x :: xs,y :: ys=>if x=y then aR xs ys else decide (x < y)
theorem gX (x y:Int) (xs ys:List Int):aR (x :: xs) (y :: ys)=if x=y then aR xs ys else decide (x < y):=rfl
theorem qN:aR [] []=false:=rfl
theorem B1 (y:Int) (ys:List Int):aR [] (y :: ys)=true:=rfl
theorem B2 (x:Int) (xs:List Int):aR (x :: xs) []=false:=rfl
theorem B3 (A:Around) (s:Shared) (a:Int) (t:Tok) (c:Int) (u:Tok):∃ e,SeqAt.EqAt A s (.int a t) (.int c u) e/\(e=true ↔ a=c):=
 ⟨(a == c),SeqAt.EqAt.int_int a t c u,by simp⟩
theorem ar4 (A:Around) (s:Shared) (a:Int) (t:Tok) (c:Int) (u:Tok) (prog:Program) (w:World) (E:Value->Shared->Prop) (Q:Value->Shared->Prop) (h:Q (.bool (decide (a < c))) s) :
  wpAny (model prog w) A (richCompare .Lt (.int a t) (.int c u)) Q E s:=
 (PyProof.Rows.lt_int h:wpAny (model prog w) A (compareOp .Lt (.int a t) (.int c u)) Q E s)
section
open PySem.SeqAt
open PySem.MeetsSeq PySem.MeetsSeq2 PySem.MeetsSeq3
theorem ar5 (l b:Addr) (items items2:Array Value) (n n2:Nat) (dd dd2:Option Addr) (sl sl2:Array (Option Value)) (ns ms:List Int) (hi:IntsAre items.toList ns) (hj:IntsAre items2.toList ms) :
  Meets (Builtin.«tuple.__lt__» ⟨[.ref l,.ref b],[]⟩)
   (fun _ R s=>s.heap.get? l=some { cls:=.type "tuple",dict:=dd,data:=.seq items n,slots:=sl }/\s.heap.get? b=some { cls:=.type "tuple",dict:=dd2,data:=.seq items2 n2,slots:=sl2 }/\
    R (.ok (.ret (.bool (aR ns ms)))) s):=
 .of_wp fun prog w A R s h=>by
  obtain ⟨hp,g,d,tk,os⟩:=s; obtain ⟨hl,hb,h⟩:=h
  have f2:=AutoSeq1.sub_tuple_tuple
  have z1:items.size=ns.length:=by rw [<- hi.length]; simp
  have z2:items2.size=ms.length:=by rw [<- hj.length]; simp
  wp_walk using bu8 hl,bu8 hb,wpAny_forIn_list _ (fun cM b s'=>b.1=none/\s'=⟨hp,g,d,tk,os⟩/\∃ (vs ws:List Value) (ns' ms':List Int),cM=vs.zip ws/\
   IntsAre vs ns'/\IntsAre ws ms'/\ns'.length+items2.size=ms'.length+items.size/\R (.ok (.ret (.bool (aR ns' ms')))) ⟨hp,g,d,tk,os⟩) _
  case turn=>
   rintro ⟨y,x⟩ cM b s' ⟨hb',rfl,vs,ws,ns',ms',hz,hvi,hwi,hlen,hR⟩
   cases hvi with
   | nil=>rw [List.zip_nil_left] at hz; cases hz
   | cons a t hvi'=>
    cases hwi with
    | nil=>rw [List.zip_nil_right] at hz; cases hz
    | cons c u hwi'=>
     rw [bt3] at hz
     injection hz with hyx hrest
     injection hyx with hy hx
     subst hy hx
     rw [gX] at hR
     simp only [bp1] at hlen
     obtain ⟨e,he,hiff⟩:=B3 A.in1 ⟨hp,g,d,tk,os⟩ a t c u
     refine bj8 (he prog w _ _ ?_)
     cases e with
     | true=>
      rw [if_pos (hiff.mp rfl)] at hR
      wp_walk
      exact⟨rfl,rfl,_,_,_,_,hrest,hvi',hwi',by omega,hR⟩
     | false=>
      rw [if_neg (fun q=>absurd (hiff.mpr q) bm6)] at hR
      have hri:=ar4 A.in1 ⟨hp,g,d,tk,os⟩ a t c u prog w
      wp_walk using hri
      exact⟨_,rfl,by simpa using hR⟩
  case fin=>
   rintro ⟨b1,b2⟩ s' ⟨hb',rfl,vs,ws,ns',ms',hz,hvi,hwi,hlen,hR⟩
   simp only at hb'
   subst hb'
   have hv:aR ns' ms'=decide (items.size < items2.size):=by
    cases hvi with
    | nil=>
     cases hwi with
     | nil=>
      simp only [by5] at hlen
      rw [qN]
      exact (bk1 (by omega)).symm
     | cons c u hw=>
      simp only [by5,bp1] at hlen
      rw [B1]
      exact (bk4 (by omega)).symm
    | cons a t hv=>
     cases hwi with
     | nil=>
      simp only [by5,bp1] at hlen
      rw [B2]
      exact (bk1 (by omega)).symm
     | cons c u hw=>
      rw [bt3] at hz
      cases hz
   rw [hv] at hR
   wp_walk
   exact⟨_,rfl,by simpa [Builtin.Tuple.tupleCompareSizes] using hR⟩
  case h=>
   exact⟨rfl,rfl,items.toList,items2.toList,ns,ms,rfl,hi,hj,by omega,h⟩
end
section
variable {prog : Program} {w : World} {A : Around} {E : Value → Shared → Prop} {s : Shared}
theorem B4 {l b:Addr}{items items2:Array Value}{ns ms:List Int}{Q:Value->Shared->Prop} (hl:IsTup s.heap l items) (hb:IsTup s.heap b items2) (hi:IntsAre items.toList ns) (hj:IntsAre items2.toList ms)
  (hu:A.units < cLine) (h:Q (.bool (aR ns ms)) s):wpAny (model prog w) A (compareOp .Lt (.ref l) (.ref b)) Q E s:=by
 obtain ⟨⟨cls,dd,data,sl⟩,ho,hc,n,hd⟩:=id hl
 obtain ⟨⟨cls2,dd2,data2,sl2⟩,ho2,hc2,n2,hd2⟩:=id hb
 simp only at hc hd hc2 hd2
 subst hc hd hc2 hd2
 exact richCompare_meets_room (op:=.Lt) ⟨_,ho,rfl⟩ ⟨_,ho2,rfl⟩ PySem.F.slot_tuple_lt PySem.F.entry_tuple_lt (PySem.F.args_tuple_lt_2 _ _) (ar5 l b items items2 n n2 dd dd2 sl sl2 ns ms hi hj)
  ⟨ho,ho2,show Value.bool (aR ns ms) ≠ Value.notImplemented/\Q (.bool (aR ns ms)) s from ⟨(fun x=>nomatch x),h⟩⟩ hu
def b6 (n d:Nat):Option Int->Nat
 | none=>d
 | some v=>if v < 0 then (v+(n:Int)).toNat else min v.toNat n
theorem ar6 (n d:Nat):b6 n d none=d:=rfl
theorem ar7 (n d:Nat) (hd:d<=n) (o:Option Int):b6 n d o<=n:=by
 cases o with
 | none=>exact hd
 | some v=>
  show (if v < 0 then (v+(n:Int)).toNat else min v.toNat n)<=n
  by_cases hv:v < 0
  ·rw [if_pos hv]; omega
  ·rw [if_neg hv]; exact Nat.min_le_right _ _
theorem B5 (v:Int) (n d:Nat):(if v < 0 then max (v+(n:Int)) 0 else min v (n:Int))=((b6 n d (some v):Nat):Int):=by
 show (if v < 0 then max (v+(n:Int)) 0 else min v (n:Int))=(((if v < 0 then (v+(n:Int)).toNat else min v.toNat n):Nat):Int)
 by_cases hv:v < 0
 ·simp only [if_pos hv]; omega
 ·simp only [if_neg hv]; omega
theorem ar8 (lo hi:Option Int) (n:Nat):Builtin.Slice.sliceAdjust lo hi 1 (n:Int)=(((b6 n 0 lo:Nat):Int),((b6 n n hi:Nat):Int)):=by
 have h1 : ¬ ((1:Int) < 0):=by omega
 unfold Builtin.Slice.sliceAdjust
 simp only [h1,bt1]
 refine bv7 ?_ ?_
 ·cases lo with
  | none=>rfl
  | some v=>exact B5 v n 0
 ·cases hi with
  | none=>rfl
  | some v=>exact B5 v n n
theorem ar9 (i j:Nat):Builtin.Slice.slicePlaces (i:Int) (j:Int) 1=j - i:=by
 unfold Builtin.Slice.slicePlaces
 have h1:(1:Int) > 0:=by omega
 simp only [h1,if_true,Int.ediv_one]
 split <;> omega
theorem B6 {v:Value}{o:Option Int}{Q:Option Int->Shared->Prop} (p:IsPart v o) (h:Q o s):wpAny (model prog w) A (Builtin.Slice.slicePartIndex v) Q E s:=by
 cases p with
 | none=>exact slicePart_none h
 | int i t=>exact slicePart_int h
theorem B7 {sl:Addr}{vl vu:Value}{lo hi:Option Int}{n:Nat}{Q:Int × Int × Nat->Shared->Prop} (hs:s.heap.IsSliceOf sl vl vu .none) (pl:IsPart vl lo) (pu:IsPart vu hi)
  (h:Q (((b6 n 0 lo:Nat):Int),1,b6 n n hi - b6 n 0 lo) s):wpAny (model prog w) A (Builtin.Slice.sliceApplied (.ref sl) (pure (n:Int))) Q E s:=by
 obtain ⟨os,hos,hcs,hds⟩:=id hs
 unfold Builtin.Slice.sliceApplied Builtin.Slice.sliceFields
 refine bj8 (bj8 (bq5 hos hds (x:=vl) rfl (bj8 (bq5 hos hds (x:=vu) rfl (bj8 (bq5 hos hds (x:=.none) rfl (bk2 ?_)))))))
 refine bj8 (slicePart_none ?_)
 show wpAny _ _ (if ((1:Int) == 0)=true then _ else _) _ _ s
 rw [if_neg (by decide)]
 refine bj8 (B6 pl (bj8 (B6 pu (bj8 (bk2 ?_)))))
 show wpAny _ _ (match Builtin.Slice.sliceAdjust lo hi 1 (n:Int) with | (lo,hi)=>pure (lo,(1:Int),Builtin.Slice.slicePlaces lo hi 1)) _ _ s
 rw [ar8 lo hi n]
 show wpAny _ _ (pure (((b6 n 0 lo:Nat):Int),(1:Int),Builtin.Slice.slicePlaces ((b6 n 0 lo:Nat):Int) ((b6 n n hi:Nat):Int) 1)) _ _ s
 rw [ar9]
 exact bk2 h
theorem as0 (xs:Array Value) (i k:Nat):((List.range k).filterMap fun (m:Nat)=>xs[((i:Int)+(m:Int) * 1).toNat]?).toArray=((xs.toList.drop i).take k).toArray:=by
 have e:(fun (m:Nat)=>xs[((i:Int)+(m:Int) * 1).toNat]?)=fun m=>xs[i+m]?:=by
  funext m
  have:((i:Int)+(m:Int) * 1).toNat=i+m:=by omega
  rw [this]
 rw [e]
 have:=pick_run xs i k
 rw [List.filterMap_map] at this
 have e2:((fun x=>xs[x]?) ∘ fun x=>i+x)=fun m=>xs[i+m]?:=rfl
 rw [e2] at this
 rw [this]
theorem as1 {t sl:Addr}{items:Array Value}{vl vu:Value}{lo hi:Option Int}{Q:Value->Shared->Prop} (ht:IsTup s.heap t items) (hs:s.heap.IsSliceOf sl vl vu .none) (pl:IsPart vl lo) (pu:IsPart vu hi)
  (hw : ¬ (b6 items.size 0 lo=0/\b6 items.size items.size hi=items.size))
  (h:Q (.ref s.heap.objs.size) { s with heap:=s.heap.push { cls:=.type "tuple",data:=.seq ((items.toList.drop (b6 items.size 0 lo)).take (b6 items.size items.size hi - b6 items.size 0 lo)).toArray } })
  (hsz:items.size<=sizeLine):wpAny (model prog w) A (getItem (.ref t) (.ref sl)) Q E s:=by
 have htake:sizeOk (.seq ((items.toList.drop (b6 items.size 0 lo)).take (b6 items.size items.size hi - b6 items.size 0 lo)).toArray):=by
  show ((items.toList.drop (b6 items.size 0 lo)).take (b6 items.size items.size hi - b6 items.size 0 lo)).toArray.size<=sizeLine
  rw [bk3,bz0,bz1,bp7]
  omega
 have hj:b6 items.size items.size hi<=items.size:=ar7 _ _ (bl1 _) hi
 obtain ⟨os,hos,hcs,hds⟩:=id hs
 have hTs:s.TypeIs (.ref sl) "slice":=⟨os,hos,hcs⟩
 unfold getItem
 try with_reducible refine br7 ?_
 first | refine bj8 (bk2 ?_) | skip
 refine bj8 (wpAny_sequenceKey ht.typeIs (by decide) ?_)
 refine bj8 (bq6 (name:=Str.ofString "__getitem__") ht.typeIs bx4
  (br0 bx4 ht.typeIs entry_tuple_getitem ?_ (args_tuple_getitem _ _)))
 show wpAny _ _ (Builtin.Tuple.tupleItemsOf (.ref t) >>= _) _ _ s
 refine bj8 (tupleItemsOf_ ht ?_)
 refine bj8 (wpAny_typeOf hTs ?_)
 rw [if_pos (by decide)]
 refine bj8 (B7 hs pl pu ?_)
 have hno : ¬ ((((b6 items.size 0 lo:Nat):Int) == 0 && (1:Int) == 1 && (b6 items.size items.size hi - b6 items.size 0 lo) == items.size)=true):=by
  intro q
  rw [br1,br1] at q
  have q1:((b6 items.size 0 lo:Nat):Int)=0:=eq_of_beq q.1.1
  have q2:b6 items.size items.size hi - b6 items.size 0 lo=items.size:=eq_of_beq q.2
  exact hw ⟨by omega,by omega⟩
 show wpAny _ _ (if (((b6 items.size 0 lo:Nat):Int) == 0 && (1:Int) == 1 && (b6 items.size items.size hi - b6 items.size 0 lo) == items.size)=true then _ else _) _ _ s
 rw [if_neg hno,as0]
 first
  | exact bj8 (m:=Builtin.Tuple.tupleExact _) (bp0 (bk2 ⟨_,rfl,bk2 h⟩) htake)
  | exact bj8 (m:=Builtin.Tuple.tupleExact _) (bp0 (bj8 (bk2 (bk2 ⟨_,rfl,bk2 h⟩))) htake)
  | exact bj8 (bj8 (m:=Builtin.Tuple.tupleExact _) (bp0 (bk2 (bk2 ⟨_,rfl,bk2 h⟩)) htake))
  | exact bj8 (bj8 (m:=Builtin.Tuple.tupleExact _) (bp0 (bk2 ⟨_,rfl,bk2 h⟩) htake))
end
end HT
namespace L2
open PySem PySem.Spec PyProof.Rows
abbrev TO:=St->Hp->(Option Int->Hp->Prop)->Prop
def PO (X:Cx) (e:Option Expr) (t:TO):Prop:=
 ∀ (pins:List (Addr × Obj)) (s:Shared) (σ:St) (H:Hp) (Q:Option Int->Hp->Prop),a7 X pins σ H s->t σ H Q->
  wpAny (model X.prog X.w) X.A (evalPart e X.env) (fun u s'=>∃ o H',a7 X pins σ H' s'/\IsPart u o/\Q o H') X.xe s
def as2:TO:=fun _ H Q=>Q none H
def as3 (t:TE):TO:=fun σ H Q=>t σ H fun x H1=>∃ i,x = .int i/\Q (some i) H1
theorem jC {ns:List Int}:∀ {us:List Value},aS (ns.map V.int) us->IntsAre us ns:=by
 induction ns with
 | nil=>intro us r; rw [List.map_nil] at r; cases r; exact .nil
 | cons n ns ih=>
  intro us r
  rw [bp9] at r
  cases r with
  | cons r1 r2=>
   obtain ⟨t,e⟩:=r1
   subst e
   exact .cons n t (ih r2)
section
variable {X : Cx} {e : Expr} {te : TE} {lo hi : Option Expr} {tl th : TO} {pos p2 : Pos}
theorem as4:PO X none as2:=by
 intro pins s σ H Q I h
 rw [evalPart_none]
 exact bk2 ⟨none,H,I,.none,h⟩
theorem as5 (h:PE X e te):PO X (some e) (as3 te):=by
 intro pins s σ H Q I hw
 rw [evalPart_some]
 refine aL (h pins s σ H _ I hw) fun u s1 ⟨x,H1,I1,r1,q1⟩=>?_
 obtain ⟨i,rfl,q⟩:=q1
 obtain ⟨t,rfl⟩:=r1
 exact⟨some i,H1,I1,.int i t,q⟩
def kB (X:Cx) (r:V->Option Int->Option Int->Hp->VK->Prop):Prop:=
 ∀ (pins:List (Addr × Obj)) (s:Shared) (σ:St) (H:Hp) (x:V) (v vl vu:Value) (lo hi:Option Int) (sl:Addr) (Q:VK),a7 X pins σ H s->aV x v->s.heap.IsSliceOf sl vl vu .none->IsPart vl lo->IsPart vu hi->r x lo hi H Q->
  ∃ T id,typeLookup (.type T) "__getitem__" = pure (some (.builtin id))/\s.TypeIs v T/\wpAny (model X.prog X.w) X.A (getItem v (.ref sl)) (EP X pins σ Q) X.xe s
theorem kB.or {r r':V->Option Int->Option Int->Hp->VK->Prop} (h:kB X r) (h':kB X r'):kB X (fun x lo hi H Q=>r x lo hi H Q ∨ r' x lo hi H Q):=by
 intro pins s σ H x v vl vu lo hi sl Q I rx hs pl pu q
 rcases q with q | q
 ·exact h pins s σ H x v vl vu lo hi sl Q I rx hs pl pu q
 ·exact h' pins s σ H x v vl vu lo hi sl Q I rx hs pl pu q
def tSl (r:V->Option Int->Option Int->Hp->VK->Prop) (te:TE) (tl th:TO):TE:=fun σ H Q=>te σ H fun x H1=>tl σ H1 fun l H2=>th σ H2 fun u H3=>r x l u H3 Q
theorem as6 {r:V->Option Int->Option Int->Hp->VK->Prop} (hr:kB X r) (he:PE X e te) (hl:PO X lo tl) (hu:PO X hi th):PE X (.Subscript e (.Slice lo hi none p2) pos) (tSl r te tl th):=by
 intro pins s σ H Q I h
 refine Subscript_ (aL (he pins s σ H _ I h) fun v s1 ⟨x,H1,I1,r1,q1⟩=>?_)
 refine wpAny_Slice (aL (hl pins s1 σ H1 _ I1 q1) fun vl s2 ⟨l,H2,I2,pl,q2⟩=>aL (hu pins s2 σ H2 _ I2 q2) fun vu s3 ⟨u,H3,I3,pu,q3⟩=>?_)
 rw [evalPart_none]
 refine bk2 ?_
 have I4:a7 X pins σ H3 { s3 with heap:=s3.heap.push { cls:=.type "slice",data:=.fields #[vl,vu,.none] } }:=I3.kept (t':=s3.toks) fun b ob q=>bk0 _ q
 obtain ⟨T,id,hT,ht,hg⟩:=hr pins { s3 with heap:=s3.heap.push { cls:=.type "slice",data:=.fields #[vl,vu,.none] } } σ H3 x v vl vu l u s3.heap.objs.size Q I4 r1 (Heap.IsSliceOf.new ..) pl pu q3
 show wpAny (model X.prog X.w) X.A (subscriptTail e (.Slice lo hi none p2) v (.ref s3.heap.objs.size)) (EP X pins σ Q) X.xe { s3 with heap:=s3.heap.push { cls:=.type "slice",data:=.fields #[vl,vu,.none] } }
 exact tail_any (ops:=[.ref s3.heap.objs.size,v]) ht hT hg (by with_unfolding_all rfl)
def i8 (xs:List V) (lo hi:Option Int):List V:=(xs.drop (HT.b6 xs.length 0 lo)).take (HT.b6 xs.length xs.length hi - HT.b6 xs.length 0 lo)
theorem B8 (xs:List V) (lo hi:Option Int):(i8 xs lo hi).length<=xs.length:=by
 unfold i8
 rw [bz0,bz1]
 omega
def as7 (K:PySem.W.Frag):V->Option Int->Option Int->Hp->VK->Prop:=fun x lo hi H Q=>∃ a xs,x = .ref a/\aU K H a xs/\
 ¬ (HT.b6 xs.length 0 lo=0/\HT.b6 xs.length xs.length hi=xs.length)/\∀ p,H p=none->Q (.ref p) (upd H p (.tup (i8 xs lo hi)))
theorem as8:kB X (as7 X.K):=by
 intro pins s σ H x v vl vu lo hi sl Q I rx hs pl pu h
 obtain ⟨a,xs,rfl,hx,hw,q⟩:=h
 cases rx
 obtain ⟨its,r,ht,hz⟩:=I.tuple hx
 have hlen:its.toArray.size=xs.length:=by rw [bk3]; exact r.length.symm
 refine⟨"tuple",_,PyProof.Rows.slot_tuple_getitem.lookup,ht.typeIs,?_⟩
 refine HT.as1 ht hs pl pu (by rw [hlen]; exact hw) ?_ (by rw [hlen]; exact hz)
 rw [hlen]
 refine⟨.ref s.heap.objs.size,_,I.laid (t':=s.toks) (o:=.tup (i8 xs lo hi)) (fun b ob q=>bk0 _ q) (bl1 _) ?_,rfl,q _ (I.hok.fresh (bl1 _))⟩
 exact⟨bo3 (B8 xs lo hi) hz,_,(r.drop (HT.b6 xs.length 0 lo)).take (HT.b6 xs.length xs.length hi - HT.b6 xs.length 0 lo),IsTup.new _ _,j8.new _ _ rfl⟩
def uP (K:PySem.W.Frag):R2:=fun x y H Q=>∃ a b ns ms,x = .ref a/\y = .ref b/\aU K H a (ns.map V.int)/\aU K H b (ms.map V.int)/\Q (.bl (HT.aR ns ms)) H
theorem B9 (hu:X.A.units < cLine):bN X (compareOp .Lt) (uP X.K):=by
 intro pins s σ H x y v u Q I rx ry h
 obtain ⟨a,b,ns,ms,rfl,rfl,ha,hb,q⟩:=h
 cases rx
 cases ry
 obtain ⟨its,r1,p1,_⟩:=I.tuple ha
 obtain ⟨its2,r2,p2,_⟩:=I.tuple hb
 have i1:IntsAre its.toArray.toList ns:=jC r1
 have i2:IntsAre its2.toArray.toList ms:=jC r2
 exact HT.B4 p1 p2 i1 i2 hu ⟨.bl (HT.aR ns ms),H,I,rfl,q⟩
end
def l0 (n:Nat) (i:Int):Option Nat:=if 0<=i then (if i < n then some i.toNat else none) else if -(n:Int)<=i then some (i+n).toNat else none
def atI {α:Type} (xs:List α) (i:Int):Option α:=(l0 xs.length i).bind fun j=>xs[j]?
theorem as9 {n:Nat}{i:Int}{j:Nat} (h:l0 n i=some j):seqIndex? i n=some j/\j < n/\-(n:Int)<=i/\i < n:=by
 unfold l0 at h
 by_cases h0:0<=i
 ·rw [if_pos h0] at h
  by_cases h1:i < n
  ·rw [if_pos h1] at h
   have e:i.toNat=j:=bn1 h
   exact⟨by rw [seqIndex_of h0 h1,e],by omega,by omega,h1⟩
  ·rw [if_neg h1] at h; cases h
 ·rw [if_neg h0] at h
  by_cases h1 : -(n:Int)<=i
  ·rw [if_pos h1] at h
   have e:(i+n).toNat=j:=bn1 h
   exact⟨by rw [seqIndex_neg (by omega) h1,e],by omega,h1,by omega⟩
  ·rw [if_neg h1] at h; cases h
theorem uQ {α:Type}{xs:List α}{i:Int}{v:α} (h:atI xs i=some v):∃ j,seqIndex? i xs.length=some j/\xs[j]? = some v/\j < xs.length/\-(xs.length:Int)<=i/\i < xs.length:=by
 unfold atI at h
 cases e:l0 xs.length i with
 | none=>rw [e] at h; cases h
 | some j=>
  rw [e] at h
  obtain ⟨h1,h2,h3,h4⟩:=as9 e
  exact⟨j,h1,h,h2,h3,h4⟩
theorem uR {α:Type}{xs:List α}{j:Nat}{v:α} (h:xs[j]? = some v):atI xs (j:Int)=some v:=by
 have hj:j < xs.length:=(bl0.mp h).1
 have e:l0 xs.length (j:Int)=some j:=by
  unfold l0
  rw [if_pos (by omega),if_pos (by omega)]; simp
 unfold atI; rw [e]; exact h
def C0 (b:Expr):Prop:=∀ o i,subscripted b false o i=operate [o,i] (getItem o i)
def jD (X:Cx) (r:R2):Prop:=
 ∀ (value slice:Expr) (pins:List (Addr × Obj)) (s:Shared) (σ:St) (H:Hp) (x y:V) (v u:Value) (Q:VK),a7 X pins σ H s->aV x v->aV y u->r x y H Q->
  subscripted slice false v u=operate [v,u] (getItem v u)->wpAny (model X.prog X.w) X.A (subscriptTail value slice v u) (EP X pins σ Q) X.xe s
def MtR (X:Cx) (id:String) (r:V->List V->Hp->VK->Prop):Prop:=
 ∀ (pins:List (Addr × Obj)) (s:Shared) (σ:St) (H:Hp) (x:V) (xs:List V) (v:Value) (us:List Value) (Q:VK),a7 X pins σ H s->aV x v->aS xs us->r x xs H Q->
  wpAny (model X.prog X.w) X.A (call (.builtin id) (v :: us)) (EP X pins σ Q) X.xe s
section
variable {X : Cx} {a b : Expr} {ta tb : TE} {pos : Pos}
theorem jD.or {r r':R2} (h:jD X r) (h':jD X r'):jD X (fun x y H Q=>r x y H Q ∨ r' x y H Q):=by
 intro value slice pins s σ H x y v u Q I rx ry q hs
 rcases q with q | q
 ·exact h value slice pins s σ H x y v u Q I rx ry q hs
 ·exact h' value slice pins s σ H x y v u Q I rx ry q hs
theorem at0 {r:R2} (hr:jD X r) (ha:PE X a ta) (hb:PE X b tb) (hs:C0 b):PE X (.Subscript a b pos) (oA r ta tb):=by
 intro pins s σ H Q I h
 exact Subscript_ (uE ha hb I h fun v u s2 x y H2 I2 rx ry q=>hr a b pins s2 σ H2 x y v u Q I2 rx ry q (hs _ _))
def C1 (K:PySem.W.Frag):R2:=fun x y H Q=>∃ p xs i v,x = .ref p/\y = .int i/\aT K H p xs/\atI xs i=some v/\Q v H
def C2 (K:PySem.W.Frag):R2:=fun x y H Q=>∃ p xs i v,x = .ref p/\y = .int i/\aU K H p xs/\atI xs i=some v/\Q v H
def C3:R2:=fun x y H Q=>∃ z i c,x = .str z/\y = .int i/\z.length<=sizeLine/\atI z.cps.toList i=some c/\Q (.str ⟨#[c]⟩) H
theorem at2:jD X (C1 X.K):=by
 intro value slice pins s σ H x y v u Q I rx ry h hs
 obtain ⟨p,xs,i,z,rfl,rfl,hq,he,q⟩:=h
 cases rx
 obtain ⟨t,rfl⟩:=ry
 obtain ⟨its,r,pl,hz⟩:=I.list hq
 obtain ⟨j,h1,h2,h3,h4,h5⟩:=uQ he
 obtain ⟨w,ew,rw'⟩:=r.get h2
 have hl:=r.length
 have hn:=qL
 have fin:EP X pins σ Q w s:=⟨z,H,I,rw',q⟩
 by_cases h0:0<=i
 ·have hj:i.toNat=j:=by
   rw [seqIndex_of h0 h5] at h1
   exact bn1 h1
  exact item_listR pl.isList h0 (by omega) (by rw [hj]; simpa using ew) fin hs
 ·have hj:(i+(its.toArray.size:Int)).toNat=j:=by
   rw [seqIndex_neg (by omega) h4] at h1
   rw [bk3,<- hl]
   exact bn1 h1
  exact subscriptTail_builtinR (x:=w) pl.isList.typeIs slot_list_getitem.lookup
   (wpAny_getItem_list_neg (Q:=fun r s'=>r=w/\EP X pins σ Q r s') pl.isList (by omega) (by rw [bk3] <;> omega) (by omega) (by rw [hj]; simpa using ew) ⟨rfl,fin⟩) hs
theorem at3:jD X (C2 X.K):=by
 intro value slice pins s σ H x y v u Q I rx ry h hs
 obtain ⟨p,xs,i,z,rfl,rfl,hq,he,q⟩:=h
 cases rx
 obtain ⟨t,rfl⟩:=ry
 obtain ⟨its,r,pl,hz⟩:=I.tuple hq
 obtain ⟨j,h1,h2,h3,h4,h5⟩:=uQ he
 obtain ⟨w,ew,rw'⟩:=r.get h2
 have hl:=r.length
 have hn:=qL
 have fin:EP X pins σ Q w s:=⟨z,H,I,rw',q⟩
 exact subscriptTail_builtinR (x:=w) pl.typeIs slot_tuple_getitem.lookup
  (getItem_tuple (j:=j) (Q:=fun r s'=>r=w/\EP X pins σ Q r s') pl (by omega) (by omega) (by rw [bk3,<- hl]; exact h1) (by simpa using ew) ⟨rfl,fin⟩) hs
theorem at4:jD X C3:=by
 intro value slice pins s σ H x y v u Q I rx ry h hs
 obtain ⟨z,i,c,rfl,rfl,hz,he,q⟩:=h
 obtain ⟨t,rfl⟩:=rx
 obtain ⟨t',rfl⟩:=ry
 obtain ⟨j,h1,h2,h3,h4,h5⟩:=uQ he
 have hl:z.cps.toList.length=z.length:=by simp [Str.length]
 rw [hl] at h1 h4 h5
 have hn:=qL
 exact tail_any (typeIs_str s z t) slot_str_getitem.lookup (getItem_str (c:=c) (by
  have e1:decide (i < -(2 ^ 63:Int))=false:=bk1 (by omega)
  have e2:decide (i >= 2 ^ 63)=false:=bk1 (by omega)
  rw [e1,e2,Bool.or_false]) (by rw [h1]; simpa using h2) ⟨.str ⟨#[c]⟩,H,I.tok _,⟨_,rfl⟩,q⟩) hs
def C4 (K:PySem.W.Frag):R2:=fun x y H Q=>C1 K x y H Q ∨ C2 K x y H Q ∨ C3 x y H Q
theorem at5:jD X (C4 X.K):=at2.or (at3.or at4)
theorem at6 (lo hi:Option Int) (n:Nat):(sliceBounds lo hi none n).1=((HT.b6 n 0 lo:Nat):Int)/\(sliceBounds lo hi none n).2.1=((HT.b6 n n hi:Nat):Int)/\(sliceBounds lo hi none n).2.2=1:=by
 refine⟨?_,?_,rfl⟩
 ·cases lo with
  | none=>simp [sliceBounds,HT.b6]
  | some i=>
   simp only [sliceBounds,HT.b6,Option.getD_none,show (1:Int) > 0 by decide,if_true]
   by_cases h:i < 0
   ·simp only [h,if_true] <;> omega
   ·simp only [h,bt1] <;> omega
 ·cases hi with
  | none=>simp [sliceBounds,HT.b6]
  | some i=>
   simp only [sliceBounds,HT.b6,Option.getD_none,show (1:Int) > 0 by decide,if_true]
   by_cases h:i < 0
   ·simp only [h,if_true] <;> omega
   ·simp only [h,bt1] <;> omega
theorem at7 (its:List Value) (lo hi:Option Int):slicePick its.toArray lo hi none=((its.drop (HT.b6 its.length 0 lo)).take (HT.b6 its.length its.length hi - HT.b6 its.length 0 lo)).toArray:=by
 obtain ⟨h1,h2,h3⟩:=at6 lo hi its.toArray.size
 unfold slicePick
 rw [h1,h2,h3]
 simp only [sliceRange_one,pick_run,bk3] <;> rfl
def at8 (K:PySem.W.Frag):V->Option Int->Option Int->Hp->VK->Prop:=fun x lo hi H Q=>∃ a xs,x = .ref a/\aT K H a xs/\∀ p,H p=none->Q (.ref p) (upd H p (.lst (i8 xs lo hi)))
theorem at9:kB X (at8 X.K):=by
 intro pins s σ H x v vl vu lo hi sl Q I rx hs pl pu h
 obtain ⟨a,xs,rfl,hx,q⟩:=h
 cases rx
 obtain ⟨its,r,ht,hz⟩:=I.list hx
 have hlen:=r.length
 refine⟨"list",_,slot_list_getitem.lookup,ht.isList.typeIs,?_⟩
 refine wpAny_getItem_list_slice ht.isList hs pl pu .none (by simp) ?_ (by rw [bk3] <;> omega)
 rw [at7,<- hlen]
 refine⟨.ref s.heap.objs.size,_,I.laid (t':=s.toks) (o:=.lst (i8 xs lo hi)) (fun b ob q=>bk0 _ q) (bl1 _) ?_,rfl,q _ (I.hok.fresh (bl1 _))⟩
 exact⟨bo3 (B8 xs lo hi) hz,_,0,(r.drop (HT.b6 xs.length 0 lo)).take (HT.b6 xs.length xs.length hi - HT.b6 xs.length 0 lo),bl7 _ rfl⟩
theorem au0:cO X (.builtin "len") (fun xs H Q=>∃ p ys,xs = [.ref p]/\(aT X.K H p ys ∨ aU X.K H p ys)/\Q (.int ys.length) H):=by
 intro pins s σ H xs us Q I r h
 obtain ⟨p,ys,rfl,hq,q⟩:=h
 obtain ⟨u,rfl,rx⟩:=gU r
 cases rx
 have hn:=qL
 rcases hq with hq | hq
 ·obtain ⟨its,r',pl,hz⟩:=I.list hq
  have hlen:=r'.length
  exact Calls.call_len_list pl.isList (by simp only [bk3] <;> omega) ⟨.int ys.length,H,I.tok _,⟨s.toks+1,by rw [bk3,hlen]⟩,q⟩
 ·obtain ⟨its,r',pl,hz⟩:=I.tuple hq
  have hlen:=r'.length
  exact len_tuple pl (by simp only [bk3] <;> omega) ⟨.int ys.length,H,I.tok _,⟨s.toks+1,by rw [bk3,hlen]⟩,q⟩
theorem cO.or {f:Value}{r r':List V->Hp->VK->Prop} (h:cO X f r) (h':cO X f r'):cO X f (fun xs H Q=>r xs H Q ∨ r' xs H Q):=by
 intro pins s σ H xs us Q I rs q
 rcases q with q | q
 ·exact h pins s σ H xs us Q I rs q
 ·exact h' pins s σ H xs us Q I rs q
theorem au1:cO X (.type "list") (fun xs H Q=>∃ p ys,xs = [.ref p]/\(aT X.K H p ys ∨ aU X.K H p ys)/\∀ l,H l=none->Q (.ref l) (upd H l (.lst ys))):=by
 intro pins s σ H xs us Q I r h
 obtain ⟨p,ys,rfl,hq,q⟩:=h
 obtain ⟨u,rfl,rx⟩:=gU r
 cases rx
 have fin:∀ (its:List Value),aS ys its->ys.length<=sizeLine->∀ (h':Heap) (c':Nat),(∀ b o',s.heap.get? b=some o'->h'.get? b=some o')->
   h'.get? s.heap.objs.size=some { cls:=.type "list",dict:=none,data:=.seq its.toArray c',slots:=#[] }->EP X pins σ Q (.ref s.heap.objs.size) { s with heap:=h' }:=fun its r' hz h' c' kp e=>
  ⟨.ref s.heap.objs.size,_,I.laid (t':=s.toks) kp (bl1 _) (show c9 X.prog X.w _ h' _ (.lst ys) from ⟨hz,its,c',r',e⟩),rfl,q _ (I.hok.fresh (bl1 _))⟩
 rcases hq with hq | hq
 ·obtain ⟨its,r',pl,hz⟩:=I.list hq
  have hlen:=r'.length
  obtain ⟨o,ho,hc,n,hd⟩:=pl.isList
  exact call_list_seq p (.inl rfl) ho hc hd (fun h' c' kp e=>fin its r' hz h' c' kp e) (by simp only [bk3] <;> omega)
 ·obtain ⟨its,r',pl,hz⟩:=I.tuple hq
  have hlen:=r'.length
  obtain ⟨o,ho,hc,n,hd⟩:=pl
  exact call_list_seq p (.inr rfl) ho hc hd (fun h' c' kp e=>fin its r' hz h' c' kp e) (by simp only [bk3] <;> omega)
theorem au2:cO X (.type "tuple") (fun xs H Q=>∃ p ys,xs = [.ref p]/\((aT X.K H p ys/\∀ l,H l=none->Q (.ref l) (upd H l (.tup ys))) ∨ (aU X.K H p ys/\Q (.ref p) H))):=by
 intro pins s σ H xs us Q I r h
 obtain ⟨p,ys,rfl,h⟩:=h
 obtain ⟨u,rfl,rx⟩:=gU r
 cases rx
 rcases h with ⟨hq,q⟩ | ⟨hq,q⟩
 ·obtain ⟨its,r',pl,hz⟩:=I.list hq
  have hlen:=r'.length
  refine call_tuple_list pl.isList (fun h' kp=>?_) (by simp only [bk3] <;> omega)
  have I1:a7 X pins σ H { s with heap:=h' }:=I.kept (t':=s.toks) kp
  have I2:a7 X pins σ (upd H h'.objs.size (.tup ys)) { s with heap:=h'.push { cls:=.type "tuple",data:=.seq its.toArray } }:=
   I1.laid (t':=s.toks) (fun b o e=>bk0 _ e) (bl1 _) (show c9 X.prog X.w _ _ _ (.tup ys) from ⟨hz,its,r',IsTup.new _ _,j8.new _ _ rfl⟩)
  exact⟨.ref h'.objs.size,_,I2,rfl,q _ (I1.hok.fresh (bl1 _))⟩
 ·obtain ⟨its,r',pl,hz⟩:=I.tuple hq
  exact call_tuple_same pl ⟨.ref p,H,I,rfl,q⟩
def i9 (K:PySem.W.Frag) (T:String) (x:V) (H:Hp):Prop:=match x with
 | .str _=>T="str"
 | .int _=>T="int"
 | .ref p=>(T="list"/\∃ xs,aT K H p xs) ∨ (T="tuple"/\∃ o,K.lookup p=some o/\o.cls = .type "tuple"/\o.dict=none) ∨
   (T="dict"/\((∃ kvs,H p=some (.dK kvs)) ∨ ∃ kvs,H p=some (.dT kvs))) ∨ (T="set"/\∃ S n,H p=some (.set S n))
 | _=>False
theorem au3 {pins:List (Addr × Obj)}{σ:St}{H:Hp}{s:Shared}{T:String}{x:V}{v:Value} (I:a7 X pins σ H s) (r:aV x v) (ty:i9 X.K T x H) :
  s.TypeIs v T/\∀ a,v = .ref a->∃ ob,s.heap.get? a=some ob/\ob.dict=none:=by
 cases x with
 | str z=>
  obtain ⟨t,rfl⟩:=r
  cases (show T="str" from ty)
  exact⟨typeIs_str s z t,fun _ e=>nomatch e⟩
 | int i=>
  obtain ⟨t,rfl⟩:=r
  cases (show T="int" from ty)
  exact⟨typeIs_int s i t,fun _ e=>nomatch e⟩
 | ref p=>
  cases r
  rcases ty with ⟨rfl,xs,hq⟩ | ⟨rfl,o,hk,hc,hd⟩ | ⟨rfl,hk⟩ | ⟨rfl,S,n,hk⟩
  ·obtain ⟨its,_,pl,_⟩:=I.list hq
   refine⟨pl.isList.typeIs,fun a e=>?_⟩
   cases e
   obtain ⟨o,n,e,c,hd,_⟩:=pl
   exact⟨o,e,hd⟩
  ·refine⟨⟨o,I.kIn p o hk,hc⟩,fun a e=>?_⟩
   cases e
   exact⟨o,I.kIn _ o hk,hd⟩
  ·have z:∃ o,s.heap.get? p=some o/\o.ExactDict:=by
    rcases hk with ⟨kvs,hk⟩ | ⟨kvs,hk⟩
    ·obtain ⟨_,_,_,_,o,_,_,e,ex,_⟩:=I.hok p _ hk
     exact⟨o,e,ex⟩
    ·obtain ⟨_,_,_,_,o,_,_,e,ex,_⟩:=I.hok p _ hk
     exact⟨o,e,ex⟩
   obtain ⟨o,e,ex⟩:=z
   refine⟨⟨o,e,ex.1⟩,fun a e2=>?_⟩
   cases e2
   exact⟨o,e,ex.2.1⟩
  ·obtain ⟨o,_,_,_,e,ex,_⟩:=I.hok p _ hk
   refine⟨⟨o,e,ex.1⟩,fun a e2=>?_⟩
   cases e2
   exact⟨o,e,ex.2.1⟩
 | _=>exact False.elim ty
def uS (K:PySem.W.Frag) (T:String) (r:V->List V->Hp->VK->Prop) (to:TE) (t:TA):TE:=fun σ H Q=>to σ H fun x H1=>i9 K T x H1/\t σ H1 fun xs H2=>r x xs H2 Q
variable {o e : Expr} {es : List Expr} {to : TE} {t : TA} {name : Str} {apos cpos : Pos} {T id : String} {r : V → List V → Hp → VK → Prop}
theorem C5 (pa:PlainAttrs T) (slot:Slot T name id) (hty:typeOf (.builtin id)=pure (.type "method_descriptor")) (hm:MtR X id r) (ho:PE X o to) (ha:PA X (e :: es) t)
  (hbase:attributeBase o name X.env (eval o X.env)=eval o X.env:=by rfl)
  (hfew:((backTo cpos (starEach (e :: es) X.env)).all (fun x=>!x.1) && (backToKw cpos (keywordEach [] X.env)).all (fun x=>x.1.isSome)
   && decide ((e :: es).length+([]:List Keyword).length+(if ([]:List Keyword).isEmpty then 0 else 1) < 30))=true:=by rfl)
  (hline:(apos.endLine == cpos.line)=true:=by rfl) (hs:starEach (e :: es) X.env=(false,eval e X.env) :: starEach es X.env:=by rfl) (hplain:(backTo cpos (starEach es X.env)).any (·.1)=false:=by rfl) :
  PE X (.Call (.Attribute o name apos) (e :: es) [] cpos) (uS X.K T r to t):=by
 intro pins s σ H Q I h
 refine wpAny_Call_method_late hbase hfew hline rfl (aL (ho pins s σ H _ I h) fun v s1 ⟨x,H1,I1,r1,ty,q1⟩=>?_)
 obtain ⟨h1,h2⟩:=au3 I1 r1 ty
 refine⟨T,id,pa,slot,hty,h1,h2,?_⟩
 have hA:=ha cpos pins s1 σ H1 _ I1 q1
 rw [hs] at hA ⊢
 refine Calls.callWith_builtin (by show (false || (backTo cpos (starEach es X.env)).any (·.1))=false; rw [hplain] <;> rfl) (Calls.evalArgs_plain ?_)
 exact aL hA fun us s2 ⟨vs,H2,I2,r2,q2⟩=>hm pins s2 σ H2 x vs v us Q I2 r1 r2 q2
end
def uT (X:Cx) (id:String) (r:V->List V->Hp->VK->Prop):Prop:=
 ∀ (pins:List (Addr × Obj)) (s:Shared) (σ:St) (H:Hp) (x:V) (xs:List V) (v:Value) (us:List Value) (Q:VK),a7 X pins σ H s->aV x v->aS xs us->r x xs H Q->
  wpAny (model X.prog X.w) X.A (call (.builtin id) (v :: us)) (EP X pins σ Q) X.xe s
theorem aS.one {x:V}{us:List Value} (h:aS [x] us):∃ u,us = [u]/\aV x u:=by
 cases h with
 | cons r t=>
  cases t
  exact⟨_,rfl,r⟩
theorem aS.two {x y:V}{us:List Value} (h:aS [x,y] us):∃ u v,us = [u,v]/\aV x u/\aV y v:=by
 cases h with
 | cons r t=>
  cases t with
  | cons q t=>
   cases t
   exact⟨_,_,rfl,r,q⟩
theorem aS.eraseIdx:∀ {xs:List V}{us:List Value} (i:Nat),aS xs us->aS (xs.eraseIdx i) (us.eraseIdx i)
 | _,_,_,.nil=>.nil
 | _,_,0,.cons _ t=>t
 | _,_,i+1,.cons r t=>.cons r (aS.eraseIdx i t)
section
variable {X : Cx} {pins : List (Addr × Obj)} {σ : St} {H : Hp} {s : Shared} {l b : Addr} {xs ys zs : List V}
theorem a7.lset {its its':List Value}{n:Nat}{f:Array Value->Array Value}{t':Nat} (I:a7 X pins σ H s) (hH:H l=some (.lst xs))
  (e:s.heap.get? l=some { cls:=.type "list",data:=.seq its.toArray n }) (hf:f its.toArray=its'.toArray) (hv:aS ys its') (hz:ys.length<=sizeLine) :
  a7 X pins σ (upd H l (.lst ys)) { s with heap:=s.heap.update l (Obj.mapSeq f),toks:=t' }:=by
 have q:=PySem.IsL.update e f
 rw [hf] at q
 refine I.write (x:=l) (e:=l) (by rw [hH]; exact trivial) (.inl rfl) (fun b' u hb hu=>(by8 s.heap (Obj.mapSeq f) (Ne.symm hb)).trans hu) ⟨_,q⟩ ?_
 exact⟨hz,its',_,hv,q⟩
theorem a7.lnew {its:List Value}{t':Nat} (I:a7 X pins σ H s) (hv:aS ys its) (hz:ys.length<=sizeLine) :
  a7 X pins σ (upd H s.heap.objs.size (.lst ys)) { s with heap:=s.heap.push { cls:=.type "list",data:=.seq its.toArray },toks:=t' }:=
 I.laid (fun _ _ q=>bk0 _ q) (bl1 _) ⟨hz,its,0,hv,bl7 _ rfl⟩
theorem a7.fresh (I:a7 X pins σ H s):H s.heap.objs.size=none:=I.hok.fresh (bl1 _)
theorem a7.lstM (I:a7 X pins σ H s) (hH:H l=some (.lst xs)):xs.length<=sizeLine/\∃ (its:List Value) (n:Nat),aS xs its/\xs.length=its.length/\s.heap.get? l=some { cls:=.type "list",data:=.seq its.toArray n }:=by
 obtain ⟨z,its,n,r,e⟩:=I.hok l _ hH
 exact⟨z,its,n,r,r.length,e⟩
theorem au4 {n:Nat} (h:n<=sizeLine):Builtin.List.listTooLong n=false:=by
 unfold Builtin.List.listTooLong
 exact bk1 (by omega)
end
section
variable {X : Cx}
def C6:V->List V->Hp->VK->Prop:=fun x vs H Q=>∃ l xs y,x = .ref l/\vs = [y]/\H l=some (.lst xs)/\xs.length < sizeLine/\Q .non (upd H l (.lst (xs ++ [y])))
theorem C7:uT X "list.append" C6:=by
 intro pins s σ H x vs v us Q I rx rv h
 obtain ⟨l,xs,y,rfl,rfl,hH,hz,q⟩:=h
 cases rx
 obtain ⟨u,rfl,ru⟩:=rv.one
 obtain ⟨z,its,n,r,hl,e⟩:=I.lstM hH
 refine call_meets F.slot_list_append ⟨_,e,rfl⟩ F.entry_list_append (F.args_list_append_2 _ _) (PySem.list_append l its.toArray n u (by rw [bk3]; omega)) ⟨e,?_⟩
 refine⟨.non,_,I.lset (its':=its ++ [u]) hH e (by simp) (r.append (.cons ru .nil)) ?_,rfl,q⟩
 rw [bn2,bq3]
 omega
def au5:V->List V->Hp->VK->Prop:=fun x vs H Q=>∃ l b xs zs,x = .ref l/\vs = [.ref b]/\H l=some (.lst xs)/\H b=some (.lst zs)/\xs.length+zs.length<=sizeLine/\Q .non (upd H l (.lst (xs ++ zs)))
theorem bj6:uT X "list.extend" au5:=by
 intro pins s σ H x vs v us Q I rx rv h
 obtain ⟨l,b,xs,zs,rfl,rfl,hH,hB,hz,q⟩:=h
 cases rx
 obtain ⟨u,rfl,ru⟩:=rv.one
 cases ru
 obtain ⟨z,its,n,r,hl,e⟩:=I.lstM hH
 obtain ⟨z2,its2,n2,r2,hl2,e2⟩:=I.lstM hB
 have hsz:its.toArray.size+its2.toArray.size<=sizeLine:=by rw [bk3,bk3]; omega
 have hlong : ¬ (!its.toArray.isEmpty && Builtin.List.listTooLong (its.toArray.size+its2.toArray.size))=true:=by
  rw [au4 hsz,bn8]
  exact bm6
 refine call_meets F.slot_list_extend ⟨_,e,rfl⟩ F.entry_list_extend (F.args_list_extend_2 _ _)
  (AutoSeq1.list_extend_list_list_0 l its.toArray n b its2.toArray n2 hlong (by rw [bk3]; omega) (by omega)) ⟨e,e2,?_⟩
 refine⟨.non,_,I.lset (its':=its ++ its2) hH e (by simp) (r.append r2) ?_,rfl,q⟩
 rw [bn2]
 omega
def C8:R2:=fun x y H Q=>∃ l b xs zs,x = .ref l/\y = .ref b/\H l=some (.lst xs)/\H b=some (.lst zs)/\xs.length+zs.length<=sizeLine/\∀ p,H p=none->Q (.ref p) (upd H p (.lst (xs ++ zs)))
theorem au6:bN X (binaryOp .Add) C8:=by
 intro pins s σ H x y v u Q I rx ry h
 obtain ⟨l,b,xs,zs,rfl,rfl,hH,hB,hz,q⟩:=h
 cases rx
 cases ry
 obtain ⟨z,its,n,r,hl,e⟩:=I.lstM hH
 obtain ⟨z2,its2,n2,r2,hl2,e2⟩:=I.lstM hB
 refine PySem.P.add_list e e2 ?_ (by rw [bk3,bk3]; omega)
 have ea:its.toArray ++ its2.toArray=(its ++ its2).toArray:=by simp
 rw [ea]
 exact⟨.ref _,_,I.lnew (t':=s.toks) (r.append r2) (by rw [bn2]; omega),rfl,q _ I.fresh⟩
end
section
variable {κ : Type} [DecidableEq κ]
def fH (kvs:List (κ × V)) (k:κ):Option V:=(kvs.find? fun kv=>decide (kv.1=k)).map (·.2)
def fW (kvs:List (κ × V)) (k:κ) (v:V):List (κ × V):=
 if (kvs.any fun kv=>decide (kv.1=k))=true then kvs.map (fun kv=>if kv.1=k then (kv.1,v) else kv) else kvs ++ [(k,v)]
theorem uU {p:κ × V}{r:List (κ × V)}{k:κ} (e:p.1=k):fH (p :: r) k=some p.2:=by simp [fH,bw0,e]
theorem uV {p:κ × V}{r:List (κ × V)}{k:κ} (e : ¬ p.1=k):fH (p :: r) k=fH r k:=by simp [fH,bw0,e]
theorem C9 (k:κ):∀ kvs:List (κ × V),(kvs.any fun kv=>decide (kv.1=k))=(fH kvs k).isSome
 | []=>rfl
 | p :: r=>by
  rw [List.any_cons]
  by_cases e:p.1=k
  ·simp only [uU e,bk4 e,Bool.true_or,Option.isSome_some]
  ·rw [uV e,bk1 e,Bool.false_or]; exact C9 k r
theorem E1 (kvs:List (κ × V)) (k:κ) (v:V):(fW kvs k v).length<=kvs.length+1:=by
 unfold fW
 split
 ·rw [bk8]; omega
 ·rw [bn2,bp1,by5]; omega
theorem gE.isSome_eq {o:Option V}{u:Option Value} (r:gE o u):o.isSome=u.isSome:=by
 cases o with
 | none=>cases u with
  | none=>rfl
  | some _=>exact (show False from r).elim
 | some _=>cases u with
  | none=>exact (show False from r).elim
  | some _=>rfl
theorem gE.getD {o:Option V}{u:Option Value}{d:V}{d':Value} (r:gE o u) (rd:aV d d'):aV (o.getD d) (u.getD d'):=by
 cases o with
 | none=>cases u with
  | none=>exact rd
  | some _=>exact (show False from r).elim
 | some _=>cases u with
  | none=>exact (show False from r).elim
  | some _=>exact r
theorem KV.val {kvs:List (κ × V)}{vs:List (κ × Value)} (r:KV kvs vs) (k:κ):gE (fH kvs k) (valueAt vs k):=by
 unfold KV at r
 induction r with
 | nil=>exact bB7
 | @cons p q ps qs h t ih=>
  obtain ⟨h1,h2⟩:=h
  by_cases e:p.1=k
  ·have e':q.1=k:=h1.symm.trans e
   have b:valueAt (q :: qs) k=some q.2:=by simp [valueAt,bw0,e']
   rw [uU e,b]; exact h2
  ·have e' : ¬ q.1=k:=fun z=>e (h1.trans z)
   have b:valueAt (q :: qs) k=valueAt qs k:=by simp [valueAt,bw0,e']
   rw [uV e,b]; exact ih
theorem KV.any {kvs:List (κ × V)}{vs:List (κ × Value)} (r:KV kvs vs) (k:κ):(kvs.any fun kv=>decide (kv.1=k))=vs.any fun kv=>decide (kv.1=k):=by
 unfold KV at r
 induction r with
 | nil=>rfl
 | cons h t ih=>rw [List.any_cons,List.any_cons,ih,h.1]
theorem KV.repl {kvs:List (κ × V)}{vs:List (κ × Value)} (r:KV kvs vs) (k:κ) {y:V}{u:Value} (ry:aV y u) :
  KV (kvs.map fun kv=>if kv.1=k then (kv.1,y) else kv) (vs.map fun kv=>if kv.1=k then (kv.1,u) else kv):=by
 unfold KV at r ⊢
 induction r with
 | nil=>exact .nil
 | @cons p q ps qs h t ih=>
  rw [bp9,bp9]
  refine .cons ?_ ih
  obtain ⟨h1,h2⟩:=h
  by_cases e:p.1=k
  ·rw [if_pos e,if_pos (h1.symm.trans e)]; exact⟨h1,ry⟩
  ·rw [if_neg e,if_neg (fun z=>e (h1.trans z))]; exact⟨h1,h2⟩
theorem KV.put {kvs:List (κ × V)}{vs:List (κ × Value)} (r:KV kvs vs) (k:κ) {y:V}{u:Value} (ry:aV y u):KV (fW kvs k y) (stored vs k u):=by
 unfold fW stored
 rw [r.any k]
 by_cases e:(vs.any fun kv=>decide (kv.1=k))=true
 ·rw [if_pos e,if_pos e]; exact r.repl k ry
 ·rw [if_neg e,if_neg e]; exact Paired.snoc r ⟨rfl,ry⟩
theorem KV.length {kvs:List (κ × V)}{vs:List (κ × Value)} (r:KV kvs vs):kvs.length=vs.length:=Paired.length r
end
theorem oD {P:Program}{w:World}{k:aM}{u:Value} (r:aV (kV k) u):(eQ P w).is k u=true:=by
 cases k with
 | inl i=>obtain ⟨t,e⟩:=(show ∃ t,u=Value.int i t from r); subst e; exact al5 P w i t
 | inr x=>obtain ⟨t,e⟩:=(show ∃ t,u=Value.str x t from r); subst e; exact al6 P w x t
theorem E2 {P:Program}{w:World}:∀ {ks:List aM}{us:List Value},aS (ks.map kV) us->ItemsAre (eQ P w) ks us
 | [],_,r=>by rw [List.map_nil] at r; cases r; exact .nil
 | k :: ks,_,r=>by
  rw [bp9] at r
  cases r with
  | cons h t=>exact .cons (oD h) (E2 t)
abbrev KT (H:Hp):List (List aM × V)->List (List aM × Addr × Value)->Prop:=Paired fun p q=>p.1=q.1/\H q.2.1=some (.tup (p.1.map kV))/\aV p.2 q.2.2
theorem KT.val {H:Hp}{kvs:List (List aM × V)}{xs:List (List aM × Addr × Value)} (r:KT H kvs xs) (k:List aM):gE (fH kvs k) ((atKey xs k).map (·.2)):=by
 induction r with
 | nil=>exact bB7
 | @cons p q ps qs h t ih=>
  obtain ⟨h1,_,h2⟩:=h
  by_cases e:p.1=k
  ·have e':q.1=k:=h1.symm.trans e
   have b:atKey (q :: qs) k=some q.2:=by simp [atKey,bw0,e']
   rw [uU e,b]; exact h2
  ·have e' : ¬ q.1=k:=fun z=>e (h1.trans z)
   have b:atKey (q :: qs) k=atKey qs k:=by simp [atKey,bw0,e']
   rw [uV e,b]; exact ih
theorem KT.repl {H:Hp}{kvs:List (List aM × V)}{xs:List (List aM × Addr × Value)} (r:KT H kvs xs) (k:List aM) {y:V}{u:Value} (ry:aV y u) :
  KT H (kvs.map fun kv=>if kv.1=k then (kv.1,y) else kv) (xs.map (putAt k u)):=by
 induction r with
 | nil=>exact .nil
 | @cons p q ps qs h t ih=>
  rw [bp9,bp9]
  refine .cons ?_ ih
  obtain ⟨h1,h2,h3⟩:=h
  unfold putAt
  by_cases e:p.1=k
  ·rw [if_pos e,if_pos (h1.symm.trans e)]; exact⟨h1,h2,ry⟩
  ·rw [if_neg e,if_neg (fun z=>e (h1.trans z))]; exact⟨h1,h2,h3⟩
theorem KT.put {H:Hp}{kvs:List (List aM × V)}{xs:List (List aM × Addr × Value)} (r:KT H kvs xs) (k:List aM) {b:Addr}{y:V}{u:Value} (hb:H b=some (.tup (k.map kV))) (ry:aV y u) :
  KT H (fW kvs k y) (storedH xs k b u):=by
 have e:(kvs.any fun kv=>decide (kv.1=k))=(atKey xs k).isSome:=by
  rw [C9,(r.val k).isSome_eq,Option.isSome_map]
 unfold fW storedH
 rw [e]
 by_cases q:(atKey xs k).isSome=true
 ·rw [if_pos q,if_pos q]; exact r.repl k ry
 ·rw [if_neg q,if_neg q]; exact Paired.snoc r ⟨rfl,hb,ry⟩
theorem KT.keeps {H H':Hp}{kvs:List (List aM × V)}{xs:List (List aM × Addr × Value)} (r:KT H kvs xs) (ht:∀ b ys,H b=some (.tup ys)->H' b=some (.tup ys)):KT H' kvs xs:=
 Paired.mapP r fun _ _ z=>⟨z.1,ht _ _ z.2.1,z.2.2⟩
section
variable {P : Program} {w : World} {H : Hp} {h : Heap} {a : Addr}
theorem E3 {u:HO} (ok:bZ P w H h) (e:Rd H a u):c9 P w H h a u:=e.ok ok
theorem l8 {kvs:List (aM × V)} (ok:bZ P w H h) (e:Rd H a (.dK kvs)):kvs.length<=sizeLine/\(a == sysModules)=false/\∃ vs,KV kvs vs/\h.DictOf (eQ P w) a vs:=
 show c9 P w H h a (.dK kvs) from E3 ok e
theorem au7 {kvs:List (aM × V)} (ok:bZ P w H h) (e:H a=some (.dK kvs)):kvs.length<=sizeLine/\(a == sysModules)=false/\∃ vs,KV kvs vs/\h.DictOf (eQ P w) a vs:=l8 ok (.inl e)
theorem mP {ks:List aM} (ok:bZ P w H h) (e:H a=some (.tup (ks.map kV))):(tupleKind (eQ P w)).is h ks a:=by
 obtain ⟨_,its,r,⟨o,h1,h2,n,h3⟩,_⟩:=(show c9 P w H h a (.tup (ks.map kV)) from ok a _ e)
 exact⟨o,its.toArray,n,h1,h2,h3,by simpa using E2 r⟩
theorem mQ {kvs:List (List aM × V)} (ok:bZ P w H h) (e:Rd H a (.dT kvs)):kvs.length<=sizeLine/\(a == sysModules)=false/\
  ∃ xs,KT H kvs xs/\h.DictOfH (tupleKind (eQ P w)) a xs:=by
 obtain ⟨z,y,xs,r,o,es,ep,h1,h2,h3,h4,h5⟩:=(show c9 P w H h a (.dT kvs) from E3 ok e)
 refine⟨z,y,xs,r,o,es,ep,h1,h2,h3,h4,fun x hx=>?_,h5⟩
 have all:∀ {l:List (List aM × V)}{m:List (List aM × Addr × Value)},KT H l m->∀ x ∈ m,(tupleKind (eQ P w)).is h x.1 x.2.1:=by
  intro l m q
  induction q with
  | nil=>intro x hx; exact nomatch hx
  | @cons p q ps qs hq t ih=>
   intro x hx
   rcases bk6.mp hx with e | hx
   ·subst e
    exact mP ok (by rw [<- hq.1]; exact hq.2.1)
   ·exact ih x hx
 exact all r x hx
theorem E4 {kvs:List (List aM × V)} (ok:bZ P w H h) (e:H a=some (.dT kvs)):kvs.length<=sizeLine/\(a == sysModules)=false/\
  ∃ xs,KT H kvs xs/\h.DictOfH (tupleKind (eQ P w)) a xs:=mQ ok (.inl e)
end
def fX (H:Hp) (a:Addr) (y:V) (r:Option V):Prop:=
 (∃ kvs k,Rd H a (.dK kvs)/\y=kV k/\r=fH kvs k) ∨ ∃ kvs k b,Rd H a (.dT kvs)/\y = .ref b/\H b=some (.tup (k.map kV))/\r=fH kvs k
def oE (H:Hp) (a:Addr) (y v:V) (H':Hp):Prop:=
 (∃ kvs k,H a=some (.dK kvs)/\y=kV k/\kvs.length < sizeLine/\H'=upd H a (.dK (fW kvs k v))) ∨
 ∃ kvs k b,H a=some (.dT kvs)/\y = .ref b/\H b=some (.tup (k.map kV))/\kvs.length < sizeLine/\H'=upd H a (.dT (fW kvs k v))
theorem fX.k {H:Hp}{a:Addr}{kvs:List (aM × V)}{k:aM} (e:H a=some (.dK kvs)):fX H a (kV k) (fH kvs k):=.inl ⟨kvs,k,.inl e,rfl,rfl⟩
theorem fX.t {H:Hp}{a b:Addr}{kvs:List (List aM × V)}{k:List aM} (e:H a=some (.dT kvs)) (eb:H b=some (.tup (k.map kV))):fX H a (.ref b) (fH kvs k):=.inr ⟨kvs,k,b,.inl e,rfl,eb,rfl⟩
theorem oE.t {H:Hp}{a b:Addr}{kvs:List (List aM × V)}{k:List aM}{v:V} (e:H a=some (.dT kvs)) (eb:H b=some (.tup (k.map kV))) (hl:kvs.length < sizeLine) :
  oE H a (.ref b) v (upd H a (.dT (fW kvs k v))):=.inr ⟨kvs,k,b,e,rfl,eb,hl,rfl⟩
section
variable {X : Cx} {pins : List (Addr × Obj)} {σ : St} {H : Hp} {s : Shared} {a : Addr} {y v : V} {u r : Value} {o : Option V} {A : Around} {E : Value → Shared → Prop}
theorem a7.big (I:a7 X pins σ H s):sysModules < s.heap.objs.size:=by
 have h:mainGlobals < s.heap.objs.size:=(I.mod.glob.keeps I.bk).lt
 exact Nat.lt_trans (by decide) h
theorem au8 {Q:Value->Shared->Prop} (hu:A.units+1 < cLine) (I:a7 X pins σ H s) (g:fX H a y (some v)) (ry:aV y u) (h:∀ w' s',a7 X pins σ H s'->aV v w'->Q w' s') :
  wpAny (model X.prog X.w) A (getItem (.ref a) u) Q E s:=by
 rcases g with ⟨kvs,k,e,ey,l⟩ | ⟨kvs,k,b,e,ey,eb,l⟩
 ·subst ey
  obtain ⟨z,hd,vs,rel,dd⟩:=l8 I.hok e
  obtain ⟨w',hw,rw'⟩:=gE.some_of (v:=v) (o:=valueAt vs k) (by rw [l]; exact rel.val k)
  exact wpAny_getItem_of (oD ry) dd.mapOf hw (h w' _ (I.tok _) rw')
 ·subst ey
  cases (show u=Value.ref b from ry)
  obtain ⟨z,hd,xs,rel,dd⟩:=mQ I.hok e
  obtain ⟨w',hw,rw'⟩:=gE.some_of (v:=v) (o:=(atKey xs k).map (·.2)) (by rw [l]; exact rel.val k)
  obtain ⟨p,hp,hp2⟩:=Option.map_eq_some_iff.mp hw
  refine wpAny_getItem_heap (tupleKind_room_in1 hu) (mP I.hok eb) dd hp ?_
  rw [hp2]
  exact h w' _ (I.tok _) rw'
theorem au9 {Q:Value->Shared->Prop} (hu:A.units+1 < cLine) (I:a7 X pins σ H s) (g:fX H a y o) (ry:aV y u) (h:∀ s',a7 X pins σ H s'->Q (.bool (!o.isSome)) s') :
  wpAny (model X.prog X.w) A (compareOp .NotIn u (.ref a)) Q E s:=by
 rcases g with ⟨kvs,k,e,ey,l⟩ | ⟨kvs,k,b,e,ey,eb,l⟩
 ·subst ey
  obtain ⟨z,hd,vs,rel,dd⟩:=l8 I.hok e
  refine wpAny_notIn_of (oD ry) hd dd.mapOf ?_
  rw [<- (rel.val k).isSome_eq,<- l]
  exact h _ (I.tok _)
 ·subst ey
  cases (show u=Value.ref b from ry)
  obtain ⟨z,hd,xs,rel,dd⟩:=mQ I.hok e
  refine wpAny_notIn_heap (tupleKind_room_in1 hu) (mP I.hok eb) hd dd ?_
  have q:=(rel.val k).isSome_eq
  rw [Option.isSome_map] at q
  rw [<- q,<- l]
  exact h _ (I.tok _)
theorem uW {h':Heap}{t':Nat}{ob:HO} (I:a7 X pins σ H s) (mu:o0 (H a)) (hs:Heap.SameBut a s.heap h') (he:∃ q,h'.get? a=some q) (new:c9 X.prog X.w (upd H a ob) h' a ob) :
  a7 X pins σ (upd H a ob) { s with heap:=h',toks:=t' }:=
 I.write (x:=a) (e:=a) mu (.inl rfl) (fun b q hb z=>(hs.2 b hb).trans z) he new
theorem av0 {P:Program}{w:World}{H':Hp}{h':Heap}{kvs:List (aM × V)}{vs:List (aM × Value)} (z:kvs.length<=sizeLine) (hd:(a == sysModules)=false) (rel:KV kvs vs) (dd:h'.DictOf (eQ P w) a vs) :
  c9 P w H' h' a (.dK kvs):=⟨z,hd,vs,rel,dd⟩
theorem av1 {H':Hp}{Q:Unit->Shared->Prop} (hu:A.units+1 < cLine) (I:a7 X pins σ H s) (g:oE H a y v H') (ry:aV y u) (rv:aV v r) (h:∀ s',a7 X pins σ H' s'->Q () s') :
  wpAny (model X.prog X.w) A (setItem (.ref a) u r) Q E s:=by
 rcases g with ⟨kvs,k,e,ey,l,eH⟩ | ⟨kvs,k,b,e,ey,eb,l,eH⟩
 ·subst ey eH
  obtain ⟨z,hd,vs,rel,dd⟩:=au7 I.hok e
  have hz:vs.length<=sizeLine:=by rw [<- rel.length]; exact z
  have hl:(fW kvs k v).length<=sizeLine:=by have:=E1 kvs k v; omega
  refine wpAny_setItem_pairs (hsz:=hz) (oD ry) dd fun h' dd' hs=>h _ ?_
  have he:∃ q,h'.get? a=some q:=let ⟨q,_,_,hq,_⟩:=dd'; ⟨q,hq⟩
  exact uW I (by rw [e]; exact bB7) hs he (av0 hl hd (rel.put k rv) dd')
 ·subst ey eH
  cases (show u=Value.ref b from ry)
  obtain ⟨z,hd,xs,rel,dd⟩:=E4 I.hok e
  have hz:xs.length<=sizeLine:=by rw [<- Paired.length rel]; exact z
  have hl:(fW kvs k v).length<=sizeLine:=by have:=E1 kvs k v; omega
  refine wpAny_setItem_heap (hsz:=hz) (tupleKind_room_in1 hu) (mP I.hok eb) dd fun h' dd' hs=>h _ ?_
  obtain ⟨q,es,ep,hq,h2,h3,h4,_,h5⟩:=dd'
  refine uW I (by rw [e]; exact bB7) hs ⟨q,hq⟩ ⟨hl,hd,_,(rel.put k eb rv).keeps fun c ys ec=>?_,q,es,ep,hq,h2,h3,h4,h5⟩
  rw [aZ (yZ ec e (fun z=>nomatch z))]
  exact ec
end
section
variable {X : Cx} {pins : List (Addr × Obj)} {σ : St} {H : Hp} {s : Shared} {a : Addr} {kvs : List (aM × V)} {k : aM} {u : Value} {A : Around} {E : Value → Shared → Prop}
theorem av2 {Q:Value->Shared->Prop} (I:a7 X pins σ H s) (e:Rd H a (.dK kvs)) (h:∀ t s',a7 X pins σ H s'->Q (.int kvs.length t) s'):wpAny (model X.prog X.w) A (call (.builtin "len") [.ref a]) Q E s:=by
 obtain ⟨z,hd,vs,rel,dd⟩:=l8 I.hok e
 refine call_len_dict hd dd (by rw [<- rel.length]; rw [sizeLine_eq] at z; omega) ?_
 rw [<- rel.length]
 exact h _ _ (I.tok _)
end
def uX (i:Expr):Prop:=∀ ov iv,subscripted i false ov iv=operate [ov,iv] (getItem ov iv)
theorem av3 {prog:Program}{w:World}{A:Around}{E:Value->Shared->Prop}{s:Shared}{env:Env}{value slice:Expr}{pos:Pos}{T id:String}{Q:Value->Shared->Prop}
  (hl:typeLookup (.type T) "__getitem__" = pure (some (.builtin id))) (hs:uX slice)
  (h:wpAny (model prog w) A (eval value env) (fun o s₁=>wpAny (model prog w) A (eval slice env) (fun i s₂=>s₂.TypeIs o T/\wpAny (model prog w) A (getItem o i) Q E s₂) E s₁) E s) :
  wpAny (model prog w) A (eval (.Subscript value slice pos) env) Q E s:=by
 refine Subscript_ (br6 h (fun o s₁ h₁=>br6 h₁ (fun i s₂ h₂=>?_) fun _ _ x=>x) fun _ _ x=>x)
 obtain ⟨hT,h₂⟩:=h₂
 unfold subscriptTail
 refine bj8 ?_
 rw [getitemInPython_of_ne hT.not_modules]
 refine bj8 (wpAny_specialOf hT hl ?_)
 have fin:wpAny (model prog w) A (subscripted slice false o i) (fun r s₃=>wpAny (model prog w) A (letTemporaryGo value o r >>= fun _=>pure r) Q E s₃) E s₂:=by
  rw [hs o i]
  exact wpAny_operating (br6 h₂ (fun r s₃ h₃=>bj8 (wpAny_letTemporaryGo (bk2 h₃))) fun _ _ x=>x)
 first
  | exact bk2 (bj8 fin)
  | exact bj8 (bk2 (bj8 fin))
  | exact bj8 fin
theorem av4 {X:Cx}{pins:List (Addr × Obj)}{σ:St}{H:Hp}{s:Shared}{a:Addr}{y:V}{o:Option V} (I:a7 X pins σ H s) (g:fX H a y o):s.TypeIs (.ref a) "dict":=by
 rcases g with ⟨kvs,k,e,_,_⟩ | ⟨kvs,k,b,e,_,_,_⟩
 ·obtain ⟨_,_,vs,_,dd⟩:=l8 I.hok e
  exact dd.typeIs
 ·obtain ⟨_,_,xs,_,dd⟩:=mQ I.hok e
  exact dd.typeIs
def E5 (td ty:TE):TE:=fun σ H Q=>td σ H fun x H1=>ty σ H1 fun y H2=>∃ a v,x = .ref a/\fX H2 a y (some v)/\Q v H2
def E6 (ty td:TE):TE:=fun σ H Q=>ty σ H fun y H1=>td σ H1 fun x H2=>∃ a o,x = .ref a/\fX H2 a y o/\Q (.bl (!o.isSome)) H2
def E7 (td ty tv:TE):TS:=fun D σ H=>tv σ H fun v H1=>td σ H1 fun x H2=>ty σ H2 fun y H3=>∃ a H4,x = .ref a/\oE H3 a y v H4/\D.nx σ H4
section
variable {X : Cx} {o i e value : Expr} {pos pos' tpos : Pos} {td ty tv : TE}
theorem av5 (hu:X.A.units+1 < cLine) (ho:PE X o td) (hi:PE X i ty) (hs:uX i):PE X (.Subscript o i pos) (E5 td ty):=by
 intro pins s σ H Q I h
 refine av3 PySem.F.slot_dict_getitem.lookup hs (aL (ho pins s σ H _ I h) fun u s1 ⟨x,H1,I1,rx,q1⟩=>aL (hi pins s1 σ H1 _ I1 q1) fun iv s2 ⟨y,H2,I2,ry,a,v,ex,g,q2⟩=>?_)
 subst ex
 obtain rfl:u=Value.ref a:=rx
 exact⟨av4 I2 g,au8 hu I2 g ry fun w' s3 I3 rw'=>⟨v,H2,I3,rw',q2⟩⟩
theorem av6 (hu:X.A.units+1 < cLine) (hi:PE X i ty) (ho:PE X o td):PC X .NotIn i o (E6 ty td):=by
 intro pins s σ H Q I h
 refine aL (hi pins s σ H _ I h) fun iv s1 ⟨y,H1,I1,ry,q1⟩=>aL (ho pins s1 σ H1 _ I1 q1) fun u s2 ⟨x,H2,I2,rx,a,ov,ex,g,q2⟩=>?_
 subst ex
 obtain rfl:u=Value.ref a:=rx
 exact au9 hu I2 g ry fun s3 I3=>⟨.bl (!ov.isSome),H2,I3,rfl,q2⟩
theorem av7 (hu:X.A.units+1 < cLine) (ho:PE X o td) (hi:PE X i ty) (hv:PE X value tv) (hs:swapsWith value (some (.Subscript o i pos')) pos.line X.env=pure false) :
  PS X (.Assign [.Subscript o i pos'] value pos) (E7 td ty tv):=by
 intro pins s σ H D I h
 refine wpAny_Assign_Subscript (aL (hv pins s σ H _ I h) fun r s1 ⟨v,H1,I1,rv,q1⟩=>aL (ho pins s1 σ H1 _ I1 q1) fun u s2 ⟨x,H2,I2,rx,q2⟩=>aL (hi pins s2 σ H2 _ I2 q2) fun iv s3 ⟨y,H3,I3,ry,a,H4,ex,g,q3⟩=>?_) hs
 subst ex
 obtain rfl:u=Value.ref a:=rx
 exact av1 hu I3 g ry rv fun s4 I4=>⟨σ,H4,I4,q3⟩
end
theorem av8 {P:Program}{w:World}{H:Hp} (h:Heap) (hb:sysModules < h.objs.size):c9 P w H (h.push { cls:=.type "dict",data:=.dict #[] }) h.objs.size (.dT []):=
 ⟨bu5 _,beq_eq_false_iff_ne.mpr (Ne.symm (bn9 hb)),[],.nil,_,#[],0,bl7 _ rfl,⟨rfl,rfl,rfl⟩,rfl,rfl,List.nodup_nil⟩
def E8:TE:=fun _ H Q=>∀ p,H p=none->Q (.ref p) (upd H p (.dT []))
section
variable {X : Cx} {pos : Pos}
theorem av9:PE X (.Dict [] [] pos) E8:=fun pins s σ H Q I h=>
 wpAny_Dict_empty ⟨.ref s.heap.objs.size,_,I.laid (a:=s.heap.objs.size) (o:=.dT []) (t':=s.toks) (fun _ _ q=>bk0 _ q) (bl1 _) (av8 s.heap I.big),rfl,h _ (I.hok.fresh (bl1 _))⟩
end
structure M1 (X:Cx) (o:Expr) (m:Str) (apos:Pos) (e:Expr) (cpos:Pos):Prop where
 base:attributeBase o m X.env (eval o X.env)=eval o X.env
 few:((backTo cpos (starEach [e] X.env)).all (fun x=>!x.1) && (backToKw cpos (keywordEach [] X.env)).all (fun x=>x.1.isSome)
  && decide (([e]:List Expr).length+([]:List Keyword).length+(if ([]:List Keyword).isEmpty then 0 else 1) < 30))=true
 line:(apos.endLine == cpos.line)=true
 trees:backTo cpos (starEach [e] X.env) = [(false,eval e X.env)]
structure M2 (X:Cx) (o:Expr) (m:Str) (apos:Pos) (e f:Expr) (cpos:Pos):Prop where
 base:attributeBase o m X.env (eval o X.env)=eval o X.env
 few:((backTo cpos (starEach [e,f] X.env)).all (fun x=>!x.1) && (backToKw cpos (keywordEach [] X.env)).all (fun x=>x.1.isSome)
  && decide (([e,f]:List Expr).length+([]:List Keyword).length+(if ([]:List Keyword).isEmpty then 0 else 1) < 30))=true
 line:(apos.endLine == cpos.line)=true
 trees:backTo cpos (starEach [e,f] X.env) = [(false,eval e X.env),(false,eval f X.env)]
def uY (H:Hp) (a:Addr):Prop:=(∃ kvs,Rd H a (.dK kvs)) ∨ ∃ kvs,Rd H a (.dT kvs)
theorem E9 {X:Cx}{pins:List (Addr × Obj)}{σ:St}{H:Hp}{s:Shared}{a:Addr} (I:a7 X pins σ H s) (d:uY H a) :
  s.TypeIs (.ref a) "dict"/\(∀ b,Value.ref a = .ref b->∃ ob,s.heap.get? b=some ob/\ob.dict=none)/\(a == sysModules)=false:=by
 rcases d with ⟨kvs,e⟩ | ⟨kvs,e⟩
 ·obtain ⟨_,hd,vs,_,dd⟩:=l8 I.hok e
  refine⟨dd.typeIs,fun b q=>?_,hd⟩
  cases q
  obtain ⟨ob,_,_,h1,h2,_⟩:=dd
  exact⟨ob,h1,h2.2.1⟩
 ·obtain ⟨_,hd,xs,_,dd⟩:=mQ I.hok e
  refine⟨dd.typeIs,fun b q=>?_,hd⟩
  cases q
  obtain ⟨ob,_,_,h1,h2,_⟩:=dd
  exact⟨ob,h1,h2.2.1⟩
section
variable {X : Cx} {pins : List (Addr × Obj)} {σ : St} {H : Hp} {s : Shared} {a : Addr} {y d : V} {u r : Value} {o : Option V} {A : Around} {E : Value → Shared → Prop}
theorem aw0 {Q:Value->Shared->Prop} (hu:A.units+1 < cLine) (I:a7 X pins σ H s) (g:fX H a y o) (ry:aV y u) (rd:aV d r) (h:∀ w' s',a7 X pins σ H s'->aV (o.getD d) w'->Q w' s') :
  wpAny (model X.prog X.w) A (call (.builtin "dict.get") [.ref a,u,r]) Q E s:=by
 rcases g with ⟨kvs,k,e,ey,l⟩ | ⟨kvs,k,b,e,ey,eb,l⟩
 ·subst ey
  obtain ⟨z,hd,vs,rel,dd⟩:=l8 I.hok e
  refine call_meetsIn PySem.F.slot_dict_get dd.typeIs PySem.F.entry_dict_get (PySem.F.args_dict_get_3 _ _ _) (meets_dict_get_default (eQ X.prog X.w) a (oD ry) hd r) ⟨_,dd.mapOf,h _ _ (I.tok _) ?_⟩
  rw [l]
  exact (rel.val k).getD rd
 ·subst ey
  cases (show u=Value.ref b from ry)
  obtain ⟨z,hd,xs,rel,dd⟩:=mQ I.hok e
  refine call_meetsIn PySem.F.slot_dict_get dd.typeIs PySem.F.entry_dict_get (PySem.F.args_dict_get_3 _ _ _) (meetsH_dict_get_default (tupleKind (eQ X.prog X.w)) a b hd r) ⟨tupleKind_room_in1 hu,k,xs,mP I.hok eb,dd,h _ _ (I.tok _) ?_⟩
  rw [l]
  exact (rel.val k).getD rd
end
def F0 (td ty tx:TE):TE:=fun σ H Q=>td σ H fun x H1=>∃ a,x = .ref a/\uY H1 a/\ty σ H1 fun y H2=>tx σ H2 fun z H3=>∃ o,fX H3 a y o/\Q (o.getD z) H3
section
variable {X : Cx} {o e f : Expr} {apos cpos : Pos} {td ty tx : TE}
theorem aw1 (hu:X.A.units+1 < cLine) (ho:PE X o td) (he:PE X e ty) (hf:PE X f tx) (m:M2 X o "get" apos e f cpos):PE X (.Call (.Attribute o "get" apos) [e,f] [] cpos) (F0 td ty tx):=by
 intro pins s σ H Q I h
 refine wpAny_Call_method m.base m.few m.line PySem.F.plainAttrs_dict PySem.F.slot_dict_get PySem.F.type_dict_get (aL (ho pins s σ H _ I h) fun u s1 ⟨x,H1,I1,rx,a,ex,d,q1⟩=>?_)
 subst ex
 obtain rfl:u=Value.ref a:=rx
 obtain ⟨t1,t2,_⟩:=E9 I1 d
 refine⟨t1,t2,?_⟩
 rw [m.trees]
 refine Calls.callWith_builtin rfl (Calls.evalArgs_plain (Calls.spliced_cons (aL (he pins s1 σ H1 _ I1 q1) fun iv s2 ⟨y,H2,I2,ry,q2⟩=>
  Calls.spliced_cons (aL (hf pins s2 σ H2 _ I2 q2) fun fv s3 ⟨z,H3,I3,rz,ov,g,q3⟩=>Calls.spliced_nil ?_))))
 exact aw0 hu I3 g ry rz fun w' s4 I4 rw'=>⟨_,H3,I4,rw',q3⟩
end
end L2
namespace Att
open PySem PySem.W PySem.Calls PyProof.Rows
theorem aw2 {P:Params}{h:Heap}:∀ (ns:List Int) (vs:List Value),WellAll P h vs (ns.map WData.int)->IntsAre vs ns:=by
 intro ns
 induction ns with
 | nil=>
  intro vs w
  rw [List.map_nil] at w
  cases w
  exact .nil
 | cons n ns ih=>
  intro vs w
  rw [bp9] at w
  cases w with
  | cons a b=>
   cases a
   exact .cons _ _ (ih _ b)
theorem F1 {l:OpenLaw}{n:Nat} (hn:l.most=some n) {P:Params}{h:Heap}{args:List WData}{vals:List Value}
  (hpre:l.row.toRowW.claim.pre args=true) (hwl:WellAll P h vals args) :
  ∃ a vs ns,vals = [Value.ref a]/\args = [WData.list (ns.map WData.int)]/\h.get? a=some { cls:=.type "list",data:=.seq vs.toArray }/\IntsAre vs ns/\ns.length<=n:=by
 have hsh:WShape.hasAll [] args [.list .int]=true:=(pre_splitW hpre).1
 have hc:l.pre.holds [] { args:=args }=true:=(pre_splitW hpre).2
 obtain ⟨d,r,rfl,h1,h2⟩:=hasAllW_cons hsh
 obtain rfl:=hasAllW_nil h2
 obtain ⟨xs,rfl,h3⟩:=hasW_list h1
 obtain ⟨ns,rfl⟩:=items_int h3
 have hlen:ns.length<=n:=by
  unfold OpenLaw.pre at hc
  have h4:(WTm.not (.lt (.lit (.int (n:Int))) (.len (.arg 0)))).holds [] { args:=[.list (ns.map .int)] }=true:=by
   have h4:=(holds_andW hc).1
   rw [hn] at h4
   exact h4
  have h5:=condW_of h4 (w_not (w_lt w_lit (w_len_list (w_arg rfl))))
  rw [bk8] at h5
  refine Nat.le_of_not_lt fun q=>?_
  have q':(n:Int) < ((ns.length:Nat):Int):=by omega
  first
   | (rw [bk4 q'] at h5; exact absurd h5 (by decide))
   | (simp at h5; omega)
 cases hwl with
 | cons w1 w2=>
  cases w2
  cases w1 with
  | list ho hall=>exact⟨_,_,ns,rfl,rfl,ho,aw2 ns _ hall,hlen⟩
theorem F2 (l:OpenLaw) (args:List WData):l.row.toRowW.claim.post args (.bool true) args=true:=
 postW_of (r:=l.row.toRowW) (X:=(true == true))
  (show WShape.has [] (.bool true) .bool=true by first | rfl | decide | simp [WShape.has,WShape.arms,WShape.armsAll])
  (show (WTm.eq .res (.lit (.bool true))).value [] { args:=args,res:=some (.bool true),after:=args }=some (.bool (true == true)) from w_eq_bool (w_res rfl) w_lit) rfl
theorem bj7 {l:OpenLaw}{n:Nat}{q:Program}{loose:List Str}{XP:(Str->Option Value)->Heap->Prop}{YP:World->Heap->Prop}{d:DefRec}{x:Str}
  (hn:l.most=some n) (hdf:d.params.defaults = [])
  (hbind:∀ pm cd doc v:Value,bindArgs (docDef d.name d.params d.body d.scope pm cd doc) ⟨[v],[]⟩=pure [(x,v)])
  (hx:d.scope.names.lookup x=some .local ∨ d.scope.names.lookup x=some .cell)
  (hk:d.scope.kind = .function) (hco:d.scope.isCoroutine=false) (hgen:d.scope.isGenerator=false)
  (body:∀ (w:World) (s₀ s₁ s:Shared) (mg mb:Str->Option Value) (fa:Addr) (o:Obj) (pm cd doc:Value) (a:Addr) (vs:List Value) (ns:List Int),
   Ground q loose [] XP w s₀ mg mb s₁.heap->YP w s₁.heap->
   s₁.heap.get? fa=some o->o.data = .func (docDef d.name d.params d.body d.scope pm cd doc)->s₁.heap.CodeRec cd d.name->mg d.name=some (.ref fa)->
   s₁.heap.get? a=some { cls:=.type "list",data:=.seq vs.toArray }->IntsAre vs ns->ns.length<=n->
   s.gens = #[]->s.os=s₁.os->
   Fr s₁.heap s₁.heap.objs.size s.heap (bindL (envOfC d.name d.scope s₁.heap.objs.size fa cd).kindOf [(x,.ref a)] fun _=>none)->
   Cl s₁.heap.objs.size (cellsFrom (s₁.heap.objs.size+1) d.scope.names []) s.heap (bindC (envOfC d.name d.scope s₁.heap.objs.size fa cd).kindOf [(x,.ref a)] fun _=>none)->
   wpAny (model l.prog w) (callerA.deeper (envOfC d.name d.scope s₁.heap.objs.size fa cd)) (execs d.body (envOfC d.name d.scope s₁.heap.objs.size fa cd))
    (fun f s'=>f = .ret (.bool true)/\OldK s₁.heap s'.heap/\s'.os=s₁.os/\AllBare s'.gens) (fun _ _=>False) s) :
  WalkO q loose XP YP l.row.toRowW d [] (fun f vs=>PySem.call f vs):=by
 intro w s₀ s₁ mg mb G Y fa o pm cd doc dV kV ho hd hcd hD hmg hg args vals as hpre hlay hrd hwl hlo
 obtain rfl:dV = .none:=Dflts.none hD hdf
 obtain rfl:kV = .none:=Dflts.noKw hD
 obtain ⟨a,vs,ns,rfl,rfl,hobj,hints,hlen⟩:=F1 hn hpre hwl
 refine enter_call ?_
 refine call_cells_ret (o:=o) (by rw [depth_caller]; decide) ho (fd_plain hd) G.T.nolimit hcd (hbind pm cd doc (.ref a)) (fun y hy=>?_) (fun h₁ tk F X=>?_) hco hgen hk
 ·obtain rfl:y=(x,Value.ref a):=bk9.mp hy
  rcases hx with e | e
  ·exact .inl e
  ·exact .inr ⟨e,cellsFrom_some _ _ _ (.inl e)⟩
 ·refine br6 (body w s₀ s₁ { s₁ with heap:=h₁,toks:=tk } mg mb fa o pm cd doc a vs ns G Y ho (fd_plain hd) hcd hmg hobj hints hlen hg rfl F X) (fun f s' hq=>?_) (fun _ _ hq=>hq)
  obtain ⟨rfl,h2,h3,h4⟩:=hq
  exact⟨.inl ⟨.bool true,.bool true,[],rfl,fun _=>rfl,.bool true,F2 l _,fun _=>⟨by1,fun _ hm=>(nomatch hm)⟩⟩,h2,h3,h4⟩
theorem aw3 {l:OpenLaw}{n:Nat}{q:Program}{loose:List Str}{XP:(Str->Option Value)->Heap->Prop}{YP:World->Heap->Prop}{d:DefRec}
  (hn:l.most=some n) (hdf:d.params.defaults = [])
  (call:∀ (w:World) (s₀ s₁:Shared) (mg mb:Str->Option Value) (fa:Addr) (o:Obj) (pm cd doc:Value) (a:Addr) (vs:List Value) (ns:List Int),
   Ground q loose [] XP w s₀ mg mb s₁.heap->YP w s₁.heap->
   s₁.heap.get? fa=some o->o.data = .func (docDef d.name d.params d.body d.scope pm cd doc)->s₁.heap.CodeRec cd d.name->mg d.name=some (.ref fa)->
   s₁.heap.get? a=some { cls:=.type "list",data:=.seq vs.toArray }->IntsAre vs ns->ns.length<=n->s₁.gens = #[]->
   codeAny (model l.prog w) callerA (.call (.ref fa) ⟨[.ref a],[]⟩) (fun r s'=>r = .ok (.ret (.bool true))/\OldK s₁.heap s'.heap/\s'.os=s₁.os/\AllBare s'.gens) s₁) :
  WalkO q loose XP YP l.row.toRowW d [] (fun f vs=>PySem.call f vs):=by
 intro w s₀ s₁ mg mb G Y fa o pm cd doc dV kV ho hd hcd hD hmg hg args vals as hpre hlay hrd hwl hlo
 obtain rfl:dV = .none:=Dflts.none hD hdf
 obtain rfl:kV = .none:=Dflts.noKw hD
 obtain ⟨a,vs,ns,rfl,rfl,hobj,hints,hlen⟩:=F1 hn hpre hwl
 refine enter_call (codeAny_mono (call w s₀ s₁ mg mb fa o pm cd doc a vs ns G Y ho (fd_plain hd) hcd hmg hobj hints hlen hg) fun r s' hq=>?_)
 obtain ⟨rfl,h2,h3,h4⟩:=hq
 exact⟨.inl ⟨.bool true,.bool true,[],rfl,fun _=>rfl,.bool true,F2 l _,fun _=>⟨by1,fun _ hm=>(nomatch hm)⟩⟩,h2,h3,h4⟩
end Att
namespace L2
open PySem PySem.Spec PyProof.Rows
theorem F3:∀ {vs:List Value}{ns:List Int},IntsAre vs ns->aS (ns.map V.int) vs
 | _,_,.nil=>.nil
 | _,_,.cons n t h=>.cons ⟨t,rfl⟩ (F3 h)
def qO (H:Hp):Prop:=∀ b,H b=none ∨ ∃ o xs,H b=some (.frz o (.lst xs))
theorem aw4 {P:Program}{w:World}{K:PySem.W.Frag}{mg mb:Str->Option Value}{CX:gV}{k:Nat}{fa a:Addr}{fd:FuncData}{x:Str}{sp:Sp}{s₁:Shared}{vs:List Value}{ns:List Int}
  (KX:K.In s₁.heap) (hns:s₁.heap.Ns mainGlobals mg) (hb:s₁.heap.Ns builtinsNs mb) (hbb:∀ x:Str,x ≠ "__name__"->mb x=bootBuiltins x) (hlim:s₁.heap.NoLimit) (hg:s₁.gens = #[])
  (ha:s₁.heap.get? a=some { cls:=.type "list",data:=.seq vs.toArray }) (hi:IntsAre vs ns) (hl:ns.length<=sizeLine) (hr:cE k callerA)
  (F:∀ base:Heap,K.In base->base.Ns mainGlobals mg->dQ P w K mg base CX k fa fd [x] sp) (hbind:∀ (s:Shared) (u:Value),BindsTo s fd ⟨[u],[]⟩ [(x,u)])
  (hsp:∀ H:Hp,qO H->aT K H a (ns.map V.int)->sp [.ref a] H (fun v _=>v = .bl true) fun _ _ _=>False)
  (hCX:∀ H e s',CX [] H s₁ (fun _ _ _=>False) e s'->False) :
  codeAny (model P w) callerA (.call (.ref fa) ⟨[.ref a],[]⟩) (fun r s'=>r = .ok (.ret (.bool true))/\OldK s₁.heap s'.heap/\s'.os=s₁.os/\AllBare s'.gens) s₁:=by
 have rv:=F3 hi
 have lenV:=hi.length
 have core:∀ H:Hp,qO H->aT K H a (ns.map V.int)->bZ P w H s₁.heap->(∀ b,H b ≠ none->b=a)->(H a ≠ none->K.lookup a=none)->
   codeAny (model P w) callerA (.call (.ref fa) ⟨[.ref a],[]⟩) (fun r s'=>r = .ok (.ret (.bool true))/\OldK s₁.heap s'.heap/\s'.os=s₁.os/\AllBare s'.gens) s₁:=by
  intro H hO hS hok hA hK
  have base_of:∀ {b:Addr}{o:Obj},s₁.heap.get? b=some o->H b=none->(j9 s₁.heap H).get? b=some o:=fun e n=>al8 e n
  have noA:∀ {b:Addr}{o:Obj}{es:Array DictEntry}{ep:Nat},s₁.heap.get? b=some o->o.data = .dict es ep->H b=none:=fun {b o es ep} e d=>by
   cases q:H b with
   | none=>rfl
   | some u=>
    have e':b=a:=hA b (by rw [q]; simp)
    subst e'
    rw [ha] at e; cases e
    have d':Data.seq vs.toArray _=Data.dict es ep:=d
    cases d'
  have nsK:∀ {b:Addr}{m:Str->Option Value},s₁.heap.Ns b m->(j9 s₁.heap H).Ns b m:=fun {b m} ⟨o,es,ep,e,d,r⟩=>⟨o,es,ep,base_of e (noA e d),d,r⟩
  have hKb:K.In (j9 s₁.heap H):=fun b o e=>base_of (KX b o e) (by
   cases q:H b with
   | none=>rfl
   | some u=>
    have e':b=a:=hA b (by rw [q]; simp)
    subst e'
    rw [hK (by rw [q]; simp)] at e; cases e)
  have hM:Mod K mg (j9 s₁.heap H):=⟨hKb,nsK hns,⟨mb,nsK hb,hbb⟩,let ⟨mc,h1,h2⟩:=hlim; ⟨mc,nsK h1,h2⟩⟩
  have e0:qM P w K mg (j9 s₁.heap H) callerA [] s₁ H:=⟨rfl,hM,fun b o e=>al9 e,Nat.le_of_eq (al7 _ _),trivial,fun b hb=>absurd (show b ∈ ([]:List Addr) from hb) (by simp),hok,.of_eq hg⟩
  refine codeAny_mono ((F _ hKb (nsK hns)).run callerA [] s₁ H ⟨[.ref a],[]⟩ [.ref a] [.ref a] _ _ hr e0 (hbind s₁ (.ref a)) (.cons rfl .nil) (hsp H hO hS)) fun r s' h=>?_
  cases r with
  | error e=>exact (hCX H e s' h).elim
  | ok fl=>
   cases fl with
   | next=>exact False.elim h
   | brk=>exact False.elim h
   | cont=>exact False.elim h
   | ret u=>
    obtain ⟨v,H',os,bare,un,hok',r',q⟩:=h
    have q':v = .bl true:=q
    subst q'
    obtain rfl:u=Value.bool true:=r'
    refine⟨rfl,OldK.of_keep fun b o e=>?_,os,bare⟩
    cases q:H b with
    | none=>exact un.keep b o e q (by intro z; exact absurd (show b ∈ ([]:List Addr) from z) (by simp)) (by simp)
    | some u=>
     rcases hO b with z | ⟨ob,xs,z⟩
     ·rw [q] at z; cases z
     ·have z2:=un.frzs b ob _ z
      obtain ⟨e1,_⟩:=hok b _ z
      obtain ⟨e2,_⟩:=hok' b _ z2
      rw [e] at e1; cases e1
      exact e2
 cases hk:K.lookup a with
 | some o=>
  have e:=KX a o hk
  rw [ha] at e
  cases e
  refine core (fun _=>none) (fun _=>.inl rfl) (.inr ⟨_,vs.toArray,_,hk,rfl,rfl,rfl,by rw [bk3,lenV]; exact hl,by simpa using rv⟩) (fun b u z=>by have z':(none:Option HO)=some u:=z; cases z') (fun b z=>absurd rfl z) fun z=>absurd rfl z
 | none=>
  refine core (fun b=>if b=a then some (.frz { cls:=.type "list",data:=.seq vs.toArray } (.lst (ns.map V.int))) else none) (fun b=>?_) (.inl (.inr ⟨{ cls:=.type "list",data:=.seq vs.toArray },if_pos rfl⟩)) (fun b u z=>?_) (fun b z=>?_) fun _=>hk
  ·by_cases hb:b=a
   ·exact .inr ⟨_,_,if_pos hb⟩
   ·exact .inl (if_neg hb)
  ·by_cases hb:b=a
   ·have z':=(if_pos hb).symm.trans z
    cases z'
    subst hb
    exact⟨ha,by rw [bk8]; exact hl,vs,_,rv,ha⟩
   ·have z':=(if_neg hb).symm.trans z
    cases z'
  ·by_cases hb:b=a
   ·exact hb
   ·exact absurd (if_neg hb) z
theorem aw5 {l:PySem.W.OpenLaw}{n k:Nat}{q:Program}{loose:List Str}{XP:(Str->Option Value)->Heap->Prop}{YP:World->Heap->Prop}{d:DefRec}{K:Params->PySem.W.Frag}{CX:World->gV}{sp:World->Sp}{x:Str}
  (hn:l.most=some n) (hn2:n<=sizeLine) (hdf:d.params.defaults = []) (hr:cE k callerA)
  (hY:∀ (w:World) (h:Heap),YP w h->(K w.params).In h)
  (F:∀ (w:World) (mg:Str->Option Value) (fa:Addr) (h:Heap),(K w.params).In h->h.Ns mainGlobals mg->mg d.name=some (.ref fa)->
   ∃ fd:FuncData,(∀ (s:Shared) (u:Value),BindsTo s fd ⟨[u],[]⟩ [(x,u)])/\
    ∀ base:Heap,(K w.params).In base->base.Ns mainGlobals mg->dQ l.prog w (K w.params) mg base (CX w) k fa fd [x] (sp w))
  (hsp:∀ (w:World) (H:Hp) (a:Addr) (ns:List Int),ns.length<=n->qO H->aT (K w.params) H a (ns.map V.int)->sp w [.ref a] H (fun v _=>v = .bl true) fun _ _ _=>False)
  (hCX:∀ (w:World) (H:Hp) (s:Shared) (e:Value) (s':Shared),CX w [] H s (fun _ _ _=>False) e s'->False) :
  PySem.W.WalkO q loose XP YP l.row.toRowW d [] (fun f vs=>PySem.call f vs):=by
 refine Att.aw3 hn hdf fun w s₀ s₁ mg mb fa o pm cd doc a vs ns G Y ho hd hcd hmg hobj hints hlen hg=>?_
 have KX:=hY w _ Y
 obtain ⟨fd,hb,hF⟩:=F w mg fa _ KX G.T.g hmg
 exact aw4 KX G.T.g G.T.b G.T.builtins G.T.nolimit hg hobj hints (bo3 hlen hn2) hr hF hb (fun H hO hS=>hsp w H a ns hlen hO hS) fun H e s'=>hCX w H s₁ e s'
def jE (s:Stmt):Arguments:=match s with
 | .FunctionDef _ a _ _ _ _ _ _ _ _=>a
 | _=>{ posonlyargs:=[],args:=[],vararg:=none,kwonlyargs:=[],kw_defaults:=[],kwarg:=none,defaults:=[] }
def eV (s:Stmt):List Stmt:=match s with
 | .FunctionDef _ _ b _ _ _ _ _ _ _=>b
 | _=>[]
def aY (s:Stmt):Scope:=match s with
 | .FunctionDef _ _ _ _ _ _ sc _ _ _=>sc
 | _=>{ kind:=.function,names:=[],isGenerator:=false,isCoroutine:=false }
abbrev fJ:gV:=fun _ _ _ _ _ _=>False
abbrev E0:XK:=fun _ _ _=>False
theorem aw6 {X:Cx}:oC fJ X E0:=fun _ _ _ _ _ _ _ h=>h.elim
structure gH (K:PySem.W.Frag) (x qual:Str) (st:Stmt) (f:Addr) (fd:FuncData):Prop where
 ex:∃ (oc:Value) (od:Option Addr) (kV doc pm:Value) (an:Option Addr) (cdv ct:Value) (osl:Array (Option Value)),
  fd=PySem.W.fnOf x qual (jE st) (eV st) (aY st) .none kV doc pm an cdv ct/\K.lookup f=some ⟨oc,od,.func fd,osl⟩/\PySem.W.codeIn K cdv qual=true
 kp:PySem.W.keepIn K (.ref f)=true
section
variable {P : Program} {w : World} {K : PySem.W.Frag} {mg : Str → Option Value} {base : Heap}
theorem gH.ok {x qual:Str}{st:Stmt}{f:Addr}{fd:FuncData}{N ps:List Str}{k:Nat}{sp:Sp} (F:gH K x qual st f fd) (S:FnScope N ps (aY st)) (len:∀ vs H Q E,sp vs H Q E->vs.length=ps.length)
  (hbody:∀ (cdv:Value) (A:Around) (outer:List Env) (s:Shared) (H:Hp) (vs:List V) (Q:VK) (E:XK),cE k (A.deeper (envOfC qual (aY st) s.heap.objs.size f cdv))->sp vs H Q E->
   ∃ t,dU (dH fJ P w K mg base N qual (aY st) f cdv A outer s H E).nox (eV st) t/\t { nx:=fun _ H'=>Q .non H',rt:=Q } (gW N vs) H):dQ P w K mg base fJ (k+1) f fd ps sp:=by
 obtain ⟨oc,od,kV,doc,pm,an,cdv,ct,osl,rfl,lk,hcd⟩:=F.ex
 refine A9 lk hcd S len fun A outer s H vs Q E hr hsp=>?_
 obtain ⟨t,h,q⟩:=hbody cdv A outer s H vs Q E hr hsp
 exact⟨t,h.nox,q⟩
theorem gH.binds {x qual:Str}{st:Stmt}{f:Addr}{fd:FuncData}{ps:List Str} (F:gH K x qual st f fd)
  (h:∀ (kV doc pm:Value) (an:Option Addr) (cdv ct:Value) (us:List Value),us.length=ps.length->bindArgs (PySem.W.fnOf x qual (jE st) (eV st) (aY st) .none kV doc pm an cdv ct) ⟨us,[]⟩=pure (ps.zip us)):jB K fd ps []:=by
 obtain ⟨oc,od,kV,doc,pm,an,cdv,ct,osl,rfl,lk,hcd⟩:=F.ex
 exact .all (h kV doc pm an cdv ct)
theorem aw7 {x qual:Str}{st:Stmt}{f:Addr}{oc:Value}{od an:Option Addr}{osl:Array (Option Value)}{kV doc pm cdv ct:Value} (l:K.lookup f=some ⟨oc,od,.func (PySem.W.fnOf x qual (jE st) (eV st) (aY st) .none kV doc pm an cdv ct),osl⟩)
  (c:PySem.W.codeIn K cdv qual=true) (k:PySem.W.keepIn K (.ref f)=true):gH K x qual st f (PySem.W.fnOf x qual (jE st) (eV st) (aY st) .none kV doc pm an cdv ct):=⟨⟨oc,od,kV,doc,pm,an,cdv,ct,osl,rfl,l,c⟩,k⟩
end
theorem oF {A:Around}{k:Nat} (hr:cE k A):A.units+1 < cLine:=Nat.lt_of_le_of_lt (Nat.add_le_add_left (by decide:1<=64) _) hr.units
theorem aw8 {n:Nat} (h:n<=1000):n < sizeLine:=Nat.lt_of_le_of_lt h (by decide)
section
variable {X : Cx}
theorem aw9:cO X (.builtin "len") (fun xs H Q=>∃ a kvs,xs = [V.ref a]/\H a=some (.dK kvs)/\Q (.int kvs.length) H):=by
 intro pins s σ H xs us Q I r h
 obtain ⟨a,kvs,rfl,ha,q⟩:=h
 obtain ⟨u,rfl,ru⟩:=gU r
 cases ru
 exact av2 I (.inl ha) fun t s' I'=>⟨.int kvs.length,H,I',⟨t,rfl⟩,q⟩
end
theorem aJ {A B:Prop} (h:B):if false=true then A else B:=by
 rw [if_neg bm6]
 exact h
theorem b7 {A B:Prop} (h:A):if true=true then A else B:=by
 rw [if_pos rfl]
 exact h
def aE (H H':Hp):Prop:=∀ b o,H b=some o->H' b=some o
theorem aE.refl (H:Hp):aE H H:=fun _ _ h=>h
theorem aE.trans {H H1 H2:Hp} (a:aE H H1) (b:aE H1 H2):aE H H2:=fun c o h=>b c o (a c o h)
theorem aE.free {H H':Hp} (e:aE H H') {l:Addr} (h:H' l=Option.none):H l=Option.none:=by
 cases q:H l with
 | none=>rfl
 | some o=>
  rw [e l o q] at h
  cases h
def eF (cells:List (Str × Addr)):List (Str × NameKind)->List (Str × Addr)->List (Str × Addr)
 | [],cs=>cs
 | (n,k) :: r,cs=>eF cells r (if k == .free then (n,(cells.lookup n).getD 0) :: cs else cs)
theorem uZ {env:Env}:∀ (ns:List (Str × NameKind)) (cs:List (Str × Addr)),(∀ x ∈ ns,x.2 = .free->∃ c,env.cells.lookup x.1=some c)->
  (forIn ns cs (fun (x:Str × NameKind) r=>(match x with
   | (name,kind)=>if (kind == .free)=true then (do let y <- cellOf env name; pure (ForInStep.yield ((name,y) :: r))) else pure (ForInStep.yield r)):_->_->Sem _))=(pure (eF env.cells ns cs):Sem (List (Str × Addr)))
 | [],cs,_=>by rw [List.forIn_nil]; rfl
 | (n,k) :: r,cs,h=>by
  rw [List.forIn_cons]
  have hr:∀ x ∈ r,x.2 = .free->∃ c,env.cells.lookup x.1=some c:=fun x hx=>h x (bl2 _ hx)
  cases hk:(k == NameKind.free) with
  | true=>
   have e:k = .free:=by simpa using hk
   obtain ⟨c,hc⟩:=h (n,k) bl6 e
   simp only [hk,if_true]
   have e1:cellOf env n=pure c:=by unfold cellOf; rw [hc]
   rw [e1]
   show ((pure c >>= fun y=>pure (ForInStep.yield ((n,y) :: cs))) >>= _:Sem _)=_
   rw [pure_bind,pure_bind]
   have:=uZ (env:=env) r ((n,c) :: cs) hr
   refine this.trans ?_
   unfold eF
   simp only [hk,if_true,hc,Option.getD_some]
   cases r <;> rfl
  | false=>
   simp only [hk,bn3,bt1]
   rw [pure_bind]
   have:=uZ (env:=env) r cs hr
   refine this.trans ?_
   conv=>rhs; unfold eF
   simp only [hk,bn3,bt1]
theorem F4 {scope:Scope}{env:Env} (h:∀ x ∈ scope.names,x.2 = .free->∃ c,env.cells.lookup x.1=some c):closureFor scope env=pure (eF env.cells scope.names []):=by
 have e:=uZ (env:=env) scope.names [] h
 unfold closureFor
 rw [show (pure (eF env.cells scope.names []):Sem (List (Str × Addr)))=(pure (eF env.cells scope.names []) >>= pure) by rw [pure_bind]]
 rw [<- e]
theorem qP {cells:List (Str × Addr)}:∀ (ns:List (Str × NameKind)) (cs:List (Str × Addr)) {x:Str}{c:Addr},(∀ y ∈ ns,y.2 = .free->∃ c,cells.lookup y.1=some c)->
  (∀ x c,cs.lookup x=some c->cells.lookup x=some c)->(eF cells ns cs).lookup x=some c->cells.lookup x=some c
 | [],cs,x,c,_,hc,h=>hc x c h
 | (n,k) :: r,cs,x,c,hn,hc,h=>by
  unfold eF at h
  have hr:∀ y ∈ r,y.2 = .free->∃ c,cells.lookup y.1=some c:=fun y hy=>hn y (bl2 _ hy)
  cases hk:(k == NameKind.free) with
  | false=>
   simp only [hk,bn3,bt1] at h
   exact qP r cs hr hc h
  | true=>
   simp only [hk,if_true] at h
   refine qP r _ hr (fun y d e=>?_) h
   obtain ⟨c0,h0⟩:=hn (n,k) bl6 (by simpa using hk)
   have h0:cells.lookup n=some c0:=h0
   rw [h0] at e
   rw [br2] at e
   by_cases hyn:y=n
   ·subst hyn
    simp only [bs7,Option.getD_some] at e
    rw [h0]; exact e
   ·have:(y == n)=false:=beq_eq_false_iff_ne.mpr hyn
    simp only [this] at e
    exact hc y d e
theorem v7 {cells:List (Str × Addr)}:∀ (ns:List (Str × NameKind)) (cs:List (Str × Addr)) {x:Str},((x,NameKind.free) ∈ ns ∨ ∃ c,cs.lookup x=some c)->∃ c,(eF cells ns cs).lookup x=some c
 | [],cs,x,h=>by
  rcases h with h | h
  ·simp at h
  ·exact h
 | (n,k) :: r,cs,x,h=>by
  unfold eF
  refine v7 r _ ?_
  rcases h with h | ⟨c,h⟩
  ·rcases bk6.mp h with e | e
   ·cases e
    exact .inr ⟨_,by simp [br2]; rfl⟩
   ·exact .inl e
  ·right
   cases hk:(k == NameKind.free) with
   | false=>exact⟨c,by simpa [hk] using h⟩
   | true=>
    simp only [if_true]
    rw [br2]
    by_cases hxn:(x == n)=true
    ·simp only [hxn]; exact⟨_,rfl⟩
    ·simp only [Bool.eq_false_iff.mpr hxn]; exact⟨c,h⟩
theorem qQ {env:Env}:∀ {names:List (Str × NameKind)}{x:Str}{k:NameKind},(names.map fun (n,k)=>if (k == NameKind.free && env.scope.kind == .function && env.kindOf n == some .cell) then (n,NameKind.cell) else (n,k)).lookup x=some k->
  names.lookup x=some k ∨ (names.lookup x=some .free/\k = .cell)
 | [],_,_,h=>by simp at h
 | (n,q) :: r,x,k,h=>by
  have ih:=@qQ env r x k
  rw [bp9] at h
  by_cases hx:(x == n)=true
  ·have e:x=n:=by simpa using hx
   subst e
   by_cases hc:(q == NameKind.free && env.scope.kind == .function && env.kindOf x == some .cell)=true
   ·simp only [hc,if_true,br2,bs7] at h
    have hq:q = .free:=by simp at hc; exact hc.1.1
    exact .inr ⟨by simp [br2,hq],(bn1 h).symm⟩
   ·simp only [hc,bn3,bt1,br2,bs7] at h
    exact .inl (by simp [br2]; exact bn1 h)
  ·have hx':(x == n)=false:=Bool.eq_false_iff.mpr hx
   have h':(r.map fun (n,k)=>if (k == NameKind.free && env.scope.kind == .function && env.kindOf n == some .cell) then (n,NameKind.cell) else (n,k)).lookup x=some k:=by
    by_cases hc:(q == NameKind.free && env.scope.kind == .function && env.kindOf n == some .cell)=true
    ·simp only [hc,if_true,br2,hx'] at h; exact h
    ·simp only [hc,bn3,bt1,br2,hx'] at h; exact h
   simp only [br2,hx']
   exact ih h'
def gI (fr:List (Option Nat)) (σ:St):St:=fr.map fun o=>o.bind fun j=>(σ[j]?).join
def Wk (σ₁ σ₂:St):Prop:=σ₁.length=σ₂.length/\∀ (i:Nat) v,σ₁[i]? = some (some v)->σ₂[i]? = some (some v)
theorem jF:∀ (ns:List (Str × NameKind)) (n:Nat) (cs:List (Str × Addr)),cellsFrom n ns cs=cellsFrom n ns [] ++ cs
 | [],_,_=>rfl
 | (x,k) :: r,n,cs=>by
  unfold cellsFrom
  split
  ·rw [jF r (n+1) ((x,n) :: cs),jF r (n+1) [(x,n)]]; simp
  ·exact jF r n cs
theorem v8:∀ (ns:List (Str × NameKind)) (n:Nat) {x:Str}{c:Addr},(x,c) ∈ cellsFrom n ns []->(x,NameKind.cell) ∈ ns
 | [],_,_,_,h=>by simp [cellsFrom] at h
 | (y,k) :: r,n,x,c,h=>by
  unfold cellsFrom at h
  split at h
  ·rename_i hk
   rw [jF] at h
   rcases bn5.mp h with z | z
   ·exact bl2 _ (v8 r _ z)
   ·rw [bk9] at z
    cases z
    have:k = .cell:=by simpa using hk
    rw [this]; exact bl6
  ·exact bl2 _ (v8 r _ h)
theorem qR:∀ (ns:List (Str × NameKind)) (n:Nat) {x:Str},(x,NameKind.cell) ∈ ns->∃ c,(x,c) ∈ cellsFrom n ns []
 | (y,k) :: r,n,x,h=>by
  unfold cellsFrom
  rcases bk6.mp h with z | z
  ·cases z
   rw [if_pos (by rfl),jF]
   exact⟨n,bn4 _ (by simp)⟩
  ·split
   ·obtain ⟨c,hc⟩:=qR r (n+1) z
    rw [jF]
    exact⟨c,bn0 _ hc⟩
   ·exact qR r n z
theorem v9 {α:Type}:∀ {l:List (Str × α)}{x:Str}{c:α},(x,c) ∈ l->∃ d,l.lookup x=some d
 | (y,v) :: r,x,c,h=>by
  rw [br2]
  cases hb:x == y with
  | true=>exact⟨v,rfl⟩
  | false=>
   rcases bk6.mp h with z | z
   ·cases z; simp at hb
   ·exact v9 z
theorem qS {α:Type}{x:Str}:∀ (l r:List (Str × α)),(l ++ r).lookup x=(match l.lookup x with | some v=>some v | none=>r.lookup x)
 | [],_=>rfl
 | (y,v) :: l,r=>by
  rw [List.cons_append,br2,br2]
  cases hb:x == y with
  | true=>rfl
  | false=>exact qS l r
def gY (X:Cx) (scope:Scope) (C:Addr):List (Str × Addr):=cellsFrom (C+1) scope.names (eF X.env.cells scope.names [])
theorem l9 {X:Cx}{scope:Scope}{C:Addr}{x:Str}{c:Addr} (h:(gY X scope C).lookup x=some c) :
  (x,c) ∈ cellsFrom (C+1) scope.names [] ∨ ((∀ d,(x,d) ∉ cellsFrom (C+1) scope.names [])/\(eF X.env.cells scope.names []).lookup x=some c):=by
 unfold gY at h
 rw [jF,qS] at h
 cases e:(cellsFrom (C+1) scope.names []).lookup x with
 | some v=>rw [e] at h; cases h; exact .inl (bp8 e)
 | none=>
  rw [e] at h
  refine .inr ⟨fun d hd=>?_,h⟩
  obtain ⟨d',z⟩:=v9 hd
  rw [e] at z; cases z
theorem ax0 {X:Cx}{scope:Scope}{C:Addr}{x:Str}{c:Addr} (hn:(x,NameKind.cell) ∉ scope.names) (h:(eF X.env.cells scope.names []).lookup x=some c):(gY X scope C).lookup x=some c:=by
 unfold gY
 rw [jF,qS]
 cases e:(cellsFrom (C+1) scope.names []).lookup x with
 | some v=>exact absurd (v8 _ _ (bp8 e)) hn
 | none=>exact h
theorem F5 {X:Cx}{scope:Scope}{C:Addr}{x:Str} (h:(x,NameKind.cell) ∈ scope.names ∨ ∃ c,(eF X.env.cells scope.names []).lookup x=some c):∃ c,(gY X scope C).lookup x=some c:=by
 unfold gY
 rw [jF,qS]
 cases e:(cellsFrom (C+1) scope.names []).lookup x with
 | some v=>exact⟨v,rfl⟩
 | none=>
  rcases h with h | h
  ·obtain ⟨c,hc⟩:=qR scope.names (C+1) h
   obtain ⟨d,hd⟩:=v9 hc
   rw [e] at hd; cases hd
  ·exact h
def cI (X:Cx) (scope:Scope) (N:List Str) (s:Shared) (H:Hp) (C:Addr) (fp:List Addr) (E:Value->Shared->Prop):Cx:=
 { X with N:=N,s₀:=s,H₀:=H,env:=compEnvC scope (gY X scope C) C X.env,outer:=X.stack,ex:=fp,fn:=fun x=>scope.names.lookup x == some .cell,pn:=[],xe:=E }
structure eW (X:Cx) (scope:Scope) (N:List Str) (fr:List (Option Nat)):Prop where
 kind:scope.kind = .function
 own:∀ y ∈ scope.names,y.2 = .cell->scope.names.lookup y.1=some .cell
 names:∀ y ∈ scope.names,y.2 = .local->scope.names.lookup y.1=some .local
 free:∀ y ∈ scope.names,y.2 = .free->X.env.scope.names.lookup y.1=some .cell ∨ X.env.scope.names.lookup y.1=some .free
 len:fr.length=N.length
 from_:∀ (i j:Nat),fr[i]? = some (some j)->∃ x,N[i]? = some x/\X.N[j]? = some x/\scope.names.lookup x=some .free
section
variable {X : Cx} {pins : List (Addr × Obj)} {σ : St} {H : Hp} {s : Shared} {scope : Scope} {N : List Str} {fr : List (Option Nat)}
theorem eW.cells (S:eW X scope N fr) (I:a7 X pins σ H s):∀ y ∈ scope.names,y.2 = .free->∃ c,X.env.cells.lookup y.1=some c:=fun y hy hk=>I.ok.has y.1 (S.free y hy hk)
theorem ax1 {C D:Addr}{fp:List Addr}{E:Value->Shared->Prop}{h1:Heap}{tk:Nat}{m:Str->Option Value} (S:eW X scope N fr) (I:a7 X pins σ H s)
  (hf:∀ b ∈ fp,gG X pins H b) (hfl:∀ b ∈ fp,b < s.heap.objs.size) (hD:s.heap.objs.size<=D) (hC:s.heap.objs.size<=C) (hDC:D < C)
  (old:∀ b o,s.heap.get? b=some o->h1.get? b=some o) (hns:h1.Ns C m) (hacc:h1.get? D=some { cls:=.type "list",data:=.seq #[] 0 }) (hco:CellsOk h1 (C+1) (cellsFrom (C+1) scope.names [])) :
  a7 (cI X scope N s H C fp E) [] (gI fr σ) (upd H D (.lst [])) { s with heap:=h1,toks:=tk }:=by
 have hHD:H D=none:=I.hok.fresh hD
 have cl:=S.cells I
 have cs:∀ {x:Str}{c:Addr},(eF X.env.cells scope.names []).lookup x=some c->X.env.cells.lookup x=some c:=fun {x c} h=>qP scope.names [] cl (fun _ _ z=>by simp at z) h
 have clt:∀ {x:Str}{c:Addr},X.env.cells.lookup x=some c->c < s.heap.objs.size:=fun {x c} h=>by obtain ⟨v,z⟩:=I.cell x c h; exact z.lt
 have nge:∀ {x:Str}{c:Addr},(x,c) ∈ cellsFrom (C+1) scope.names []->C < c:=fun {x c} h=>(hco.empty x c h).2
 refine⟨⟨I.ok.mod,?_,I.ok.glob,I.ok.blt,hC,?_,?_,?_,I.ok.hd,I.ok.frames,.inl rfl,?_,I.bs,bo3 I.ok.bsz I.sz,?_,?_,I.stack,I.stkFree⟩,rfl,I.bare,Un.laid old hD hHD,⟨m,hns,?_⟩,?_,?_,?_,fun p hp=>absurd (show p ∈ ([]:List (Addr × Obj)) from hp) (by simp),?_,?_⟩
 ·exact S.kind
 ·intro x y c h1 h2
  rcases l9 h1 with a | ⟨_,a⟩ <;> rcases l9 h2 with b | ⟨_,b⟩
  ·exact name_of_addr hco.apart a b
  ·exact absurd (bl8 (Nat.lt_trans (nge a) (clt (cs b))) hC) (bt0 _)
  ·exact absurd (bl8 (Nat.lt_trans (nge b) (clt (cs a))) hC) (bt0 _)
  ·exact I.ok.inj x y c (cs a) (cs b)
 ·intro x hx
  have hx:(relabel scope X.env).names.lookup x=some .cell ∨ (relabel scope X.env).names.lookup x=some .free:=hx
  have fin:(x,NameKind.free) ∈ scope.names->∃ c,(gY X scope C).lookup x=some c:=fun z=>F5 (.inr (v7 scope.names [] (.inl z)))
  rcases hx with hx | hx
  ·rcases qQ hx with z | z
   ·exact F5 (.inl (bp8 z))
   ·exact fin (bp8 z.1)
  ·rcases qQ hx with z | z
   ·exact fin (bp8 z)
   ·exact absurd z.2 (by decide)
 ·intro x c hx h
  have hx:(scope.names.lookup x == some NameKind.cell)=true:=hx
  have hx:scope.names.lookup x=some .cell:=by simpa using hx
  rcases l9 h with a | ⟨a,_⟩
  ·exact bo3 hC (bw8 (nge a))
  ·obtain ⟨d,hd⟩:=qR scope.names (C+1) (bp8 hx)
   exact absurd hd (a d)
 ·intro b hb
  refine⟨bn9 (bl8 (hfl b hb) hC),fun x c e=>?_⟩
  rcases l9 e with a | ⟨_,a⟩
  ·exact bu1 (Nat.lt_trans (bl8 (hfl b hb) hC) (nge a))
  ·exact (hf b hb).2.2.2.2.1 x c (cs a)
 ·intro b o e hb
  rcases (hf b hb).2.2.2.1 with z | z
  ·exact I.ok.noex b o e z
  ·exact absurd (bl8 (bl5 e) (bo3 I.ok.bsz z)) (bt0 _)
 ·intro b hb z
  rcases bk6.mp (I.stkSub b z) with e | e
  ·exact (hf b hb).2.1 e
  ·exact (hf b hb).2.2.1 e
 ·intro i x v e1 e2 e3
  have e2:(fr.map fun o=>o.bind fun j=>(σ[j]?).join)[i]? = some (some v):=e2
  rw [bl9] at e2
  cases ef:fr[i]? with
  | none=>rw [ef] at e2; cases e2
  | some o=>
   rw [ef] at e2
   cases o with
   | none=>cases e2
   | some j=>
    have e2:some ((σ[j]?).join)=some (some v):=e2
    have ej:σ[j]? = some (some v):=by
     cases q:σ[j]? with
     | none=>rw [q] at e2; cases e2
     | some w=>rw [q] at e2; cases w with
      | none=>cases e2
      | some w=>cases e2; rfl
    obtain ⟨y,a1,a2,a4⟩:=S.from_ i j ef
    have e1:N[i]? = some x:=e1
    rw [e1] at a1
    cases a1
    have a3:(x,NameKind.free) ∈ scope.names:=bp8 a4
    have vis:jA X.env.scope x:=(S.free _ a3 rfl).elim (fun z=>.inr (.inl z)) fun z=>.inr (.inr z)
    obtain ⟨m0,hn0,hl0⟩:=I.loc
    obtain ⟨u,r,l⟩:=hl0 j x v a2 ej vis
    refine⟨u,r,.inr ⟨?_,?_⟩⟩
    ·have e3:(relabel scope X.env).names.lookup x=some .local ∨ (relabel scope X.env).names.lookup x=some .cell ∨ (relabel scope X.env).names.lookup x=some .free:=e3
     rcases e3 with z | z | z
     ·rcases qQ z with y | y
      ·rw [a4] at y; cases y
      ·exact absurd y.2 (by decide)
     ·exact .inl z
     ·exact .inr z
    ·obtain ⟨c,hc⟩:=v7 (cells:=X.env.cells) scope.names [] (x:=x) (.inl a3)
     refine⟨c,ax0 (fun z=>by have:=S.own _ z rfl; rw [a4] at this; cases this) hc,?_⟩
     have hc':=cs hc
     have S1:=S.free (x,.free) a3 rfl
     rcases l with ⟨k,_⟩ | ⟨_,c2,hc2,z⟩
     ·have k:X.env.scope.names.lookup x=some .local:=k
      rcases S1 with q | q <;> (have q:X.env.scope.names.lookup x=_:=q; rw [k] at q; cases q)
     ·rw [hc'] at hc2; cases hc2
      obtain ⟨oc,ho,hd⟩:=z
      exact⟨oc,old c oc ho,hd⟩
 ·intro x c e
  rcases l9 e with a | ⟨_,a⟩
  ·exact⟨_,(hco.empty x c a).1⟩
  ·obtain ⟨v,oc,ho,hd⟩:=I.cell x c (cs a)
   exact⟨v,oc,old c oc ho,hd⟩
 ·show upd H D (.lst []) C=none
  rw [aZ (bu1 hDC)]; exact I.hok.fresh hC
 ·intro x c e
  show upd H D (.lst []) c=none
  rcases l9 e with a | ⟨_,a⟩
  ·rw [aZ (bu1 (Nat.lt_trans hDC (nge a)))]; exact I.hok.fresh (bo3 hC (bw8 (nge a)))
  ·have q:=cs a
   rw [aZ (bn9 (bl8 (clt q) hD))]
   exact I.freeC x c q
 ·exact I.hok.laid old hD ⟨bu5 _,[],0,.nil,hacc⟩
 ·show (gI fr σ).length=N.length
  unfold gI; rw [bk8]; exact S.len
end
def lA (X:Cx) (ifs:List Expr) (t:TT):Prop:=
 ∀ (pins:List (Addr × Obj)) (s:Shared) (σ:St) (H:Hp) (Q:Bool->Hp->Prop),a7 X pins σ H s->t σ H Q->
  wpAny (model X.prog X.w) X.A (forIn ifs true fun c r=>if r=true then do let ok <- isTrue c X.env (eval c X.env); pure (ForInStep.yield ok) else pure (ForInStep.yield r)) (TP X pins σ Q) X.xe s
def F6:TT:=fun _ H Q=>Q true H
theorem ax2 {X:Cx}:lA X [] F6:=fun _ _ _ H _ I h=>wpAny_tests_nil ⟨H,I,h⟩
theorem F7 {X:Cx}{c:Expr}{t:TT} (h:PT X c t):lA X [c] t:=fun pins s σ H Q I hq=>wpAny_tests_one (h pins s σ H Q I hq)
section
variable {prog : Program} {w : World} {A : Around}
def vA (prog:Program) (w:World) (A:Around) (elt tg:Expr) (ifs:List Expr) (it acc:Value) (env:Env) (lost:Value->Shared->Prop) (stop next:Shared->Prop) (s:Shared):Prop:=
 let M:=model prog w
 let tests:Sem Bool:=forIn ifs true fun c r=>if r=true then do let ok <- isTrue c env (eval c env); pure (ForInStep.yield ok) else pure (ForInStep.yield r)
 let put:Shared->Prop:=wpAny M A (eval elt env) (fun x=>wpAny M A (call (.builtin "list.append") [acc,x]) (fun _=>next) lost) lost
 let taken:Value->Shared->Prop:=fun v=>wpAny M A (letOwnedTupleGo tg it v) (fun _=>wpAny M A (assign tg env v) (fun _=>wpAny M A tests (fun ok s'=>if ok=true then put s' else next s') lost) lost) lost
 wpAny M A (pyNext it) (fun r s'=>match r with
  | none=>stop s'
  | some v=>taken v s') lost s
theorem ax3 {R:Result->Shared->Prop}{s:Shared}{elt tg iter:Expr}{ifs:List Expr}{scope:Scope}{pos:Pos}{it acc:Value}{env:Env} (I:Nat->Shared->Prop)
  (turn:∀ n s,I n s->vA prog w A elt tg ifs it acc env (notedBy (model prog w) A env fun e=>R (.error e)) (R (.ok .next)) (fun s'=>∃ m,m < n/\I m s') s) (n:Nat) (h:I n s) :
  codeAny (model prog w) A (.compLoop (.ListComp elt [⟨tg,iter,ifs,0⟩] scope pos) 0 it acc env) R s:=by
 apply codeAny_loop rfl I _ n h
 intro k s1 h1
 change wpAny _ A ((compTurn _ 0 it acc env).onRaise (fun x=>do noteFrame x env; theTreesLotGoes x)) _ _ s1
 apply wpAny_noted
 rw [compTurn_list]
 have t:=turn k s1 h1
 unfold vA at t
 apply bj8
 apply wpAny_standAt
 apply bj8
 refine br6 t (fun r s2 h2=>?_) fun _ _ z=>z
 cases r with
 | none=>exact bk2 h2
 | some v=>
  apply bj8
  refine br6 h2 (fun _ s3 h3=>?_) fun _ _ z=>z
  apply bj8
  refine br6 h3 (fun _ s4 h4=>?_) fun _ _ z=>z
  apply bj8
  refine br6 h4 (fun ok s5 h5=>?_) fun _ _ z=>z
  cases ok with
  | false=>exact bk2 ⟨rfl,h5⟩
  | true=>
   apply bj8
   apply bj8
   refine br6 h5 (fun x s6 h6=>?_) fun _ _ z=>z
   apply bj8
   exact br6 h6 (fun _ s7 h7=>bk2 (bk2 ⟨rfl,h7⟩)) fun _ _ z=>z
end
def F8 (g:TG) (tc:TT) (te:TE) (σ0:St) (J:It) (D:Addr) (Q:VK) (W:Nat->Nat->List V->Hp->Prop):Prop:=
 ∀ i m acc H',W i m acc H'->H' D=some (.lst acc)/\((J.stop i H'/\Q (.ref D) H') ∨ (J.go i H'/\∀ x H2,J.yld i H' x H2->g x σ0 H2 fun σ2 H3=>Wk σ0 σ2/\tc σ2 H3 fun b H4=>
  if b=true then te σ2 H4 fun v H5=>H5 D=some (.lst acc)/\acc.length < sizeLine/\∃ m',m' < m/\W (i+1) m' (acc ++ [v]) (upd H5 D (.lst (acc ++ [v]))) else ∃ m',m' < m/\W (i+1) m' acc H4))
section
variable {M : Model} {A : Around} {E : Value → Shared → Prop} {s : Shared}
theorem ax4 {scope:Scope}{globals:Addr}{cl:List (Str × Addr)}{qual:Str}{func:Option Addr}{code:Value}{builtins:Addr}{outer:Env}{Q:Env->Shared->Prop}
  (hQ:∀ h',h'.Ns s.heap.objs.size (fun _=>none)->(∀ b o,s.heap.get? b=some o->h'.get? b=some o)->CellsOk h' (s.heap.objs.size+1) (cellsFrom (s.heap.objs.size+1) scope.names [])->
   Q (newEnv scope s.heap.objs.size globals (cellsFrom (s.heap.objs.size+1) scope.names cl) qual func code (some outer) builtins) { s with heap:=h' }) :
  wpAny M A (newFunctionEnv scope globals cl [] qual func code (some outer) builtins) Q E s:=by
 simp only [newFunctionEnv,Option.isSome_some,if_true]
 refine bj8 (wpAny_alloc ?_)
 refine bj8 (wpAny_layCells _ (fun name kind cells=>by cases hkc:kind == NameKind.cell <;> simp [hkc]) _ _ _ _ ?_)
 have ok:=cellsFrom_ok scope.names (s.heap.push { cls:=.type "dict",data:=.dict #[] }) (s.heap.objs.size+1) [] ⟨fun _ _ hm=>(nomatch hm),by1⟩ (by rw [bs8]; exact bl1 _)
 rw [bs8] at ok
 rw [show ({ s with heap:=s.heap.push { cls:=.type "dict",data:=.dict #[] } }:Shared).heap.objs.size=s.heap.objs.size+1 from bs8 ..]
 rw [List.forIn_nil]
 refine bj8 (bk2 (bk2 (hQ _ ((Heap.Ns.new s.heap (.type "dict")).keeps (pushCells_keeps _ _)) (fun b o e=>pushCells_keeps _ _ b o (bk0 _ e)) ok)))
end
section
variable {X : Cx} {pins : List (Addr × Obj)} {σ : St} {H : Hp} {s : Shared} {scope : Scope} {N : List Str} {fr : List (Option Nat)} {tg iter elt : Expr} {ifs : List Expr} {pos : Pos} {wi : TI} {g : TG} {tc : TT} {te : TE}
structure oG (X:Cx) (scope:Scope) (N:List Str) (tg:Expr) (ifs:List Expr) (elt:Expr) (s:Shared) (H:Hp) (g:TG) (tc:TT) (te:TE):Prop where
 tg:∀ (C:Addr) (fp:List Addr),PG (cI X scope N s H C fp fun _ _=>False) tg g
 ifs:∀ (C:Addr) (fp:List Addr),lA (cI X scope N s H C fp fun _ _=>False) ifs tc
 elt:∀ (C:Addr) (fp:List Addr),PE (cI X scope N s H C fp fun _ _=>False) elt te
theorem ax5 {C:Addr}{fp:List Addr}{E:Value->Shared->Prop}{pins':List (Addr × Obj)}{σ':St}{H':Hp}{s':Shared} (I:a7 X pins σ H s) (hf:∀ b ∈ fp,gG X pins H b) (I':a7 (cI X scope N s H C fp E) pins' σ' H' s'):a7 X pins σ H' s':=
 I.call' (ch:=fp) I'.os I'.base I'.hok I'.bare fun b hb=>⟨(hf b hb).2.2.2.1,(hf b hb).2.1,(hf b hb).2.2.2.2.1,(hf b hb).2.2.2.2.2⟩
theorem F9 {Rr:Value->Addr->Result->Shared->Prop}{J:It}{fp:List Addr}{it:Addr}{tn:Nat->Heap->Prop}{Q:VK}
  (hc:X.calm=true) (S:eW X scope N fr) (B:oG X scope N tg ifs elt s H g tc te) (I:a7 X pins σ H s) (T:iN X.prog X.w X.K tg J fp it tn) (hst:tn 0 s.heap) (hf:∀ b ∈ fp,gG X pins H b)
  (h:∀ D,H D=none->∃ W:Nat->Nat->List V->Hp->Prop,(∃ m,W 0 m [] (upd H D (.lst [])))/\F8 g tc te (gI fr σ) J D Q W)
  (hend:∀ (D C:Addr) (s':Shared) (H':Hp) (m:Str->Option Value),s.heap.objs.size<=C->s.heap.objs.size<=D->a7 X pins σ H' s'->s'.heap.Ns C m->H' C=none->Q (.ref D) H'->Rr (.ref D) C (.ok .next) s') :
  wpAny (model X.prog X.w) X.A (newList []) (fun acc s₃=>wpAny (model X.prog X.w) X.A (newFunctionEnv scope X.env.globals (eF X.env.cells scope.names []) [] X.env.qual none .none (some X.env)) (fun cenv s₄=>
   codeAny (model X.prog X.w) X.A (.compStart (.ListComp elt [⟨tg,iter,ifs,0⟩] scope pos) 0 (.ref it) acc { cenv with scope:=relabel scope X.env }) (Rr acc cenv.locals) s₄) X.xe s₃) X.xe s:=by
 refine bp0 (ax4 (fun h₁ hns₁ keep₁ hco₁=>?_))
 dsimp only at hns₁ keep₁ hco₁ ⊢
 generalize hH2:s.heap.push { cls:=.type "list",dict:=none,data:=.seq ([]:List Value).toArray }=H2 at hns₁ keep₁ hco₁ ⊢
 have hC:H2.objs.size=s.heap.objs.size+1:=by rw [<- hH2,bs8]
 have hDC:s.heap.objs.size < H2.objs.size:=by rw [hC]; exact Nat.lt_succ_self _
 have hCle:s.heap.objs.size<=H2.objs.size:=by rw [hC]; exact Nat.le_succ _
 have old:∀ b o,s.heap.get? b=some o->h₁.get? b=some o:=fun b o e=>keep₁ b o (hH2 ▸ bk0 _ e)
 have hacc:h₁.get? s.heap.objs.size=some { cls:=.type "list",data:=.seq #[] 0 }:=keep₁ _ _ (hH2 ▸ bl7 _ rfl)
 have hfl:∀ b ∈ fp,b < s.heap.objs.size:=fun b hb=>by obtain ⟨o,e,_⟩:=T.obj _ _ hst b hb; exact bl5 e
 obtain ⟨W,⟨m0,w0⟩,turn⟩:=h s.heap.objs.size (I.hok.fresh (bl1 _))
 have st1:tn 0 h₁:=T.keep _ _ _ hst fun b _ o e=>old b o e
 have fr0:∀ b ∈ fp,upd H s.heap.objs.size (.lst []) b=none:=fun b hb=>by rw [aZ (bn9 (hfl b hb))]; exact (hf b hb).1
 have stat:∀ {H':Hp},(∀ b ∈ fp,H' b=none)->∀ b ∈ fp,gG (cI X scope N s H H2.objs.size fp fun _ _=>False) [] H' b:=fun {H'} hn b hb=>by
  have f:=hf b hb
  refine⟨hn b hb,bn9 (bl8 (hfl b hb) hCle),fun z=>?_,.inl hb,fun x c e=>(l9 e).elim (fun z=>bu1 (Nat.lt_trans (bl8 (hfl b hb) hCle) (hco₁.empty x c z).2)) fun z=>f.2.2.2.2.1 x c (qP scope.names [] (S.cells I) (fun _ _ z=>by simp at z) z.2),fun p hp=>absurd (show p ∈ ([]:List (Addr × Obj)) from hp) (by simp)⟩
  rcases bk6.mp (I.stkSub b z) with e | e
  ·exact f.2.1 e
  ·exact f.2.2.1 e
 generalize hX:cI X scope N s H H2.objs.size fp (fun _ _=>False)=Y at stat
 have I0:a7 Y [] (gI fr σ) (upd H s.heap.objs.size (.lst [])) { s with heap:=h₁ }:=hX ▸ ax1 S I hf hfl (bl1 _) hCle hDC old hns₁ hacc hco₁
 have bt:PG Y tg g:=hX ▸ B.tg H2.objs.size fp
 have bi:lA Y ifs tc:=hX ▸ B.ifs H2.objs.size fp
 have be:PE Y elt te:=hX ▸ B.elt H2.objs.size fp
 have eP:Y.prog=X.prog:=by rw [<- hX]; rfl
 have ew:Y.w=X.w:=by rw [<- hX]; rfl
 have eK:Y.K=X.K:=by rw [<- hX]; rfl
 have eA:Y.A=X.A:=by rw [<- hX]; rfl
 have eE:Y.env=compEnvC scope (gY X scope H2.objs.size) H2.objs.size X.env:=by rw [<- hX]; rfl
 have eX:Y.xe=fun _ _=>False:=by rw [<- hX]; rfl
 have ec:Y.calm=true:=by rw [<- hX]; exact hc
 have never:∀ {E:Value->Shared->Prop} (e:Value) (s':Shared),Y.xe e s'->E e s':=fun {E} e s' z=>by rw [eX] at z; exact z.elim
 have out:∀ {pins' σ' H' s'},a7 Y pins' σ' H' s'->a7 X pins σ H' s':=fun {_ _ _ _} I'=>ax5 (C:=H2.objs.size) (E:=fun _ _=>False) (scope:=scope) (N:=N) I hf (hX ▸ I')
 have loop:codeAny (model X.prog X.w) X.A (.compLoop (.ListComp elt [⟨tg,iter,ifs,0⟩] scope pos) 0 (.ref it) (.ref s.heap.objs.size) (compEnvC scope (gY X scope H2.objs.size) H2.objs.size X.env))
   (Rr (.ref s.heap.objs.size) H2.objs.size) { s with heap:=h₁ }:=by
  refine ax3 (fun n s'=>∃ i acc H',a7 Y [] (gI fr σ) H' s'/\tn i s'.heap/\(∀ b ∈ fp,H' b=none)/\W i n acc H') ?_ m0 ⟨0,[],_,I0,st1,fr0,w0⟩
  rintro n s3 ⟨i,acc,H3,I3,st3,fr3,w3⟩
  unfold vA
  dsimp only
  obtain ⟨hD3,step⟩:=turn i n acc H3 w3
  rcases step with ⟨stop,qn⟩ | ⟨go,step⟩
  ·have z:=T.done Y eP ew eK ec i [] s3 _ H3 (notedBy (model X.prog X.w) X.A (compEnvC scope (gY X scope H2.objs.size) H2.objs.size X.env) fun e s'=>Rr (.ref s.heap.objs.size) H2.objs.size (.error e) s') I3 (stat fr3) st3 stop
   rw [eA] at z
   refine aL z fun r s4 ⟨hr,I4⟩=>?_
   subst hr
   obtain ⟨m4,hn4,_⟩:=I4.loc
   rw [eE] at hn4
   have f4:=I4.free
   rw [eE] at f4
   exact hend _ _ s4 H3 m4 hCle (bl1 _) (out I4) hn4 f4 qn
  ·have z:=T.item Y eP ew eK ec i [] s3 _ H3 (notedBy (model X.prog X.w) X.A (compEnvC scope (gY X scope H2.objs.size) H2.objs.size X.env) fun e s'=>Rr (.ref s.heap.objs.size) H2.objs.size (.error e) s') I3 (stat fr3) st3 go
   rw [eA] at z
   refine aL z fun r s4 ⟨u,hr,h4⟩=>?_
   subst hr
   refine aL h4 fun _ s5 ⟨x,H5,I5,r5,y5,st5,fr5⟩=>?_
   have I5':=I5.pinned (stat fr5) (T.obj _ _ st5)
   have q1:=bt _ s5 _ H5 x u _ I5' r5 (step x H5 y5)
   rw [eP,ew,eA,eE] at q1
   refine br6 q1 (fun _ s6 ⟨σ6,H6,I6,wk,q6⟩=>?_) never
   have q2:=bi _ s6 σ6 H6 _ I6 q6
   rw [eP,ew,eA,eE] at q2
   refine br6 q2 (fun b s7 ⟨H7,I7,q7⟩=>?_) never
   have again:∀ {H8:Hp}{s8:Shared}{acc':List V},a7 Y ([] ++ o9 fp s5.heap) σ6 H8 s8->(∃ m',m' < n/\W (i+1) m' acc' H8)->∃ m,m < n/\∃ i acc H',a7 Y [] (gI fr σ) H' s8/\tn i s8.heap/\(∀ b ∈ fp,H' b=none)/\W i m acc H':=fun {H8 s8 acc'} I8 n8=>by
    obtain ⟨m',hm,w8⟩:=n8
    refine⟨m',hm,i+1,acc',H8,(I8.unpinned).weak wk.1 wk.2,T.keep _ _ _ st5 fun b hb o e=>(I8.pin (b,o) (bn4 _ (bn4 _ (qG hb e)))).1,fun b hb=>?_,w8⟩
    obtain ⟨o,e,d⟩:=T.obj _ _ st5 b hb
    exact (I8.pin (b,o) (bn4 _ (bn4 _ (qG hb e)))).2.1
   cases b with
   | false=>
    rw [if_neg bm6] at q7 ⊢
    exact again I7 q7
   | true=>
    rw [if_pos rfl] at q7 ⊢
    have q3:=be _ s7 σ6 H7 _ I7 q7
    rw [eP,ew,eA,eE] at q3
    refine br6 q3 (fun v s8 ⟨y,H8,I8,r8,hD8,hz8,q8⟩=>?_) never
    have q4:=C7 _ s8 σ6 H8 (.ref s.heap.objs.size) [y] (.ref s.heap.objs.size) [v] (fun _ H9=>∃ m',m' < n/\W (i+1) m' (acc ++ [y]) H9) I8 rfl (.cons r8 .nil) ⟨_,_,_,rfl,rfl,hD8,hz8,q8⟩
    rw [eP,ew,eA] at q4
    exact br6 q4 (fun _ s9 ⟨_,H9,I9,_,q9⟩=>again I9 q9) never
 exact codeAny_compStart_list loop (T.self _ 0 _ _ _ st1 loop)
end
section
variable {X : Cx} {scope : Scope} {N : List Str} {fr : List (Option Nat)} {tg iter elt : Expr} {ifs : List Expr} {pos : Pos} {wi : TI} {g : TG} {tc : TT} {te : TE}
theorem a7.drop {pins:List (Addr × Obj)}{σ:St}{H H':Hp}{s s':Shared}{C:Addr}{h':Heap} (I0:a7 X pins σ H s) (hC:s.heap.objs.size<=C) {σ':St} (I:a7 X pins σ' H' s') (hn:H' C=none) (sb:Heap.SameBut C s'.heap h'):a7 X pins σ' H' { s' with heap:=h' }:=by
 refine I.turned (t':=s'.toks) (it:=C) (fun b o hb e=>(sb.2 b hb).trans e) hn (bu1 (bl8 I0.lt hC)) (.inr (bo3 I0.sz hC)) (fun x c e z=>?_) fun p hp z=>?_
 ·obtain ⟨v,q⟩:=I0.cell x c e
  exact absurd (bl8 q.lt (by rw [z]; exact hC)) (bt0 _)
 ·exact absurd (bl8 (bl5 (I0.pin p hp).1) (by rw [z]; exact hC)) (bt0 _)
variable {gh : Hp → TG} {tch : Hp → TT} {teh : Hp → TE}
def vB (wi:TI) (fr:List (Option Nat)) (gh:Hp->TG) (tch:Hp->TT) (teh:Hp->TE):TE:=fun σ H Q=>wi σ H fun J H1=>∀ D,H1 D=none->
 ∃ W:Nat->Nat->List V->Hp->Prop,(∃ m,W 0 m [] (upd H1 D (.lst [])))/\F8 (gh H1) (tch H1) (teh H1) (gI fr σ) J D Q W
theorem vC (hc:X.calm=true) (S:eW X scope N fr) (hi:PI X tg iter wi) (B:∀ (s:Shared) (H:Hp),oG X scope N tg ifs elt s H (gh H) (tch H) (teh H))
  (hs:∀ x,foldedSetIterable iter X.env x=pure x:=by intro _; rfl):PE X (.ListComp elt [⟨tg,iter,ifs,0⟩] scope pos) (vB wi fr gh tch teh):=by
 intro pins s σ H Q I h
 rw [eval_ListComp]
 refine wpAny_comprehension_free (use:=none) rfl hs (F4 (S.cells I)) S.kind S.names (aL (hi pins s σ H _ I h) fun v s1 h1=>aL h1 fun itv s2 h2=>?_)
 obtain ⟨it,fp,tn,J,H2,e,I2,T,st2,f2,hW⟩:=h2
 subst e
 refine F9 (Rr:=fun acc C=>compPost (model X.prog X.w) X.A X.xe none (EP X pins σ Q) acc C) hc S (B _ _) I2 T st2 f2 hW ?_
 intro D C s' H' m hC hD I' hns hHC q
 exact⟨m,hns,fun h' sb=>⟨.ref D,H',I2.drop hC I' hHC sb,rfl,q⟩⟩
theorem ax6 {i:Nat}{x:Str}{px spos:Pos} (hc:X.calm=true) (S:eW X scope N fr) (hi:PI X tg iter wi) (B:∀ (s:Shared) (H:Hp),oG X scope N tg ifs elt s H (gh H) (tch H) (teh H)) (hN:X.N.Nodup) (hix:X.N[i]? = some x) (hx:X.env.scope.names.lookup x=some .local)
  (hsw:swapsWith (.ListComp elt [⟨tg,iter,ifs,0⟩] scope pos) (some (.Name x px)) spos.line X.env=pure true) (hs:∀ x,foldedSetIterable iter X.env x=pure x:=by intro _; rfl) :
  PS X (.Assign [.Name x px] (.ListComp elt [⟨tg,iter,ifs,0⟩] scope pos) spos) (mO (vB wi fr gh tch teh) (dA i)):=by
 intro pins s σ H D I h
 rw [exec_Assign_Name_used _ _ _ _ hsw]
 refine bj8 (wpAny_standAt (bj8 ?_))
 show wpAny _ _ (do let _ <- comprehension (.ListComp elt [⟨tg,iter,ifs,0⟩] scope pos) scope X.env _ (newList []) false (eval iter X.env) (some (assign (.Name x px) X.env))) _ _ s
 refine bj8 (br6 (wpAny_comprehension_free (Q:=fun _ s'=>SP X pins D .next s') (use:=some (assign (.Name x px) X.env)) rfl hs (F4 (S.cells I)) S.kind S.names (aL (hi pins s σ H _ I h) fun v s1 h1=>aL h1 fun itv s2 h2=>?_))
  (fun _ s' hq=>bk2 (bk2 hq)) fun _ _ e=>e)
 obtain ⟨it,fp,tn,J,H2,e,I2,T,st2,f2,hW⟩:=h2
 subst e
 refine F9 (Rr:=fun acc C=>compPost (model X.prog X.w) X.A X.xe (some (assign (.Name x px) X.env)) (fun _ s'=>SP X pins D .next s') acc C) hc S (B _ _) I2 T st2 f2 hW ?_
 intro D' C s' H' m hC hD I' hns hHC q
 refine wpAny_assign_Name (z0 I' hN hix (.inl hx) (v:=.ref D') rfl (fun s'' I'' sb=>?_) (.inr hx))
 obtain ⟨a,sb,ha⟩:=sb
 have hCa:C ≠ a:=by
  rcases ha with z | z
  ·rw [z]; exact bu1 (bl8 I2.lt hC)
  ·intro e; subst e
   obtain ⟨v,q⟩:=I2.cell x _ z
   exact absurd (bl8 q.lt hC) (bt0 _)
 exact⟨m,hns.sameBut sb hCa,fun h' sb'=>⟨_,H',I2.drop hC I'' hHC sb',q⟩⟩
end
theorem cA {H:Hp}{p:Addr} (h:H p=none) (o:HO):aE H (upd H p o):=fun b u q=>by rw [aZ (dG q h)]; exact q
def jG (lo:Int) (n:Nat):List V:=(List.range n).map fun (i:Nat)=>V.int (lo+(i:Int))
theorem vD (lo:Int) (n:Nat):(jG lo n).length=n:=by unfold jG; rw [bk8,List.length_range]
end L2
namespace Srt
open PySem PySem.W PyProof.Rows
abbrev G (p:Array Nat) (i:Nat):Nat:=p.getD i 0
def PP (n:Nat) (p:Array Nat):Prop:=p.toList.Perm (List.range n)
structure G0 (c:Nat->Nat->Bool):Prop where
 asym:∀ {i j},c i j=true->c j i=false
 ntr:∀ {i j k},c i j=false->c j k=false->c i k=false
section
variable {c : Nat → Nat → Bool} (O : G0 c)
def Le (c:Nat->Nat->Bool) (i j:Nat):Prop:=c j i=false
include O
theorem le_refl (i:Nat):Le c i i:=by
 unfold Le
 cases h:c i i with
 | false=>rfl
 | true=>have:=O.asym h; rw [h] at this; exact this
theorem le_trans {i j k:Nat} (h1:Le c i j) (h2:Le c j k):Le c i k:=O.ntr h2 h1
end
end Srt
namespace L2
open PySem PySem.Spec PyProof.Rows
theorem vE:∀ {xs:List V}{us:List Value} (i:Nat),i < xs.length->aS xs us->aV (xs.getD i .non) (us.getD i Value.none)
 | _,_,_,h,.nil=>by simp at h
 | _,_,0,_,.cons r _=>by simpa using r
 | _,_,i+1,h,.cons _ t=>by
  have:=vE i (by simpa using h) t
  simpa using this
theorem qT {α:Type}:∀ l:List α,(l.zip l).map (·.2)=l
 | []=>rfl
 | a :: l=>by
  show a :: ((l.zip l).map (·.2))=a :: l
  rw [qT l]
theorem G1 {prog:Program}{w:World}{A:Around}{E:Value->Shared->Prop}{s:Shared}{a:Addr}{vs:List Value}{n:Nat}{P:PySem.Fin->Shared->Prop} (e:s.heap.get? a=some (seqObj "list" vs.toArray n)) (few:vs.length < 2)
  (q:P (.done (.ret .none)) { s with heap:=sortedHeap s.heap a vs vs.toArray }):wpAny (model prog w) A (Builtin.«list.sort» ⟨[.ref a],[]⟩) P E s:=by
 have big:vs.length<=sizeLine:=bo3 (bw8 few) (by decide)
 have la:=bl5 e
 have c:vs.toArray.size < 2:=by simpa using few
 have same:(arrOf (SortSt.mk' general' (vs.toArray.zip vs.toArray) #[] 7 none)).map (·.2)=vs.toArray:=by
  change (vs.toArray.zip vs.toArray).map (·.2)=vs.toArray
  apply Array.ext'
  simpa using qT vs
 obtain ⟨k,ek⟩:∃ k,(s.heap.update a (Obj.mapSeq fun _=>#[])).get? a=some (seqObj "list" #[] k):=⟨_,get?_update_seq e fun _=>#[]⟩
 have there:(((s.heap.update a (Obj.mapSeq fun _=>#[])).push (seqObj "tuple" vs.toArray 0)).push (seqObj "list" #[] 0)).get? a=some (seqObj "list" #[] k):=
  bk0 _ (bk0 _ ek)
 rw [list_sort_plain]
 apply bj8
 apply listItems_at e rfl
 apply bj8
 refine listUpdate_at e rfl ?_ (by simpa using big) (bu5 _)
 apply bj8
 apply seqEpoch_at ek rfl
 apply bj8
 refine wpAny_newTuple ?_ big
 apply bj8
 refine wpAny_newList ?_ (bu5 _)
 apply br7
 simp only [c,if_true,StateT.run_pure]
 apply bj8
 apply bk2
 apply bj8
 apply bk2
 apply bj8
 apply seqEpoch_at there rfl
 apply bj8
 refine listUpdate_at there rfl ?_ (bu5 _) (by rw [same,bk3]; exact Nat.le_succ_of_le big)
 rw [same]
 simp only [bne_self_eq_false,bn3,bt1]
 exact bk2 q
theorem ax7 {prog:Program}{w:World}{A:Around}{E:Value->Shared->Prop}{s:Shared}{l:Addr}{vs:List Value}{Q:Value->Shared->Prop} (hl:s.heap.IsList l vs.toArray) (few:vs.length < 2)
  (q:Q (.ref (s.heap.objs.size+1)) { s with heap:=sortedAll s.heap vs vs.toArray }):wpAny (model prog w) A (call (.builtin "sorted") [.ref l]) Q E s:=by
 have big:vs.length<=sizeLine:=bo3 (bw8 few) (by decide)
 apply Calls.call_function_entry kind_sorted plain_sorted entry_sorted (args_sorted1 _)
 simp only [Builtin.«sorted»]
 apply bj8 (m:=checkCount "sorted" 1 1 _)
 apply bk2
 apply bj8
 refine collect_list hl ?_ big
 apply bj8
 refine wpAny_newList ?_ big
 have one:((s.heap.push (seqObj "list" #[] 0)).update s.heap.objs.size (Obj.mapSeq (· ++ vs.toArray))).objs.size=s.heap.objs.size+1:=(Heap.size_update _ _ _).trans (size_push' _ _)
 have at1:(((s.heap.push (seqObj "list" #[] 0)).update s.heap.objs.size (Obj.mapSeq (· ++ vs.toArray))).push (seqObj "list" vs.toArray 0)).get? (s.heap.objs.size+1)=some (seqObj "list" vs.toArray 0):=one ▸ bl7 _ rfl
 change wpAny _ _ _ _ _ { s with heap:=((s.heap.push (seqObj "list" #[] 0)).update s.heap.objs.size (Obj.mapSeq (· ++ vs.toArray))).push (seqObj "list" vs.toArray 0) }
 rw [one]
 apply bj8
 apply br7
 refine br0 slot_list_sort ⟨_,at1,rfl⟩ entry_list_sort ?_ (args_list_sort _)
 refine G1 at1 few ⟨_,rfl,?_⟩
 exact bk2 ⟨_,rfl,q⟩
theorem lB:∀ {a b:List Int},HT.aR a b=true->HT.aR b a=false
 | [],[],h=>by cases h
 | [],_ :: _,_=>rfl
 | _ :: _,[],h=>by cases h
 | x :: xs,y :: ys,h=>by
  rw [HT.gX] at h ⊢
  by_cases e:x=y
  ·rw [if_pos e] at h; rw [if_pos e.symm]; exact lB h
  ·rw [if_neg e] at h; rw [if_neg (Ne.symm e)]
   have:=by2 h
   exact bk1 (by omega)
theorem vF:∀ {a b c:List Int},HT.aR a b=false->HT.aR b c=false->HT.aR a c=false
 | [],[],c,_,h=>h
 | [],_ :: _,_,h,_=>by cases h
 | _ :: _,[],[],_,_=>rfl
 | _ :: _,[],_ :: _,_,h=>by cases h
 | _ :: _,_ :: _,[],_,_=>rfl
 | x :: xs,y :: ys,z :: zs,h1,h2=>by
  rw [HT.gX] at h1 h2 ⊢
  by_cases e1:x=y
  ·rw [if_pos e1] at h1
   by_cases e2:y=z
   ·rw [if_pos e2] at h2; rw [if_pos (e1.trans e2)]; exact vF h1 h2
   ·rw [if_neg e2] at h2; rw [if_neg (by rw [e1]; exact e2)]; rw [e1]; exact h2
  ·rw [if_neg e1] at h1
   have k1:=bz5 h1
   by_cases e2:y=z
   ·rw [<- e2,if_neg e1]; exact h1
   ·rw [if_neg e2] at h2
    have k2:=bz5 h2
    rw [if_neg (by omega)]
    exact bk1 (by omega)
theorem vG:∀ {a b:List Int},HT.aR a b=false->HT.aR b a=false->a=b
 | [],[],_,_=>rfl
 | [],_ :: _,h,_=>by cases h
 | _ :: _,[],_,h=>by cases h
 | x :: xs,y :: ys,h1,h2=>by
  rw [HT.gX] at h1 h2
  by_cases e:x=y
  ·rw [if_pos e] at h1; rw [if_pos e.symm] at h2; rw [e,vG h1 h2]
  ·rw [if_neg e] at h1; rw [if_neg (Ne.symm e)] at h2
   have:=bz5 h1
   have:=bz5 h2
   omega
section
variable {prog : Program} {w : World} {A : Around} {s : Shared} {Q : Bool → Shared → Prop}
theorem vH:∀ {us ws:List Value}{xs ys:List Int} (i:Nat),IntsAre us xs->IntsAre ws ys->Q (HT.aR xs ys) s->PySem.W.KatLex prog w A true (decide (us.length < ws.length)) Q (us.zip ws) i s
 | _,_,_,_,_,.nil,.nil,h=>h
 | _,_,_,_,_,.nil,.cons _ _ _,h=>h
 | _,_,_,_,_,.cons _ _ _,.nil,h=>h
 | _,_,_,_,i,.cons (vs:=us) x t hx,.cons (vs:=ws) y u hy,h=>by
  refine PySem.W.kat_cons (wpAny_eqBool_int ?_)
  rw [HT.gX] at h
  by_cases e:x=y
  ·rw [if_pos e] at h
   have eb:(x == y)=true:=by simpa using e
   rw [eb]
   refine PySem.W.kat_yes ?_
   have e2:decide ((Value.int x t :: us).length < (Value.int y u :: ws).length)=decide (us.length < ws.length):=by simp
   rw [e2]
   exact vH (i+1) hx hy h
  ·rw [if_neg e] at h
   have eb:(x == y)=false:=by simpa using e
   rw [eb]
   refine PySem.W.kat_no ?_
   cases hi:(true && i == 0) with
   | true=>exact PySem.W.kat_lt_int h
   | false=>exact PySem.W.kat_one _ _ (lt_int h)
end
end L2
namespace Raw
open PySem PySem.W PySem.Calls PyProof.Rows
def gZ (h:Heap) (d:Addr) (es:Array DictEntry) (ep:Nat):Prop:=∃ o,h.get? d=some o/\o.ExactDict/\o.data = .dict es ep
theorem gZ.ty {s:Shared}{d:Addr}{es:Array DictEntry}{ep:Nat} (x:gZ s.heap d es ep):s.TypeIs (.ref d) "dict":=x.elim fun o y=>⟨o,y.1,y.2.1.1⟩
theorem gZ.lt {h:Heap}{d:Addr}{es:Array DictEntry}{ep:Nat} (x:gZ h d es ep):d < h.objs.size:=x.elim fun _ y=>bl5 y.1
theorem gZ.keep {h h':Heap}{d:Addr}{es:Array DictEntry}{ep:Nat} (x:gZ h d es ep) (k:∀ o,h.get? d=some o->h'.get? d=some o):gZ h' d es ep:=x.elim fun o y=>⟨o,k o y.1,y.2⟩
section
variable {prog : Program} {w : World} {A : Around} {E : Value → Shared → Prop} {s : Shared} {d it : Addr} {es : Array DictEntry} {ep i : Nat}
theorem made (far:(d == sysModules)=false) (x:gZ s.heap d es ep) {Q:Value->Shared->Prop}
  (q:Q (.ref s.heap.objs.size) { s with heap:=s.heap.push { cls:=.type "dict_keyiterator",data:=.fields #[.ref d,.int 0 0,.int es.size 0,.int ep 0] } }):wpAny (model prog w) A (pyIter (.ref d)) Q E s:=by
 have T:=x.ty
 obtain ⟨o,e1,e2,e3⟩:=x
 apply wpAny_pyIter_slot T PySem.F.slot_dict_iter
 apply br0 PySem.F.slot_dict_iter T PySem.F.entry_dict_iter _ (PySem.F.args_dict_iter_1 _)
 simp only [Builtin.«dict.__iter__»,Builtin.Dict.dictSlotNone]
 apply bj8
 apply bj8
 apply wpAny_notOrdered_dict T
 apply bk2
 change wpAny _ _ (Builtin.Dict.showsAll d >>= _) _ _ s
 have far':Builtin.Dict.showsAll d=pure ():=by
  unfold Builtin.Dict.showsAll
  simp only [far,bn3,bt1]
 rw [far',pure_bind]
 apply bj8
 apply wpAny_dictEntries e1 e3
 apply bj8
 apply wpAny_dictEpoch e1 e3
 apply bj8
 refine bp0 (bk2 ?_)
 refine⟨.ref s.heap.objs.size,rfl,"dict_keyiterator",_,⟨_,bl7 _ rfl,rfl⟩,PySem.F.slot_dict_keyiterator_next.lookup,?_⟩
 simpa only [rawInt] using q
theorem turn (hh:A.handled=none) (hi:s.heap.IsKeyIter it d i es.size ep) (x:gZ s.heap d es ep) {Q:Option Value->Shared->Prop}
  (yes:∀ (lt:i < es.size) h',h'.IsKeyIter it d (i+1) es.size ep->Heap.SameBut it s.heap h'->Q (some es[i].key) { s with heap:=h' })
  (no:es.size<=i->∀ h',Heap.ExtBut it s.heap h'->Q none { s with heap:=h' }):wpAny (model prog w) A (pyNext (.ref it)) Q E s:=by
 have T:=hi.typeIs
 obtain ⟨oi,f1,f2,f3⟩:=hi
 obtain ⟨o,e1,e2,e3⟩:=x
 have slot:=PySem.F.slot_dict_keyiterator_next
 have plain:Builtin.Dict_items.ownsTuple "dict_keyiterator" = false:=by decide
 have isref:(Value.ref d == Value.none)=false:=rfl
 have nn : ¬ (i:Int) < 0:=by omega
 unfold pyNext
 apply bj8
 apply bB1
 apply bq6 (name:=Str.ofString "__next__") T slot
 apply br0 slot T PySem.F.entry_dict_keyiterator_next _ (PySem.F.args_dict_keyiterator_next_1 _)
 apply bj8
 apply bk2
 apply bj8
 apply bj8
 apply bj8
 first
  | apply wpAny_typeNameOfWhole_keyiter T
  | apply wpAny_typeNameOf_keyiter T
 apply bk2
 apply bj8
 apply wpAny_fieldsOf f1 f3
 simp only [plain,bn3,bt1]
 change wpAny _ _ (if (Value.ref d == Value.none)=true then _ else _) _ _ s
 have adr:Builtin.Dict_items.addrOf (Value.ref d)=pure d:=rfl
 simp only [isref,bn3,bt1,adr,pure_bind]
 apply bj8
 apply wpAny_dictEntries e1 e3
 simp only [bne_self_eq_false,bn3,bt1]
 apply bj8
 apply wpAny_dictEpoch e1 e3
 simp only [bne_self_eq_false,bn3,bt1]
 apply bk2
 simp only [nn,bt1,Int.toNat_natCast]
 by_cases lt:i < es.size
 ·simp only [Array.getElem?_eq_getElem lt]
  apply bj8
  apply bj8
  first
   | apply wpAny_typeNameOfWhole_keyiter T
   | apply wpAny_typeNameOf_keyiter T
  apply bk2
  apply bj8
  apply wpAny_isOneOf_keyiter T
  change wpAny _ _ (setField (.ref it) 1 (rawInt ((i:Int)+1)) >>= _) _ _ s
  apply bj8
  refine wpAny_setField f1 f3 (by simp) ?_
  have again:(s.heap.update it (Obj.mapFields (·.setIfInBounds 1 (rawInt ((i:Int)+1))))).IsKeyIter it d (i+1) es.size ep:=by
   refine⟨_,bt9 _ f1 (Obj.isFreed_of_fields (Obj.data_mapFields f3 _)),?_,?_⟩
   ·rw [Obj.cls_mapFields]; exact f2
   ·rw [Obj.data_mapFields f3]; simp [rawInt]
  apply bj8
  apply br7
  apply bj8
  refine wpAny_isOneOf_keyiter (s:={ s with heap:=s.heap.update it (Obj.mapFields (·.setIfInBounds 1 (rawInt ((i:Int)+1)))) }) again.typeIs ?_
  change wpAny _ _ (pure es[i].key) _ _ _
  apply bk2
  apply bk2
  exact⟨es[i].key,rfl,bk2 (yes lt _ again (bx2 ..))⟩
 ·have ge:es.size<=i:=Nat.le_of_not_lt lt
  simp only [Array.getElem?_eq_none ge]
  apply bj8
  apply bj8
  first
   | apply wpAny_typeNameOfWhole_keyiter T
   | apply wpAny_typeNameOf_keyiter T
  apply bk2
  change wpAny _ _ (setField (.ref it) 0 .none >>= _) _ _ s
  apply bj8
  refine wpAny_setField f1 f3 (by simp) ?_
  apply bj8
  simp only [newExc,newTuple]
  apply bj8
  refine bp0 ?_ (by size_fits)
  apply bj8
  refine wpAny_of_eq (a:=Value.none) (by first | rfl | (simp only [firstArgMember]; rfl)) ?_
  refine bp0 ?_ (by size_fits)
  unfold raiseNew
  apply bj8
  apply wpAny_handled
  have quiet:A.in1.handled=none:=hh
  rw [quiet]
  refine wpAny_throw ?_
  apply bj8
  refine wpAny_isInstance (T:="StopIteration") (b:=true) ⟨_,bl7 _ rfl,rfl⟩ isSubtype_stop ?_
  exact bk2 (no ge _ (((bx2 ..).extBut.push _).push _))
theorem ax8 (hh:A.handled=none) (ne:d ≠ it):Walks prog w A it [it,d] [it] es.size (fun i v=>∃ lt:i < es.size,es[i].key=v) (fun i h=>h.IsKeyIter it d i es.size ep/\gZ h d es ep) where
 sub:=by intro b hb; rw [bk9.mp hb]; exact bl6
 frame:=by
  intro i h h' st hk
  exact⟨st.1.at (hk it bl6),st.2.keep (hk d (bl2 _ bl6))⟩
 item:=by
  intro i s Q E lt st hQ
  refine turn hh st.1 st.2 (fun lt' h' again sb=>?_) fun ge=>absurd lt (Nat.not_lt.mpr ge)
  exact hQ _ h' s.toks ⟨lt',rfl⟩ ⟨again,st.2.keep fun o e=>sb.extBut d o ne e⟩ fun b o hb e=>sb.extBut b o (fun z=>hb (bk9.mpr z)) e
 done:=by
  intro s Q E st hQ
  refine turn hh st.1 st.2 (fun lt=>absurd lt (bt0 _)) fun _ h' eb=>?_
  exact hQ h' s.toks fun b o hb e=>eb b o (fun z=>hb (bk9.mpr z)) e
 self:=by intro i s Q E st hQ; exact wpAny_pyIter_keyiter st.1 hQ
theorem ax9 (far:(d == sysModules)=false):KdlSrc prog w "dict" d d es.size (fun i v=>∃ lt:i < es.size,es[i].key=v) (fun h=>gZ h d es ep) where
 type:=fun _ x=>x.ty
 there:=fun _ x=>⟨x.lt,x.lt⟩
 keep:=fun _ _ x k=>x.keep (k d (.inl rfl))
 notList:=by decide
 notTuple:=by decide
 hint:=fun _ _ _ _ x q=>kdl_hint_dict x.ty q
 iter:=fun _ _ hh x=>⟨_,_,fun _ _ q=>made far x q,ax8 hh (bn9 x.lt),⟨_,bl7 _ rfl,rfl,rfl⟩,x.keep fun o e=>bk0 _ e⟩
end
end Raw
namespace L2
open PySem PySem.Spec PyProof.Rows
section
variable {X : Cx} {pins : List (Addr × Obj)} {σ : St} {H : Hp} {s : Shared} {a : Addr}
def kC (H:Hp) (y:V) (k:List aM):Prop:=∃ q,y = .ref q/\H q=some (.tup (k.map kV))
theorem ay0 {kvs:List (List aM × V)} (I:a7 X pins σ H s) (h:H a=some (.dT kvs)):∃ es ep ys,Raw.gZ s.heap a es ep/\(a == sysModules)=false/\Paired (kC H) ys (kvs.map (·.1))/\aS ys (es.toList.map (·.key))/\kvs.length<=sizeLine:=by
 obtain ⟨z,far,xs,rel,o,es,ep,e1,e2,e3,e4,nd⟩:=(show c9 X.prog X.w H s.heap a (.dT kvs) from I.hok a _ h)
 refine⟨es,ep,xs.map fun q=>V.ref q.2.1,⟨o,e1,e2,e3⟩,far,?_,?_,z⟩
 ·clear e4 nd h z
  induction rel with
  | nil=>exact .nil
  | cons r rs ih=>exact .cons ⟨_,rfl,r.2.1⟩ ih
 ·rw [e4]
  clear rel e4 nd
  induction xs with
  | nil=>exact .nil
  | cons q qs ih=>exact .cons rfl ih
theorem G2 {es:Array DictEntry}{acc:Array Value} (h:ItemsOf (fun i v=>∃ lt:i < es.size,es[i].key=v) acc es.size):acc.toList=es.toList.map (·.key):=by
 apply List.ext_getElem?
 intro j
 have h1:=h.1
 by_cases hj:j < es.size
 ·have hj':j < acc.size:=by rw [h1]; exact hj
  obtain ⟨_,e⟩:=h.2 j acc[j] (by simp [hj'])
  rw [bl9]
  simp [hj,hj',e]
 ·have hj' : ¬ j < acc.size:=by rw [h1]; exact hj
  rw [bl9]
  simp [Nat.le_of_not_lt hj,Nat.le_of_not_lt hj']
end
section
variable {X : Cx}
theorem ay1:cO X (.builtin "isinstance") (fun xs H Q=>∃ x t n b,xs = [x,.ty n]/\fU X.K H x t/\PySem.W.kitOne X.K t (.type n)=some b/\Q (.bl b) H):=by
 intro pins s σ H xs us Q I r h
 obtain ⟨x,t,n,b,rfl,ty,e,q⟩:=h
 obtain ⟨u,u',rfl,ru,ru'⟩:=k9 r
 cases ru'
 exact aq9 I ru ty e fun tk=>⟨.bl b,H,I.tok tk,rfl,q⟩
end
def G3 (outer:List (Str × NameKind)) (XN:List Str) (names:List (Str × NameKind)) (N:List Str) (fr:List (Option Nat)):Bool:=
 names.all (fun y=>!(y.2 == .cell) || names.lookup y.1 == some .cell) && names.all (fun y=>!(y.2 == .local) || names.lookup y.1 == some .local) &&
 names.all (fun y=>!(y.2 == .free) || (outer.lookup y.1 == some .cell || outer.lookup y.1 == some .free)) && fr.length == N.length &&
 (fr.zip N).all (fun p=>match p.1 with
  | none=>true
  | some j=>XN[j]? == some p.2 && names.lookup p.2 == some .free)
theorem eW.of {X:Cx}{scope:Scope}{N:List Str}{fr:List (Option Nat)} (hk:scope.kind = .function) (h:G3 X.env.scope.names X.N scope.names N fr=true):eW X scope N fr:=by
 unfold G3 at h
 simp only [br1] at h
 obtain ⟨⟨⟨⟨h1,h2⟩,h3⟩,h4⟩,h5⟩:=h
 refine⟨hk,fun y hy e=>?_,fun y hy e=>?_,fun y hy e=>?_,by simpa using h4,fun i j e=>?_⟩
 ·have:=bw2.mp h1 y hy
  rw [e] at this; simpa using this
 ·have:=bw2.mp h2 y hy
  rw [e] at this; simpa using this
 ·have:=bw2.mp h3 y hy
  rw [e] at this; simpa using this
 ·have hl:fr.length=N.length:=by simpa using h4
  have hi:i < fr.length:=(bl0.mp e).1
  have m:(some j,N[i]'(by omega)) ∈ fr.zip N:=by
   have:(fr.zip N)[i]? = some (some j,N[i]'(by omega)):=by
    rw [List.getElem?_zip_eq_some]
    exact⟨e,by simp⟩
   exact br3 this
  have:=bw2.mp h5 _ m
  simp only [br1,beq_iff_eq] at this
  exact⟨N[i]'(by omega),by simp,this.1,this.2⟩
def vI (ls:List (Int × Int)) (k:Int):List Int:=ls.flatMap fun l=>(if l.1=k then [l.2] else []) ++ (if l.2=k then [l.1] else [])
theorem ay2 {α:Type}{xs:List α}{i:Int}{v:α} (h0:0<=i) (h:xs[i.toNat]? = some v):atI xs i=some v:=by
 have:=uR h
 rwa [show ((i.toNat:Nat):Int)=i by omega] at this
theorem qU {n:Nat} (h:n<=16000000):n < sizeLine:=by rw [sizeLine_eq]; omega
theorem G4 {K:PySem.W.Frag}{H:Hp}{p:Addr}{xs:List V} (h:aT K H p xs):i9 K "list" (.ref p) H:=.inl ⟨rfl,xs,h⟩
end L2
namespace Zp
open PySem PyProof.Rows
section
variable {prog : Program} {w : World} {A : Around} {E : Value → Shared → Prop} {s : Shared}
theorem G5 {it t:Addr}{i:Nat}{items:Array Value}{x:Value}{Q:Value->Shared->Prop} (hi:s.heap.IsTupleIter it t i) (ht:s.heap.IsTuple t items) (hx:items[i]? = some x)
  (q:∀ h',h'.IsTupleIter it t (i+1)->Heap.SameBut it s.heap h'->Q x { s with heap:=h' }):wpAny (model prog w) A (Builtin.SmallTypes.nextOf (.ref it)) Q E s:=by
 have T:=hi.typeIs
 obtain ⟨o,e1,e2,e3⟩:=hi
 obtain ⟨u,f1,_,k,f3⟩:=ht
 have slot:=PySem.F.slot_tuple_iterator_next
 have isref:(Value.ref t == Value.none)=false:=rfl
 unfold Builtin.SmallTypes.nextOf
 apply bj8
 apply bq6 (name:=Str.ofString "__next__") T slot
 apply br0 slot T PySem.F.entry_tuple_iterator_next _ (PySem.F.args_tuple_iterator_next_1 _)
 change wpAny _ _ (field (.ref it) 0 >>= _) _ _ s
 apply bj8
 refine bq5 e1 e3 (x:=.ref t) rfl ?_
 change wpAny _ _ (if (Value.ref t == Value.none)=true then _ else _) _ _ s
 simp only [isref,bn3,bt1]
 change wpAny _ _ (field (.ref it) 1 >>= _) _ _ s
 apply bj8
 refine bq5 e1 e3 (x:=.int i 0) rfl ?_
 change wpAny _ _ (seqItems? (.ref t) >>= _) _ _ s
 apply bj8
 apply bs9 f1 f3
 simp only [Int.toNat_natCast,hx]
 apply bj8
 refine wpAny_setField e1 e3 (by simp) ?_
 apply bk2
 refine⟨x,rfl,bk2 (q _ ⟨_,bt9 _ e1 (Obj.isFreed_of_fields (Obj.data_mapFields e3 _)),?_,?_⟩ (bx2 ..))⟩
 ·rw [Obj.cls_mapFields]; exact e2
 ·rw [Obj.data_mapFields e3]; simp [rawInt]
theorem G6 {it t:Addr}{i:Nat}{items:Array Value}{Q:Value->Shared->Prop} (hh:A.handled=none) (hi:s.heap.IsTupleIter it t i) (ht:s.heap.IsTuple t items) (hx:items[i]? = none)
  (q:∀ h' e,Heap.ExtBut it s.heap h'->(∃ o,h'.get? e=some o/\o.cls = .type "StopIteration")->E (.ref e) { s with heap:=h' }):wpAny (model prog w) A (Builtin.SmallTypes.nextOf (.ref it)) Q E s:=by
 have T:=hi.typeIs
 obtain ⟨o,e1,e2,e3⟩:=hi
 obtain ⟨u,f1,_,k,f3⟩:=ht
 have slot:=PySem.F.slot_tuple_iterator_next
 have isref:(Value.ref t == Value.none)=false:=rfl
 unfold Builtin.SmallTypes.nextOf
 apply bj8
 apply bq6 (name:=Str.ofString "__next__") T slot
 apply br0 slot T PySem.F.entry_tuple_iterator_next _ (PySem.F.args_tuple_iterator_next_1 _)
 change wpAny _ _ (field (.ref it) 0 >>= _) _ _ s
 apply bj8
 refine bq5 e1 e3 (x:=.ref t) rfl ?_
 change wpAny _ _ (if (Value.ref t == Value.none)=true then _ else _) _ _ s
 simp only [isref,bn3,bt1]
 change wpAny _ _ (field (.ref it) 1 >>= _) _ _ s
 apply bj8
 refine bq5 e1 e3 (x:=.int i 0) rfl ?_
 change wpAny _ _ (seqItems? (.ref t) >>= _) _ _ s
 apply bj8
 apply bs9 f1 f3
 simp only [Int.toNat_natCast,hx]
 apply bj8
 apply by6
 apply bj8
 refine wpAny_setField e1 e3 (by simp) ?_
 apply bj8
 simp only [newExc,newTuple]
 apply bj8
 refine bp0 ?_ (by size_fits)
 apply bj8
 refine wpAny_of_eq (a:=Value.none) (by first | rfl | (simp only [firstArgMember]; rfl)) ?_
 refine bp0 ?_ (by size_fits)
 unfold raiseNew
 apply bj8
 apply wpAny_handled
 have quiet:A.in1.handled=none:=hh
 rw [quiet]
 refine wpAny_throw ?_
 exact q _ _ (((bx2 ..).extBut.push _).push _) ⟨_,bl7 _ rfl,rfl⟩
theorem ay3 (hh:A.handled=none) (it t:Addr) (ne:t ≠ it) (items:Array Value):Draws prog w A it [it,t] items.size (fun i v=>items[i]? = some v) (fun i h=>h.IsTupleIter it t i/\h.IsTuple t items) where
 live:=fun _ _ st=>st.1.elim fun o y=>⟨o,y.1⟩
 frame:=fun _ _ _ st k=>⟨st.1.at fun o e=>k it bl6 o e,st.2.elim fun o y=>⟨o,k t (bl2 _ bl6) o y.1,y.2⟩⟩
 item:=fun i s Q E lt st q=>G5 st.1 st.2 (Array.getElem?_eq_getElem lt) fun h' again sb=>q _ h' s.toks (Array.getElem?_eq_getElem lt) ⟨again,st.2.elim fun o y=>⟨o,sb.extBut t o ne y.1,y.2⟩⟩ sb
 done:=fun s Q E st q=>G6 hh st.1 st.2 (Array.getElem?_eq_none (bl1 _)) q
end
structure Ap (z TI TO i1 i2:Addr) (fp1 fp2:List Addr):Prop where
 TIz:TI ≠ z
 TOz:TO ≠ z
 TITO:TI ≠ TO
 z1:z ∉ fp1
 z2:z ∉ fp2
 o1:TO ∉ fp1
 o2:TO ∉ fp2
 t1:TI ∉ fp1
 t2:TI ∉ fp2
 m1:i1 ∈ fp1
 m2:i2 ∈ fp2
 n1:i1 ∉ fp2
 n2:i2 ∉ fp1
structure vJ (z TI TO i1 i2:Addr) (St1 St2:Nat->Heap->Prop) (f0:Value) (i j:Nat) (h:Heap):Prop where
 zz:IsZip h z TI TO f0
 ti:IsPair h TI (.ref i1) (.ref i2)
 to_:∃ a b,IsPair h TO a b
 s1:St1 i h
 s2:St2 j h
section
variable {prog : Program} {w : World} {A : Around} {E : Value → Shared → Prop} {s : Shared} {z TI TO i1 i2 : Addr} {fp1 fp2 : List Addr} {n1 n2 : Nat} {P1 P2 : Nat → Value → Prop} {St1 St2 : Nat → Heap → Prop}
theorem mR (ap:Ap z TI TO i1 i2 fp1 fp2) {b:Addr} (h:b ∉ fp1):b ≠ i1:=fun e=>h (e ▸ ap.m1)
theorem qV (ap:Ap z TI TO i1 i2 fp1 fp2) {b:Addr} (h:b ∉ fp2):b ≠ i2:=fun e=>h (e ▸ ap.m2)
theorem item (D1:Draws prog w A.in1 i1 fp1 n1 P1 St1) (D2:Draws prog w A.in1 i2 fp2 n2 P2 St2) (ap:Ap z TI TO i1 i2 fp1 fp2) {i:Nat} (l1:i < n1) (l2:i < n2) (st:vJ z TI TO i1 i2 St1 St2 .none i i s.heap) {Q:Option Value->Shared->Prop}
  (q:∀ x y h' tk,P1 i x->P2 i y->vJ z TI TO i1 i2 St1 St2 (rawInt s.heap.objs.size) (i+1) (i+1) h'->IsPair h' s.heap.objs.size x y->(∀ c o,c ≠ z->c ≠ TO->c ≠ i1->c ≠ i2->s.heap.get? c=some o->h'.get? c=some o)->
   h'.objs.size=s.heap.objs.size+1->Q (some (.ref s.heap.objs.size)) { s with heap:=h',toks:=tk }):wpAny (model prog w) A (pyNext (.ref z)) Q E s:=by
 obtain ⟨hz,hti,⟨a,b,hto⟩,h1,h2⟩:=st
 have T:s.TypeIs (.ref z) "zip":=⟨_,hz,rfl⟩
 have slot:=PySem.F.slot_zip_next
 unfold pyNext
 apply bj8
 apply bB1
 apply bq6 (name:=Str.ofString "__next__") T slot
 apply br0 slot T PySem.F.entry_zip_next _ (PySem.F.args_zip_next_1 _)
 change wpAny _ _ (field (.ref z) 2 >>= _) _ _ _
 apply bj8
 refine bq5 hz rfl (x:=.bool false) rfl ?_
 change wpAny _ _ (field (.ref z) 3 >>= _) _ _ _
 apply bj8
 refine bq5 hz rfl (x:=.ref TI) rfl ?_
 apply bj8
 apply bs9 hti rfl
 change wpAny _ _ (Builtin.SmallTypes.ownedTupleIsFree (.ref z) >>= _) _ _ _
 apply bj8
 unfold Builtin.SmallTypes.ownedTupleIsFree
 apply bj8
 refine bq5 hz rfl (x:=.none) rfl (bk2 ?_)
 simp only [if_true]
 apply bj8
 apply by6
 apply bj8
 refine bq5 hz rfl (x:=.ref TO) rfl ?_
 apply bj8
 refine br8 hz (by simp) fun g1 hz1 sb1=>?_
 have k1:∀ c o,c ≠ z->s.heap.get? c=some o->g1.get? c=some o:=fun c o c1 e=>sb1.extBut c o c1 e
 apply bj8
 simp only [List.zipIdx_cons,List.zipIdx_nil,List.forIn_cons,List.forIn_nil]
 apply bj8
 apply bj8
 apply wpAny_onRaise
 change wpAny _ _ (Builtin.SmallTypes.nextOf (.ref i1) >>= _) _ _ _
 apply bj8
 refine D1.item i { s with heap:=g1 } _ _ l1 (D1.frame _ _ _ h1 fun c hc o e=>k1 c o (fun y=>ap.z1 (y ▸ hc)) e) fun x g2 tk2 px st1 sb2=>bk2 ?_
 have k2:∀ c o,c ≠ z->c ≠ i1->s.heap.get? c=some o->g2.get? c=some o:=fun c o c1 c2 e=>sb2.extBut c o c2 (k1 c o c1 e)
 have to2:IsPair g2 TO a b:=k2 _ _ ap.TOz (mR ap ap.o1) hto
 apply bj8
 apply bs9 to2 rfl
 apply bj8
 refine wpAny_updateSeq_pair to2 fun g3 to3 sb3=>?_
 have to3:IsPair g3 TO x b:=to3
 apply bj8
 apply bx3
 apply bk2
 apply bj8
 apply bj8
 apply wpAny_onRaise
 change wpAny _ _ (Builtin.SmallTypes.nextOf (.ref i2) >>= _) _ _ _
 apply bj8
 have k3:∀ c o,c ≠ z->c ≠ i1->c ≠ TO->s.heap.get? c=some o->g3.get? c=some o:=fun c o c1 c2 c3 e=>sb3.extBut c o c3 (k2 c o c1 c2 e)
 refine D2.item i { s with heap:=g3,toks:=tk2 } _ _ l2 (D2.frame _ _ _ h2 fun c hc o e=>k3 c o (fun y=>ap.z2 (y ▸ hc)) (fun y=>ap.n1 (y ▸ hc)) (fun y=>ap.o2 (y ▸ hc)) e) fun y g4 tk4 py st2 sb4=>bk2 ?_
 have to4:IsPair g4 TO x b:=sb4.extBut _ _ (qV ap ap.o2) to3
 apply bj8
 apply bs9 to4 rfl
 apply bj8
 refine wpAny_updateSeq_pair to4 fun g5 to5 sb5=>?_
 have to5:IsPair g5 TO x y:=to5
 apply bj8
 apply bx3
 apply bk2
 apply bk2
 apply bj8
 apply bs9 to5 rfl
 apply bj8
 refine wpAny_newTuple ?_ (by show 2<=sizeLine; decide)
 have size:g5.objs.size=s.heap.objs.size:=by rw [sb5.1,sb4.1,sb3.1,sb2.1,sb1.1]
 have k5:∀ c o,c ≠ z->c ≠ TO->c ≠ i1->c ≠ i2->s.heap.get? c=some o->g5.get? c=some o:=fun c o c1 c2 c3 c4 e=>sb5.extBut c o c2 (sb4.extBut c o c4 (k3 c o c1 c3 c2 e))
 have z5:IsZip g5 z TI TO .ellipsis:=sb5.extBut _ _ (Ne.symm ap.TOz) (sb4.extBut _ _ (qV ap ap.z2) (sb3.extBut _ _ (Ne.symm ap.TOz) (sb2.extBut _ _ (mR ap ap.z1) hz1)))
 change wpAny _ _ (Builtin.SmallTypes.ownedTupleHandOut (.ref z) (.ref g5.objs.size) >>= _) _ _ _
 apply bj8
 unfold Builtin.SmallTypes.ownedTupleHandOut
 apply bj8
 have z6:IsZip (g5.push { cls:=.type "tuple",data:=.seq #[x,y] }) z TI TO .ellipsis:=bk0 _ z5
 refine br8 z6 (by simp) fun g7 z7 sb7=>?_
 have z7:IsZip g7 z TI TO (rawInt g5.objs.size):=z7
 refine br8 z7 (by simp) fun g8 z8 sb8=>?_
 have z8:IsZip g8 z TI TO (rawInt g5.objs.size):=z8
 have zlt:z < g5.objs.size:=bl5 z5
 have up:∀ c o,c ≠ z->g5.get? c=some o->g8.get? c=some o:=fun c o c1 e=>sb8.extBut c o c1 (sb7.extBut c o c1 (bk0 _ e))
 have p8:IsPair g8 g5.objs.size x y:=sb8.extBut _ _ (bu1 zlt) (sb7.extBut _ _ (bu1 zlt) (bl7 _ rfl))
 have s8:g8.objs.size=g5.objs.size+1:=by rw [sb8.1,sb7.1,bs8]
 have f1:St1 (i+1) g8:=D1.frame _ _ _ st1 fun c hc o e=>up c o (fun y=>ap.z1 (y ▸ hc)) (sb5.extBut c o (fun y=>ap.o1 (y ▸ hc)) (sb4.extBut c o (fun y=>ap.n2 (y ▸ hc)) (sb3.extBut c o (fun y=>ap.o1 (y ▸ hc)) e)))
 have f2:St2 (i+1) g8:=D2.frame _ _ _ st2 fun c hc o e=>up c o (fun y=>ap.z2 (y ▸ hc)) (sb5.extBut c o (fun y=>ap.o2 (y ▸ hc)) e)
 have ti8:IsPair g8 TI (.ref i1) (.ref i2):=up _ _ ap.TIz (k5 _ _ ap.TIz ap.TITO (mR ap ap.t1) (qV ap ap.t2) hti)
 rw [size] at z8 p8 s8
 apply bk2
 refine⟨_,rfl,bk2 ?_⟩
 change Q (some (.ref g5.objs.size)) _
 rw [size]
 exact q x y g8 tk4 px py ⟨z8,ti8,⟨x,y,up _ _ ap.TOz to5⟩,f1,f2⟩ p8 (fun c o c1 c2 c3 c4 e=>up c o c1 (k5 c o c1 c2 c3 c4 e)) s8
theorem fin (D1:Draws prog w A.in1 i1 fp1 n1 P1 St1) (D2:Draws prog w A.in1 i2 fp2 n2 P2 St2) (ap:Ap z TI TO i1 i2 fp1 fp2) {i:Nat} (le:i=n1 ∨ (i < n1/\i=n2)) (st:vJ z TI TO i1 i2 St1 St2 .none i i s.heap) {Q:Option Value->Shared->Prop}
  (q:∀ h' tk,(∀ c o,c ≠ z->c ≠ TO->c ≠ i1->c ≠ i2->s.heap.get? c=some o->h'.get? c=some o)->Q none { s with heap:=h',toks:=tk }):wpAny (model prog w) A (pyNext (.ref z)) Q E s:=by
 obtain ⟨hz,hti,⟨a,b,hto⟩,h1,h2⟩:=st
 have T:s.TypeIs (.ref z) "zip":=⟨_,hz,rfl⟩
 have slot:=PySem.F.slot_zip_next
 unfold pyNext
 apply bj8
 apply bB1
 apply bq6 (name:=Str.ofString "__next__") T slot
 apply br0 slot T PySem.F.entry_zip_next _ (PySem.F.args_zip_next_1 _)
 change wpAny _ _ (field (.ref z) 2 >>= _) _ _ _
 apply bj8
 refine bq5 hz rfl (x:=.bool false) rfl ?_
 change wpAny _ _ (field (.ref z) 3 >>= _) _ _ _
 apply bj8
 refine bq5 hz rfl (x:=.ref TI) rfl ?_
 apply bj8
 apply bs9 hti rfl
 change wpAny _ _ (Builtin.SmallTypes.ownedTupleIsFree (.ref z) >>= _) _ _ _
 apply bj8
 unfold Builtin.SmallTypes.ownedTupleIsFree
 apply bj8
 refine bq5 hz rfl (x:=.none) rfl (bk2 ?_)
 simp only [if_true]
 apply bj8
 apply by6
 apply bj8
 refine bq5 hz rfl (x:=.ref TO) rfl ?_
 apply bj8
 refine br8 hz (by simp) fun g1 hz1 sb1=>?_
 have k1:∀ c o,c ≠ z->s.heap.get? c=some o->g1.get? c=some o:=fun c o c1 e=>sb1.extBut c o c1 e
 apply bj8
 simp only [List.zipIdx_cons,List.zipIdx_nil,List.forIn_cons,List.forIn_nil]
 apply bj8
 apply bj8
 apply wpAny_onRaise
 change wpAny _ _ (Builtin.SmallTypes.nextOf (.ref i1) >>= _) _ _ _
 apply bj8
 have z1:IsZip g1 z TI TO .ellipsis:=hz1
 rcases le with rfl | ⟨lt,rfl⟩
 ·refine D1.done { s with heap:=g1 } _ _ (D1.frame _ _ _ h1 fun c hc o e=>k1 c o (fun y=>ap.z1 (y ▸ hc)) e) fun g2 e eb ex=>?_
  have z2:IsZip g2 z TI TO .ellipsis:=eb _ _ (mR ap ap.z1) z1
  refine br8 z2 (by simp) fun g3 z3 sb3=>?_
  obtain ⟨oe,eo,co⟩:=ex
  have ne:e ≠ z:=fun y=>by
   rw [y,z2] at eo
   have:=bn1 eo
   rw [<- this] at co; exact absurd (show Value.type "zip" = Value.type "StopIteration" from co) (by decide)
  apply bj8
  refine wpAny_isInstance (T:="StopIteration") (b:=true) ⟨oe,sb3.extBut _ _ ne eo,co⟩ isSubtype_stop ?_
  exact bk2 (q g3 s.toks fun c o c1 _ c3 _ e=>sb3.extBut c o c1 (eb c o c3 (k1 c o c1 e)))
 ·refine D1.item i { s with heap:=g1 } _ _ lt (D1.frame _ _ _ h1 fun c hc o e=>k1 c o (fun y=>ap.z1 (y ▸ hc)) e) fun x g2 tk2 px st1 sb2=>bk2 ?_
  have k2:∀ c o,c ≠ z->c ≠ i1->s.heap.get? c=some o->g2.get? c=some o:=fun c o c1 c2 e=>sb2.extBut c o c2 (k1 c o c1 e)
  have to2:IsPair g2 TO a b:=k2 _ _ ap.TOz (mR ap ap.o1) hto
  apply bj8
  apply bs9 to2 rfl
  apply bj8
  refine wpAny_updateSeq_pair to2 fun g3 to3 sb3=>?_
  apply bj8
  apply bx3
  apply bk2
  apply bj8
  apply bj8
  apply wpAny_onRaise
  change wpAny _ _ (Builtin.SmallTypes.nextOf (.ref i2) >>= _) _ _ _
  apply bj8
  have k3:∀ c o,c ≠ z->c ≠ i1->c ≠ TO->s.heap.get? c=some o->g3.get? c=some o:=fun c o c1 c2 c3 e=>sb3.extBut c o c3 (k2 c o c1 c2 e)
  refine D2.done { s with heap:=g3,toks:=tk2 } _ _ (D2.frame _ _ _ h2 fun c hc o e=>k3 c o (fun y=>ap.z2 (y ▸ hc)) (fun y=>ap.n1 (y ▸ hc)) (fun y=>ap.o2 (y ▸ hc)) e) fun g4 e eb ex=>?_
  have z4:IsZip g4 z TI TO .ellipsis:=eb _ _ (qV ap ap.z2) (sb3.extBut _ _ (Ne.symm ap.TOz) (sb2.extBut _ _ (mR ap ap.z1) z1))
  refine br8 z4 (by simp) fun g5 z5 sb5=>?_
  obtain ⟨oe,eo,co⟩:=ex
  have ne:e ≠ z:=fun y=>by
   rw [y,z4] at eo
   have:=bn1 eo
   rw [<- this] at co; exact absurd (show Value.type "zip" = Value.type "StopIteration" from co) (by decide)
  apply bj8
  refine wpAny_isInstance (T:="StopIteration") (b:=true) ⟨oe,sb5.extBut _ _ ne eo,co⟩ isSubtype_stop ?_
  exact bk2 (q g5 tk2 fun c o c1 c2 c3 c4 e=>sb5.extBut c o c1 (eb c o c4 (k3 c o c1 c3 c2 e)))
end
def gJ (h:Heap) (t u:Addr):Heap:=
 ((((h.push { cls:=.type "tuple_iterator",data:=.fields #[.ref t,.int 0 0] }).push { cls:=.type "tuple_iterator",data:=.fields #[.ref u,.int 0 0] }).push { cls:=.type "tuple",data:=.seq #[.ref h.objs.size,.ref (h.objs.size+1)] }).push
  { cls:=.type "tuple",data:=.seq #[.none,.none] }).push { cls:=.type "zip",data:=.fields #[.none,.bool false,.bool false,.ref (h.objs.size+2),.ref (h.objs.size+3)] }
theorem ay4 (t u:Addr) (xs ys:Array Value):Meets (Builtin.«zip.__new__» ⟨[.type "zip",.ref t,.ref u],[]⟩) (fun _ R s=>s.heap.IsTuple t xs/\s.heap.IsTuple u ys/\R (.ok (.ret (.ref (s.heap.objs.size+4)))) { s with heap:=gJ s.heap t u }):=
 .of_wp fun prog w A R s h=>by
  obtain ⟨hp,g,d,tk,os⟩:=s
  obtain ⟨ht,hu,h⟩:=h
  have sub:=sub_zip
  have a1:Heap.IsTuple (Shared.heap ⟨hp,g,d,tk,os⟩) t xs:=ht
  have a2:Heap.IsTuple (Shared.heap ⟨hp.push { cls:=.type "tuple_iterator",data:=.fields #[.ref t,.int 0 0] },g,d,tk,os⟩) u ys:=hu.elim fun o y=>⟨o,bk0 _ y.1,y.2⟩
  wp_walk using bx6 a1,bx6 a2
  have e:∀ (o:Obj) (k:Heap),(k.push o).objs.size=k.objs.size+1:=fun o k=>bs8 ..
  refine⟨_,rfl,?_⟩
  simp only [gJ,e] at h ⊢
  exact h
section
variable {prog : Program} {w : World} {A : Around} {E : Value → Shared → Prop} {s : Shared}
theorem ay5 {t u:Addr}{xs ys:Array Value}{Q:Value->Shared->Prop} (ht:s.heap.IsTuple t xs) (hu:s.heap.IsTuple u ys)
  (q:∀ h',IsZip h' (s.heap.objs.size+4) (s.heap.objs.size+2) (s.heap.objs.size+3) .none->IsPair h' (s.heap.objs.size+2) (.ref s.heap.objs.size) (.ref (s.heap.objs.size+1))->
   IsPair h' (s.heap.objs.size+3) .none .none->h'.IsTupleIter s.heap.objs.size t 0->h'.IsTupleIter (s.heap.objs.size+1) u 0->(∀ c o,s.heap.get? c=some o->h'.get? c=some o)->Q (.ref (s.heap.objs.size+4)) { s with heap:=h' }) :
  wpAny (model prog w) A (call (.type "zip") [.ref t,.ref u]) Q E s:=by
 refine callType_new PySem.F.called_zip (by decide) (PySem.F.typeCall_zip_2 _ _) (PySem.F.newCall_zip_2 _ _) (fun obj=>PySem.F.args_object_init_3 obj _ _) PySem.F.entry_zip_new (ay4 t u xs ys) ⟨ht,hu,?_⟩
 have e:∀ (o:Obj) (k:Heap),(k.push o).objs.size=k.objs.size+1:=fun o k=>bs8 ..
 have p0:∀ (k:Heap) (o:Obj) (m:Nat),o.isFreed=false->m=k.objs.size->(k.push o).get? m=some o:=fun k o m f z=>by rw [z]; exact bl7 _ f
 have g0:(gJ s.heap t u).get? s.heap.objs.size=some { cls:=.type "tuple_iterator",data:=.fields #[.ref t,.int 0 0] }:=by
  unfold gJ
  exact bk0 _ (bk0 _ (bk0 _ (bk0 _ (p0 _ _ _ rfl rfl))))
 have g1:(gJ s.heap t u).get? (s.heap.objs.size+1)=some { cls:=.type "tuple_iterator",data:=.fields #[.ref u,.int 0 0] }:=by
  unfold gJ
  exact bk0 _ (bk0 _ (bk0 _ (p0 _ _ _ rfl (by simp only [e]))))
 have g2:(gJ s.heap t u).get? (s.heap.objs.size+2)=some { cls:=.type "tuple",data:=.seq #[.ref s.heap.objs.size,.ref (s.heap.objs.size+1)] }:=by
  unfold gJ
  exact bk0 _ (bk0 _ (p0 _ _ _ rfl (by simp only [e])))
 have g3:(gJ s.heap t u).get? (s.heap.objs.size+3)=some { cls:=.type "tuple",data:=.seq #[.none,.none] }:=by
  unfold gJ
  exact bk0 _ (p0 _ _ _ rfl (by simp only [e]))
 have g4:(gJ s.heap t u).get? (s.heap.objs.size+4)=some { cls:=.type "zip",data:=.fields #[.none,.bool false,.bool false,.ref (s.heap.objs.size+2),.ref (s.heap.objs.size+3)] }:=by
  unfold gJ
  exact p0 _ _ _ rfl (by simp only [e])
 refine⟨⟨_,g4,rfl⟩,q _ g4 g2 g3 ⟨_,g0,rfl,rfl⟩ ⟨_,g1,rfl,rfl⟩ fun c o z=>?_⟩
 unfold gJ
 exact bk0 _ (bk0 _ (bk0 _ (bk0 _ (bk0 _ z))))
end
end Zp
namespace L2
open PySem PySem.Spec PyProof.Rows
def vK (K:PySem.W.Frag) (a b:Addr):It:=
  ⟨fun i H=>∃ xs ys x y,aU K H a xs/\aU K H b ys/\xs[i]? = some x/\ys[i]? = some y,
   fun i H v H'=>∃ T x y,H T=none/\v = .ref T/\H'=upd H T (.tup [x,y])/\∀ xs ys,aU K H a xs->aU K H b ys->xs[i]? = some x/\ys[i]? = some y,
   fun i H=>∃ xs ys,aU K H a xs/\aU K H b ys/\(i=xs.length ∨ (i < xs.length/\i=ys.length))⟩
def Sq (t:Bool) (K:PySem.W.Frag) (H:Hp) (a:Addr) (xs:List V):Prop:=match t with
 | true=>aU K H a xs
 | false=>aT K H a xs
def gK (t:Bool) (h:Heap) (i a:Addr) (n:Nat):Prop:=match t with
 | true=>h.IsTupleIter i a n
 | false=>h.IsListIter i a n
def G7 (t:Bool) (h:Heap) (a:Addr) (xs:Array Value):Prop:=match t with
 | true=>h.IsTuple a xs
 | false=>h.IsList a xs
theorem gK.at {h h':Heap}{i a:Addr}{n:Nat}:∀ {t:Bool},gK t h i a n->(∀ o,h.get? i=some o->h'.get? i=some o)->gK t h' i a n
 | true,x,k=>Heap.IsTupleIter.at x k
 | false,x,k=>Heap.IsListIter.at x k
theorem gK.ob {h:Heap}{i a:Addr}{n:Nat}:∀ {t:Bool},gK t h i a n->∃ o,h.get? i=some o/\∀ v,o.data ≠ .cell v
 | true,⟨o,f,_,d⟩=>⟨o,f,fun v q=>by rw [d] at q; cases q⟩
 | false,⟨o,f,_,d⟩=>⟨o,f,fun v q=>by rw [d] at q; cases q⟩
theorem gK.draws {prog:Program}{w:World}{A:Around}:∀ (t:Bool) (hh:A.handled=none) (it a:Addr) (ne:a ≠ it) (items:Array Value),Draws prog w A it [it,a] items.size (fun i v=>items[i]? = some v) (fun i h=>gK t h it a i/\G7 t h a items)
 | true,hh,it,a,ne,items=>Zp.ay3 hh it a ne items
 | false,hh,it,a,ne,items=>Draws.list hh it a ne items
section
variable {X : Cx} {pins : List (Addr × Obj)} {σ : St} {H : Hp} {s : Shared} {a : Addr} {xs ys : List V}
theorem Sq.get (I:a7 X pins σ H s):∀ {t:Bool},Sq t X.K H a xs->∃ us,aS xs us/\G7 t s.heap a us.toArray
 | true,h=>by obtain ⟨us,r,p,_⟩:=I.tuple h; exact⟨us,r,p⟩
 | false,h=>by obtain ⟨us,r,p,_⟩:=I.list h; exact⟨us,r,p.isList⟩
theorem Sq.inj (I:a7 X pins σ H s):∀ {t:Bool},Sq t X.K H a xs->Sq t X.K H a ys->xs=ys
 | true,h,g=>I.tuple_inj h g
 | false,h,g=>I.list_inj h g
theorem Sq.off (I:a7 X pins σ H s) (he:H a=none) (hb:X.base.get? a=none):∀ {t:Bool},Sq t X.K H a xs->False
 | true,h=>by
  rcases h with (h | ⟨_,h⟩) | ⟨o,_,_,h,_⟩
  ·rw [he] at h; cases h
  ·rw [he] at h; cases h
  ·have:=I.ok.mod.kin a o h
   rw [hb] at this; cases this
 | false,h=>by
  rcases h with (h | ⟨_,h⟩) | ⟨o,_,_,h,_⟩
  ·rw [he] at h; cases h
  ·rw [he] at h; cases h
  ·have:=I.ok.mod.kin a o h
   rw [hb] at this; cases this
end
def ay6 (t1 t2:Bool) (K:PySem.W.Frag) (a b:Addr):It:=
  ⟨fun i H=>∃ xs ys x y,Sq t1 K H a xs/\Sq t2 K H b ys/\xs[i]? = some x/\ys[i]? = some y,
   fun i H v H'=>∃ T x y,H T=none/\v = .ref T/\H'=upd H T (.tup [x,y])/\∀ xs ys,Sq t1 K H a xs->Sq t2 K H b ys->xs[i]? = some x/\ys[i]? = some y,
   fun i H=>∃ xs ys,Sq t1 K H a xs/\Sq t2 K H b ys/\(i=xs.length ∨ (i < xs.length/\i=ys.length))⟩
structure vL (t1 t2:Bool) (z TI TO i1 i2 a b:Addr) (i:Nat) (h:Heap):Prop where
 zz:IsZip h z TI TO .none
 ti:IsPair h TI (.ref i1) (.ref i2)
 to_:∃ x y,IsPair h TO x y
 s1:gK t1 h i1 a i
 s2:gK t2 h i2 b i
theorem G8 (t1 t2:Bool) {P:Program}{w:World}{K:PySem.W.Frag}{elts:List Expr}{k:Nat}{pos:Pos} (a b z TI TO i1 i2:Addr) (d : [z,TI,TO,i1,i2].Nodup) :
  iN P w K (.Tuple elts k pos) (ay6 t1 t2 K a b) [z,TI,TO,i1,i2] z (vL t1 t2 z TI TO i1 i2 a b):=by
 have nd:z ≠ TI/\z ≠ TO/\z ≠ i1/\z ≠ i2/\TI ≠ TO/\TI ≠ i1/\TI ≠ i2/\TO ≠ i1/\TO ≠ i2/\i1 ≠ i2:=by
  simp only [bv9,bk6,bl4,bo6,not_or] at d
  obtain ⟨⟨a1,a2,a3,a4⟩,⟨b1,b2,b3⟩,⟨c1,c2⟩,e1,_⟩:=d
  exact⟨a1,a2,a3,a4,b1,b2,b3,c1,c2,e1⟩
 obtain ⟨n1,n2,n3,n4,n5,n6,n7,n8,n9,n10⟩:=nd
 have offBase:∀ {X:Cx}{pins:List (Addr × Obj)}{σ:St}{H:Hp}{s:Shared},a7 X pins σ H s->(∀ c ∈ [z,TI,TO,i1,i2],gG X pins H c)->∀ c ∈ [z,TI,TO,i1,i2],X.base.get? c=none:=by
  intro X pins σ H s I hf c hc
  cases q:X.base.get? c with
  | none=>rfl
  | some o=>
   rcases (hf c hc).2.2.2.1 with h | h
   ·exact absurd h (I.ok.noex c o q)
   ·exact absurd (bl8 (bl5 q) (bo3 I.ok.bsz h)) (bt0 _)
 have off:∀ {t:Bool}{X:Cx}{pins:List (Addr × Obj)}{σ:St}{H:Hp}{s:Shared}{c:Addr}{zs:List V},a7 X pins σ H s->(∀ c ∈ [z,TI,TO,i1,i2],gG X pins H c)->Sq t X.K H c zs->c ∉ [z,TI,TO,i1,i2]:=by
  intro t X pins σ H s c zs I hf hc hm
  exact Sq.off I (hf c hm).1 (offBase I hf c hm) hc
 have ap:∀ {c e:Addr},c ∉ [z,TI,TO,i1,i2]->e ∉ [z,TI,TO,i1,i2]->Zp.Ap z TI TO i1 i2 [i1,c] [i2,e]:=fun {c e} hc he=>by
  simp only [bk6,bl4,bo6,not_or] at hc he
  obtain ⟨c1,c2,c3,c4,c5⟩:=hc
  obtain ⟨e1,e2,e3,e4,e5⟩:=he
  have two:∀ {q u v:Addr},q ≠ u->q ≠ v->q ∉ [u,v]:=fun {q u v} h1 h2 hm=>by
   simp only [bk6,bl4,bo6] at hm
   exact hm.elim h1 h2
  exact⟨n1.symm,n2.symm,n5,two n3 (Ne.symm c1),two n4 (Ne.symm e1),two n8 (Ne.symm c3),two n9 (Ne.symm e3),two n6 (Ne.symm c2),two n7 (Ne.symm e2),bl6,bl6,two n10 (Ne.symm e4),two n10.symm (Ne.symm c5)⟩
 refine⟨by simp,fun i h st c hc=>?_,fun i h h' st kp=>?_,?_,?_,fun A i s Q E st q=>wpAny_pyIter_zip st.zz q⟩
 ·simp only [bk6,bl4,bo6] at hc
  obtain ⟨x,y,to⟩:=st.to_
  rcases hc with rfl | rfl | rfl | rfl | rfl
  ·exact⟨_,st.zz,fun v q=>by cases q⟩
  ·exact⟨_,st.ti,fun v q=>by cases q⟩
  ·exact⟨_,to,fun v q=>by cases q⟩
  ·exact st.s1.ob
  ·exact st.s2.ob
 ·obtain ⟨x,y,to⟩:=st.to_
  exact⟨kp z (by simp) _ st.zz,kp TI (by simp) _ st.ti,⟨x,y,kp TO (by simp) _ to⟩,st.s1.at fun o e=>kp i1 (by simp) o e,st.s2.at fun o e=>kp i2 (by simp) o e⟩
 ·
  intro X hP hw hK hc i pins s σ H E I hf st hg
  subst hP hw hK
  obtain ⟨xs,ys,x,y,ha,hb,hx,hy⟩:=hg
  obtain ⟨us,ru,pu⟩:=Sq.get I ha
  obtain ⟨vs,rv,pv'⟩:=Sq.get I hb
  obtain ⟨ux,eux,rux⟩:=ru.get hx
  obtain ⟨vy,evy,rvy⟩:=rv.get hy
  have fa:=off I hf ha
  have fb:=off I hf hb
  have hh:X.A.in1.handled=none:=I.ok.hd hc
  have l1:i < us.toArray.size:=by simpa using (bl0.mp eux).1
  have l2:i < vs.toArray.size:=by simpa using (bl0.mp evy).1
  have fa':a ≠ i1:=fun q=>fa (by rw [q]; simp)
  have fb':b ≠ i2:=fun q=>fb (by rw [q]; simp)
  have D1:=gK.draws t1 (prog:=X.prog) (w:=X.w) hh i1 a fa' us.toArray
  have D2:=gK.draws t2 (prog:=X.prog) (w:=X.w) hh i2 b fb' vs.toArray
  refine Zp.item D1 D2 (ap fa fb) l1 l2 ⟨st.zz,st.ti,st.to_,⟨st.s1,pu⟩,⟨st.s2,pv'⟩⟩ fun p q h' tk hp hq st' pr kp sz=>⟨_,rfl,?_⟩
  obtain rfl:p=ux:=by
   have:us.toArray[i]? = some ux:=by simpa using eux
   rw [this] at hp; exact (bn1 hp).symm
  obtain rfl:q=vy:=by
   have:vs.toArray[i]? = some vy:=by simpa using evy
   rw [this] at hq; exact (bn1 hq).symm
  refine wpAny_letOwnedTupleGo_zip (s:={ s with heap:=h',toks:=tk }) st'.zz fun g zz sb=>?_
  have hzl:z < s.heap.objs.size:=bl5 st.zz
  have up:∀ c o,c ≠ z->c ≠ TO->c ≠ i1->c ≠ i2->s.heap.get? c=some o->g.get? c=some o:=fun c o c1 c2 c3 c4 e=>sb.extBut c o c1 (kp c o c1 c2 c3 c4 e)
  have hT:H s.heap.objs.size=none:=I.hok.fresh (bl1 _)
  have prG:IsPair g s.heap.objs.size p q:=sb.extBut _ _ (bu1 hzl) pr
  have fpn:∀ c u,H c=some u->c ∉ [z,TI,TO,i1,i2]:=fun c u e hm=>by rw [(hf c hm).1] at e; cases e
  have upH:∀ c o u,H c=some u->s.heap.get? c=some o->g.get? c=some o:=fun c o u e z=>by
   have:=fpn c u e
   simp only [bk6,bl4,bo6,not_or] at this
   exact up c o this.1 this.2.2.1 this.2.2.2.1 this.2.2.2.2 z
  have ns:∀ m,s.heap.Ns X.env.locals m->g.Ns X.env.locals m:=fun m hm=>by
   obtain ⟨o,es,ep,e1,e2⟩:=hm
   exact⟨o,es,ep,up _ o (Ne.symm (hf z (by simp)).2.1) (Ne.symm (hf TO (by simp)).2.1) (Ne.symm (hf i1 (by simp)).2.1) (Ne.symm (hf i2 (by simp)).2.1) e1,e2⟩
  have I2:a7 X pins σ (upd H s.heap.objs.size (.tup [x,y])) { s with heap:=g,toks:=tk }:=by
   refine I.step (g':=s.gens) (d':=s.drawn) (ch:=[z,TO,i1,i2]) (fun c hc'=>?_) (fun c o _ _ hc' e _=>?_) (fun c o _ _ hc' e _=>⟨o.slots,?_⟩) (fun c o _ e n=>?_) (fun c o hc' e=>⟨o,?_⟩)
    (fun c zs e=>by rw [aZ (dG e hT)]; exact e) (fun c u zs e=>by rw [aZ (dG e hT)]; exact e) (fun c ps e=>⟨#[],by rw [aZ (dG e hT),e]; simp⟩) ns (fun c u e=>?_) I.bare
   ·have hm:c ∈ [z,TI,TO,i1,i2]:=by
     simp only [bk6,bl4,bo6] at hc' ⊢
     rcases hc' with h | h | h | h <;> simp [h]
    exact⟨(hf c hm).2.2.2.1,(hf c hm).2.1,(hf c hm).2.2.2.2.1,(hf c hm).2.2.2.2.2⟩
   ·simp only [bk6,bl4,bo6,not_or] at hc'
    exact up c o hc'.1 hc'.2.1 hc'.2.2.1 hc'.2.2.2 e
   ·simp only [bk6,bl4,bo6,not_or] at hc'
    exact up c o hc'.1 hc'.2.1 hc'.2.2.1 hc'.2.2.2 e
   ·rw [aZ (bn9 (bl5 e))]; exact n
   ·simp only [bk6,bl4,bo6,not_or] at hc'
    exact up c o hc'.1 hc'.2.1 hc'.2.2.1 hc'.2.2.2 e
   ·by_cases hcT:c=s.heap.objs.size
    ·subst hcT
     rw [cH] at e; cases e
     exact⟨by show 2<=sizeLine; decide,[p,q],.cons rux (.cons rvy .nil),⟨_,prG,rfl,_,rfl⟩,fun u e=>by rw [prG] at e; cases e; rfl⟩
    ·rw [aZ hcT] at e
     refine (I.hok c u e).stay (fun c' o' hc2 q'=>?_) (fun c' q'=>by rw [aZ (dG q' hT)]; exact q') fun c' zs q'=>by rw [aZ (dG q' hT)]; exact q'
     rcases hc2 with rfl | hc2
     ·exact upH _ _ _ e q'
     ·exact upH _ _ _ hc2 q'
  obtain ⟨x',y',to'⟩:=st'.to_
  refine⟨.ref s.heap.objs.size,_,I2,rfl,⟨_,x,y,hT,rfl,rfl,fun xs' ys' ha' hb'=>?_⟩,⟨zz,sb.extBut _ _ n1.symm st'.ti,⟨x',y',sb.extBut _ _ n2.symm to'⟩,st'.s1.1.at fun o e=>sb.extBut _ o n3.symm e,st'.s2.1.at fun o e=>sb.extBut _ o n4.symm e⟩,fun c hc'=>?_⟩
  ·rw [Sq.inj I ha' ha,Sq.inj I hb' hb]; exact⟨hx,hy⟩
  ·obtain ⟨o,e,_⟩:∃ o,s.heap.get? c=some o/\True:=by
    simp only [bk6,bl4,bo6] at hc'
    obtain ⟨x2,y2,to2⟩:=st.to_
    obtain ⟨o1,f1,_⟩:=st.s1.ob
    obtain ⟨o2,f2,_⟩:=st.s2.ob
    rcases hc' with rfl | rfl | rfl | rfl | rfl
    ·exact⟨_,st.zz,trivial⟩
    ·exact⟨_,st.ti,trivial⟩
    ·exact⟨_,to2,trivial⟩
    ·exact⟨_,f1,trivial⟩
    ·exact⟨_,f2,trivial⟩
   rw [aZ (bn9 (bl5 e))]; exact (hf c hc').1
 ·
  intro X hP hw hK hc i pins s σ H E I hf st hg
  subst hP hw hK
  obtain ⟨xs,ys,ha,hb,hi⟩:=hg
  obtain ⟨us,ru,pu⟩:=Sq.get I ha
  obtain ⟨vs,rv,pv'⟩:=Sq.get I hb
  have fa:=off I hf ha
  have fb:=off I hf hb
  have hh:X.A.in1.handled=none:=I.ok.hd hc
  have fa':a ≠ i1:=fun q=>fa (by rw [q]; simp)
  have fb':b ≠ i2:=fun q=>fb (by rw [q]; simp)
  have D1:=gK.draws t1 (prog:=X.prog) (w:=X.w) hh i1 a fa' us.toArray
  have D2:=gK.draws t2 (prog:=X.prog) (w:=X.w) hh i2 b fb' vs.toArray
  have e1:=ru.length
  have e2:=rv.length
  refine Zp.fin D1 D2 (ap fa fb) (by simp only [bk3]; omega) ⟨st.zz,st.ti,st.to_,⟨st.s1,pu⟩,⟨st.s2,pv'⟩⟩ fun g tk kp=>⟨rfl,?_⟩
  have fpn:∀ c u,H c=some u->c ∉ [z,TI,TO,i1,i2]:=fun c u e hm=>by rw [(hf c hm).1] at e; cases e
  have upH:∀ c o u,H c=some u->s.heap.get? c=some o->g.get? c=some o:=fun c o u e z=>by
   have:=fpn c u e
   simp only [bk6,bl4,bo6,not_or] at this
   exact kp c o this.1 this.2.2.1 this.2.2.2.1 this.2.2.2.2 z
  have ns:∀ m,s.heap.Ns X.env.locals m->g.Ns X.env.locals m:=fun m hm=>by
   obtain ⟨o,es,ep,e1,e2⟩:=hm
   exact⟨o,es,ep,kp _ o (Ne.symm (hf z (by simp)).2.1) (Ne.symm (hf TO (by simp)).2.1) (Ne.symm (hf i1 (by simp)).2.1) (Ne.symm (hf i2 (by simp)).2.1) e1,e2⟩
  refine I.step (g':=s.gens) (d':=s.drawn) (ch:=[z,TO,i1,i2]) (fun c hc'=>?_) (fun c o _ _ hc' e _=>?_) (fun c o _ _ hc' e _=>⟨o.slots,?_⟩) (fun c o _ e n=>n) (fun c o hc' e=>⟨o,?_⟩)
   (fun c zs e=>e) (fun c u zs e=>e) (fun c ps e=>⟨#[],by rw [e]; simp⟩) ns (fun c u e=>?_) I.bare
  ·have hm:c ∈ [z,TI,TO,i1,i2]:=by
    simp only [bk6,bl4,bo6] at hc' ⊢
    rcases hc' with h | h | h | h <;> simp [h]
   exact⟨(hf c hm).2.2.2.1,(hf c hm).2.1,(hf c hm).2.2.2.2.1,(hf c hm).2.2.2.2.2⟩
  ·simp only [bk6,bl4,bo6,not_or] at hc'
   exact kp c o hc'.1 hc'.2.1 hc'.2.2.1 hc'.2.2.2 e
  ·simp only [bk6,bl4,bo6,not_or] at hc'
   exact kp c o hc'.1 hc'.2.1 hc'.2.2.1 hc'.2.2.2 e
  ·simp only [bk6,bl4,bo6,not_or] at hc'
   exact kp c o hc'.1 hc'.2.1 hc'.2.2.1 hc'.2.2.2 e
  ·refine (I.hok c u e).stay (fun c' o' hc2 q'=>?_) (fun _ q'=>q') fun _ _ q'=>q'
   rcases hc2 with rfl | hc2
   ·exact upH _ _ _ e q'
   ·exact upH _ _ _ hc2 q'
abbrev ay7:=vL true true
theorem ay8 {P:Program}{w:World}{K:PySem.W.Frag}{elts:List Expr}{k:Nat}{pos:Pos} (a b z TI TO i1 i2:Addr) (d : [z,TI,TO,i1,i2].Nodup) :
  iN P w K (.Tuple elts k pos) (vK K a b) [z,TI,TO,i1,i2] z (ay7 z TI TO i1 i2 a b):=G8 true true a b z TI TO i1 i2 d
section
variable {X : Cx}
theorem ay9 (hc:X.calm=true):cO X (.builtin "all") (fun xs H Q=>∃ (a:Addr) (bs:List Bool),xs = [.ref a]/\aT X.K H a (bs.map V.bl)/\Q (.bl (bs.all id)) H):=by
 intro pins s σ H xs us Q I r h
 obtain ⟨a,bs,rfl,hq,q⟩:=h
 obtain ⟨u,rfl,ru⟩:=gU r
 cases ru
 obtain ⟨its,rv,p,hz⟩:=I.list hq
 have hl:=rv.length
 rw [bk8] at hl
 have hlt:a < s.heap.objs.size:=by obtain ⟨o,e,_⟩:=p.isList; exact bl5 e
 refine call_all_walk (wpAny_pyIter_list p.isList ?_)
 have hh:X.A.in1.handled=none:=I.ok.hd hc
 refine⟨s.heap.objs.size,_,_,_,_,_,fun i=>bs.getD i false,rfl,Walks.list hh s.heap.objs.size a (bn9 hlt) its.toArray,⟨⟨_,bl7 _ rfl,rfl,rfl⟩,p.isList.push _⟩,?_,fun h' tk kp=>?_⟩
 ·intro i v s' Q' E' hP hQ'
  have hi:its[i]? = some v:=by simpa using hP
  have hil:i < bs.length:=by rw [hl]; exact (bl0.mp hi).1
  obtain ⟨u,e1,e2⟩:=rv.get (i:=i) (x:=.bl bs[i]) (by simp [hil])
  rw [hi] at e1; cases e1
  cases e2
  have:bs.getD i false=bs[i]:=by rw [bm3,bk5 hil]; rfl
  have hQ2:Q' (bs.getD i false) s':=hQ'
  rw [this] at hQ2
  exact bq1 hQ2
 ·have all_eq:(List.range its.toArray.size).all (fun i=>bs.getD i false)=bs.all id:=by
   rw [bk3,<- hl]
   clear q rv hz hl hq hlt p hh kp
   induction bs with
   | nil=>rfl
   | cons b r ih=>
    rw [bp1,List.range_succ_eq_map,bB2,List.all_map,bB2,<- ih]
    rfl
  rw [all_eq]
  refine⟨.bl (bs.all id),H,I.kept (t':=tk) (h':=h') fun b o e=>kp b o (fun z=>?_) (bk0 _ e),rfl,q⟩
  rw [bk9.mp z] at e
  exact absurd (bl5 e) (bt0 _)
end
end L2
namespace HT
open PySem PyProof.Rows
section
variable {prog : Program} {w : World} {A : Around} {E : Value → Shared → Prop} {s : Shared}
theorem az0 {t sl:Addr}{items:Array Value}{vl vu:Value}{lo hi:Option Int}{Q:Value->Shared->Prop} (ht:IsTup s.heap t items) (hs:s.heap.IsSliceOf sl vl vu .none) (pl:IsPart vl lo) (pu:IsPart vu hi)
  (h1:b6 items.size 0 lo=0) (h2:b6 items.size items.size hi=items.size) (h:Q (.ref t) s):wpAny (model prog w) A (getItem (.ref t) (.ref sl)) Q E s:=by
 obtain ⟨o,e1,e2,e3⟩:=id hs
 have T:s.TypeIs (.ref sl) "slice":=⟨o,e1,e2⟩
 unfold getItem
 try with_reducible refine br7 ?_
 first | refine bj8 (bk2 ?_) | skip
 apply bj8
 apply wpAny_sequenceKey ht.typeIs (by decide)
 apply bj8
 apply bq6 (name:=Str.ofString "__getitem__") ht.typeIs bx4
 apply br0 bx4 ht.typeIs entry_tuple_getitem _ (args_tuple_getitem _ _)
 change wpAny _ _ (Builtin.Tuple.tupleItemsOf (.ref t) >>= _) _ _ s
 apply bj8
 apply tupleItemsOf_ ht
 apply bj8
 apply wpAny_typeOf T
 rw [if_pos (by decide)]
 apply bj8
 apply B7 hs pl pu
 rw [h1,h2]
 have yes:((((0:Nat):Int) == 0 && (1:Int) == 1 && (items.size - 0) == items.size)=true):=by simp
 change wpAny _ _ (if ((((0:Nat):Int) == 0 && (1:Int) == 1 && (items.size - 0) == items.size)=true) then _ else _) _ _ s
 rw [if_pos yes]
 apply bj8
 unfold Builtin.Tuple.tupleIsExact
 apply bj8
 apply wpAny_typeOf ht.typeIs
 apply bk2
 change wpAny _ _ (rule "tuple.getitem.whole" >>= fun _=>ret (Value.ref t)) _ _ s
 apply bj8
 apply by6
 exact bk2 ⟨_,rfl,bk2 h⟩
end
end HT
namespace L2
open PySem PySem.Spec PyProof.Rows
section
variable {X : Cx}
def az1 (K:PySem.W.Frag):V->Option Int->Option Int->Hp->VK->Prop:=fun x lo hi H Q=>∃ a xs,x = .ref a/\aU K H a xs/\(∀ p,H p=none->Q (.ref p) (upd H p (.tup (i8 xs lo hi))))/\(i8 xs lo hi=xs->Q (.ref a) H)
theorem az2:kB X (az1 X.K):=by
 intro pins s σ H x v vl vu lo hi sl Q I rx hs pl pu h
 obtain ⟨a,xs,ex,hx,q1,q2⟩:=h
 by_cases hw:HT.b6 xs.length 0 lo=0/\HT.b6 xs.length xs.length hi=xs.length
 ·subst ex
  cases rx
  obtain ⟨its,r,ht,hz⟩:=I.tuple hx
  have hlen:its.toArray.size=xs.length:=by rw [bk3]; exact r.length.symm
  refine⟨"tuple",_,PyProof.Rows.slot_tuple_getitem.lookup,ht.typeIs,?_⟩
  refine HT.az0 ht hs pl pu (by rw [hlen]; exact hw.1) (by rw [hlen]; exact hw.2) ⟨.ref a,H,I,rfl,q2 ?_⟩
  unfold i8
  rw [hw.1,hw.2]
  simp
 ·exact as8 pins s σ H x v vl vu lo hi sl Q I rx hs pl pu ⟨a,xs,ex,hx,hw,q1⟩
end
def vM (K:PySem.W.Frag) (a b:Addr):It:=
  ⟨fun i H=>∃ xs ys x y,aT K H a xs/\aT K H b ys/\xs[i]? = some x/\ys[i]? = some y,
   fun i H v H'=>∃ T x y,H T=none/\v = .ref T/\H'=upd H T (.tup [x,y])/\∀ xs ys,aT K H a xs->aT K H b ys->xs[i]? = some x/\ys[i]? = some y,
   fun i H=>∃ xs ys,aT K H a xs/\aT K H b ys/\(i=xs.length ∨ (i < xs.length/\i=ys.length))⟩
abbrev az3:=vL false false
theorem az4 {P:Program}{w:World}{K:PySem.W.Frag}{elts:List Expr}{k:Nat}{pos:Pos} (a b z TI TO i1 i2:Addr) (d : [z,TI,TO,i1,i2].Nodup) :
  iN P w K (.Tuple elts k pos) (vM K a b) [z,TI,TO,i1,i2] z (az3 z TI TO i1 i2 a b):=G8 false false a b z TI TO i1 i2 d
end L2
namespace PP
open PySem L2
inductive PV where
 | non | bl (b:Bool) | int (i:Int) | str (x:Str) | tup (xs:List PV) | lst (xs:List PV)
 | dK (kvs:List (aM × PV)) | dT (kvs:List (List aM × PV)) | scr (ns:List Int) | kt (xs:List PV) | exc (c:Str) | fK (kvs:List (aM × PV)) | fT (kvs:List (List aM × PV))
mutual
def flat:PV->Bool
 | .tup xs=>flats xs
 | .lst _=>false
 | .dK _=>false
 | .dT _=>false
 | .non=>true
 | .bl _=>true
 | .int _=>true
 | .str _=>true
 | .scr _=>true
 | .kt xs=>flats xs
 | .exc _=>true
 | .fK _=>false
 | .fT _=>false
def flats:List PV->Bool
 | []=>true
 | x :: r=>flat x && flats r
end
def jH (K:PySem.W.Frag) (H:Hp) (a:Addr) (ns:List Int):Prop:=(∃ o,H a=some (.frz o (.lst (ns.map V.int)))) ∨
  ∃ (o:Obj) (its:Array Value) (n:Nat),K.lookup a=some o/\o.cls = .type "list"/\o.dict=none/\o.data = .seq its n/\its.size<=sizeLine/\aS (ns.map V.int) its.toList
def mS (K:PySem.W.Frag) (a:Addr) (us:List V):Prop:=∃ (o:Obj) (its:Array Value) (n:Nat),K.lookup a=some o/\o.cls = .type "tuple"/\o.data = .seq its n/\its.size<=sizeLine/\aS us its.toList
mutual
inductive aD (K:PySem.W.Frag) (M:Addr->Prop) (H:Hp):V->PV->Prop
 | non:aD K M H .non .non
 | bl (b:Bool):aD K M H (.bl b) (.bl b)
 | int (i:Int):aD K M H (.int i) (.int i)
 | str (x:Str):aD K M H (.str x) (.str x)
 | tup {a:Addr}{us:List V}{xs:List PV}:H a=some (.tup us)->Reps K M H us xs->aD K M H (.ref a) (.tup xs)
 | lst {a:Addr}{us:List V}{xs:List PV}:M a->H a=some (.lst us)->Reps K M H us xs->aD K M H (.ref a) (.lst xs)
 | dK {a:Addr}{kvs:List (aM × V)}{ps:List (aM × PV)}:M a->H a=some (.dK kvs)->kvs.map (·.1)=ps.map (·.1)->Reps K M H (kvs.map (·.2)) (ps.map (·.2))->aD K M H (.ref a) (.dK ps)
 | dT {a:Addr}{kvs:List (List aM × V)}{ps:List (List aM × PV)}:M a->H a=some (.dT kvs)->kvs.map (·.1)=ps.map (·.1)->Reps K M H (kvs.map (·.2)) (ps.map (·.2))->aD K M H (.ref a) (.dT ps)
 | scr {a:Addr}{ns:List Int}:jH K H a ns->aD K M H (.ref a) (.scr ns)
 | kt {a:Addr}{us:List V}{xs:List PV}:mS K a us->Reps K M H us xs->aD K M H (.ref a) (.kt xs)
 | exc {a C:Addr}{o:Obj}{c:Str}:H a=some (.frz o (.own a))->PySem.W.nsIn K mainGlobals c=some (some (.ref C))->o.cls = .ref C->aD K M H (.ref a) (.exc c)
 | fK {a:Addr}{o:Obj}{kvs:List (aM × V)}{ps:List (aM × PV)}:H a=some (.frz o (.dK kvs))->kvs.map (·.1)=ps.map (·.1)->Reps K M H (kvs.map (·.2)) (ps.map (·.2))->aD K M H (.ref a) (.fK ps)
 | fT {a:Addr}{o:Obj}{kvs:List (List aM × V)}{ps:List (List aM × PV)}:H a=some (.frz o (.dT kvs))->kvs.map (·.1)=ps.map (·.1)->Reps K M H (kvs.map (·.2)) (ps.map (·.2))->aD K M H (.ref a) (.fT ps)
inductive Reps (K:PySem.W.Frag) (M:Addr->Prop) (H:Hp):List V->List PV->Prop
 | nil:Reps K M H [] []
 | cons {v:V}{x:PV}{vs:List V}{xs:List PV}:aD K M H v x->Reps K M H vs xs->Reps K M H (v :: vs) (x :: xs)
end
structure iP (M M':Addr->Prop) (H H':Hp):Prop where
 lst:∀ a us,M a->H a=some (.lst us)->M' a/\H' a=some (.lst us)
 dK:∀ a kvs,M a->H a=some (.dK kvs)->M' a/\H' a=some (.dK kvs)
 dT:∀ a kvs,M a->H a=some (.dT kvs)->M' a/\H' a=some (.dT kvs)
 tup:∀ a us,H a=some (.tup us)->H' a=some (.tup us)
 frz:∀ a o u,H a=some (.frz o u)->H' a=some (.frz o u)
theorem jH.keep {K:PySem.W.Frag}{H H':Hp}{a:Addr}{ns:List Int} (k:∀ a o u,H a=some (.frz o u)->H' a=some (.frz o u)) (h:jH K H a ns):jH K H' a ns:=
 h.elim (fun ⟨o,e⟩=>.inl ⟨o,k _ _ _ e⟩) .inr
mutual
theorem aD.keep {K:PySem.W.Frag}{M M':Addr->Prop}{H H':Hp} (k:iP M M' H H'):∀ {v:V}{x:PV},aD K M H v x->aD K M' H' v x
 | _,_,.non=>.non
 | _,_,.bl b=>.bl b
 | _,_,.int i=>.int i
 | _,_,.str x=>.str x
 | _,_,.tup h r=>.tup (k.tup _ _ h) (Reps.keep k r)
 | _,_,.lst m h r=>.lst (k.lst _ _ m h).1 (k.lst _ _ m h).2 (Reps.keep k r)
 | _,_,.dK m h e r=>.dK (k.dK _ _ m h).1 (k.dK _ _ m h).2 e (Reps.keep k r)
 | _,_,.dT m h e r=>.dT (k.dT _ _ m h).1 (k.dT _ _ m h).2 e (Reps.keep k r)
 | _,_,.scr h=>.scr (h.keep k.frz)
 | _,_,.kt h r=>.kt h (Reps.keep k r)
 | _,_,.exc h e c=>.exc (k.frz _ _ _ h) e c
 | _,_,.fK h e r=>.fK (k.frz _ _ _ h) e (Reps.keep k r)
 | _,_,.fT h e r=>.fT (k.frz _ _ _ h) e (Reps.keep k r)
theorem Reps.keep {K:PySem.W.Frag}{M M':Addr->Prop}{H H':Hp} (k:iP M M' H H'):∀ {vs:List V}{xs:List PV},Reps K M H vs xs->Reps K M' H' vs xs
 | _,_,.nil=>.nil
 | _,_,.cons r t=>.cons (aD.keep k r) (Reps.keep k t)
end
mutual
theorem aD.flat {K:PySem.W.Frag}{M M':Addr->Prop}{H:Hp}{v:V}{x:PV} (f:flat x=true) (r:aD K M H v x):aD K M' H v x:=by
 cases r with
 | non=>exact .non
 | bl b=>exact .bl b
 | int i=>exact .int i
 | str x=>exact .str x
 | tup h r=>exact .tup h (Reps.flat (by unfold PP.flat at f; exact f) r)
 | lst m h r=>unfold PP.flat at f; cases f
 | dK m h e r=>unfold PP.flat at f; cases f
 | dT m h e r=>unfold PP.flat at f; cases f
 | scr h=>exact .scr h
 | kt h r=>exact .kt h (Reps.flat (by unfold PP.flat at f; exact f) r)
 | exc h e c=>exact .exc h e c
 | fK h e r=>unfold PP.flat at f; cases f
 | fT h e r=>unfold PP.flat at f; cases f
theorem Reps.flat {K:PySem.W.Frag}{M M':Addr->Prop}{H:Hp}{vs:List V}{xs:List PV} (f:flats xs=true) (r:Reps K M H vs xs):Reps K M' H vs xs:=by
 cases r with
 | nil=>exact .nil
 | cons r t=>
  unfold PP.flats at f
  rw [br1] at f
  exact .cons (aD.flat f.1 r) (Reps.flat f.2 t)
end
theorem iP.same {M M':Addr->Prop}{H H':Hp} (s:aE H H') (m:∀ a,M a->M' a):iP M M' H H':=
 ⟨fun a _ h e=>⟨m a h,s _ _ e⟩,fun a _ h e=>⟨m a h,s _ _ e⟩,fun a _ h e=>⟨m a h,s _ _ e⟩,fun _ _ e=>s _ _ e,fun _ _ _ e=>s _ _ e⟩
theorem aD.same {K:PySem.W.Frag}{M M':Addr->Prop}{H H':Hp}{v:V}{x:PV} (r:aD K M H v x) (s:aE H H') (m:∀ a,M a->M' a):aD K M' H' v x:=r.keep (.same s m)
theorem Reps.same {K:PySem.W.Frag}{M M':Addr->Prop}{H H':Hp}{v:List V}{x:List PV} (r:Reps K M H v x) (s:aE H H') (m:∀ a,M a->M' a):Reps K M' H' v x:=r.keep (.same s m)
def fY:HO->Bool
 | .lst _=>true
 | .dK _=>true
 | .dT _=>true
 | _=>false
theorem iP.upd {M M':Addr->Prop}{H:Hp}{a:Addr}{o o':HO} (h:H a=some o') (mu:fY o'=true) (m:∀ b,M b->b ≠ a/\M' b):iP M M' H (upd H a o):=
 ⟨fun b _ hb e=>⟨(m b hb).2,by rw [aZ (m b hb).1]; exact e⟩,fun b _ hb e=>⟨(m b hb).2,by rw [aZ (m b hb).1]; exact e⟩,fun b _ hb e=>⟨(m b hb).2,by rw [aZ (m b hb).1]; exact e⟩,
  fun b _ e=>by rw [aZ (fun z=>by rw [z,h] at e; cases e; cases mu)]; exact e,
  fun b _ _ e=>by rw [aZ (fun z=>by rw [z,h] at e; cases e; cases mu)]; exact e⟩
theorem Reps.length {K:PySem.W.Frag}{M:Addr->Prop}{H:Hp}:∀ {vs:List V}{xs:List PV},Reps K M H vs xs->vs.length=xs.length
 | _,_,.nil=>rfl
 | _,_,.cons _ t=>congrArg (· + 1) t.length
theorem Reps.get {K:PySem.W.Frag}{M:Addr->Prop}{H:Hp}:∀ {vs:List V}{xs:List PV}{i:Nat}{v:V},Reps K M H vs xs->vs[i]? = some v->∃ x,xs[i]? = some x/\aD K M H v x
 | _,_,_,_,.nil,e=>by simp at e
 | _,_,0,_,.cons r _,e=>by simp at e; subst e; exact⟨_,rfl,r⟩
 | _,_,i+1,v,.cons _ t,e=>by
  rw [bo2] at e
  obtain ⟨x,h1,h2⟩:=t.get e
  exact⟨x,by rw [bo2]; exact h1,h2⟩
theorem Reps.at {K:PySem.W.Frag}{M:Addr->Prop}{H:Hp}:∀ {vs:List V}{xs:List PV}{i:Nat}{x:PV},Reps K M H vs xs->xs[i]? = some x->∃ v,vs[i]? = some v/\aD K M H v x
 | _,_,_,_,.nil,e=>by simp at e
 | _,_,0,_,.cons r _,e=>by simp at e; subst e; exact⟨_,rfl,r⟩
 | _,_,i+1,v,.cons _ t,e=>by
  rw [bo2] at e
  obtain ⟨x,h1,h2⟩:=t.at e
  exact⟨x,by rw [bo2]; exact h1,h2⟩
theorem Reps.append {K:PySem.W.Frag}{M:Addr->Prop}{H:Hp}:∀ {vs:List V}{xs:List PV}{us:List V}{ys:List PV},Reps K M H vs xs->Reps K M H us ys->Reps K M H (vs ++ us) (xs ++ ys)
 | _,_,_,_,.nil,s=>s
 | _,_,_,_,.cons r t,s=>.cons r (t.append s)
theorem Reps.set {K:PySem.W.Frag}{M:Addr->Prop}{H:Hp}{v:V}{x:PV} (q:aD K M H v x):∀ (i:Nat) {vs:List V}{xs:List PV},Reps K M H vs xs->Reps K M H (vs.set i v) (xs.set i x)
 | _,_,_,.nil=>.nil
 | 0,_,_,.cons r t=>.cons q t
 | i+1,_,_,.cons r t=>.cons r (Reps.set q i t)
theorem Reps.take {K:PySem.W.Frag}{M:Addr->Prop}{H:Hp}:∀ (n:Nat) {vs:List V}{xs:List PV},Reps K M H vs xs->Reps K M H (vs.take n) (xs.take n)
 | 0,_,_,_=>by simp; exact .nil
 | _+1,_,_,.nil=>.nil
 | n+1,_,_,.cons r t=>.cons r (Reps.take n t)
theorem Reps.drop {K:PySem.W.Frag}{M:Addr->Prop}{H:Hp}:∀ (n:Nat) {vs:List V}{xs:List PV},Reps K M H vs xs->Reps K M H (vs.drop n) (xs.drop n)
 | 0,_,_,r=>r
 | _+1,_,_,.nil=>.nil
 | n+1,_,_,.cons _ t=>Reps.drop n t
theorem Reps.eraseIdx {K:PySem.W.Frag}{M:Addr->Prop}{H:Hp}:∀ (n:Nat) {vs:List V}{xs:List PV},Reps K M H vs xs->Reps K M H (vs.eraseIdx n) (xs.eraseIdx n)
 | _,_,_,.nil=>.nil
 | 0,_,_,.cons _ t=>t
 | n+1,_,_,.cons r t=>.cons r (Reps.eraseIdx n t)
abbrev intz (ns:List Int):List PV:=ns.map PV.int
theorem Reps.intz {K:PySem.W.Frag}{M:Addr->Prop}{H:Hp}:∀ (ns:List Int),Reps K M H (ns.map V.int) (intz ns)
 | []=>.nil
 | n :: r=>.cons (.int n) (Reps.intz r)
theorem Reps.ofInts {K:PySem.W.Frag}{M:Addr->Prop}{H:Hp}:∀ {ns:List Int}{us:List V},Reps K M H us (PP.intz ns)->us=ns.map V.int
 | [],_,.nil=>rfl
 | n :: r,_,.cons q t=>by
  cases q
  rw [Reps.ofInts t]; rfl
theorem oH:∀ (ns:List Int),flats (intz ns)=true
 | []=>rfl
 | n :: r=>by show (flat (.int n) && flats (intz r))=true; rw [oH r]; rfl
inductive Tg | rd | sh | nw | fr
inductive Slot | sh (g:Bool) (x:PV) | own (x:PV)
def Slot.val:Slot->PV
 | .sh _ x=>x
 | .own x=>x
def Slot.tag:Slot->Tg
 | .sh true _=>.nw
 | .sh false _=>.sh
 | .own _=>.rd
abbrev bC:=List (Option Slot)
def Ms (H0:Hp) (W:Addr->Prop):Bool->Addr->Prop
 | false,a=>¬ W a
 | true,a=>¬ W a/\H0 a=none
def Mg (H0:Hp) (W:Addr->Prop) (Hs:Hp):Tg->Addr->Prop
 | .rd,_=>True
 | .sh,a=>¬ W a
 | .nw,a=>¬ W a/\H0 a=none
 | .fr,a=>Hs a=none
def iA (K:PySem.W.Frag) (M:Addr->Prop) (H:Hp) (a:Addr):PV->Prop
 | .lst xs=>∃ us,H a=some (.lst us)/\Reps K M H us xs
 | .dK ps=>∃ kvs,H a=some (.dK kvs)/\kvs.map (·.1)=ps.map (·.1)/\Reps K M H (kvs.map (·.2)) (ps.map (·.2))
 | .dT ps=>∃ kvs,H a=some (.dT kvs)/\kvs.map (·.1)=ps.map (·.1)/\Reps K M H (kvs.map (·.2)) (ps.map (·.2))
 | _=>False
def G9 (K:PySem.W.Frag) (H0:Hp) (W:Addr->Prop) (H:Hp) (v:V):Slot->Prop
 | .sh g x=>aD K (Ms H0 W g) H v x
 | .own x=>∃ a,v = .ref a/\W a/\iA K (Ms H0 W true) H a x
structure PX (K:PySem.W.Frag) (H0:Hp) (W:Addr->Prop) (σ:St) (ρ:bC) (H:Hp):Prop where
 len:ρ.length=σ.length
 same:aE H0 H
 wm:∀ a,W a->H0 a=none/\∃ o,H a=some o/\fY o=true
 sl:∀ (i:Nat) (m:Slot),ρ[i]? = some (some m)->∃ v,σ[i]? = some (some v)/\G9 K H0 W H v m
 dis:∀ (i j:Nat) (x y:PV) (a:Addr),ρ[i]? = some (some (.own x))->ρ[j]? = some (some (.own y))->σ[i]? = some (some (.ref a))->σ[j]? = some (some (.ref a))->i=j
theorem iA.keep {K:PySem.W.Frag}{M M':Addr->Prop}{H H':Hp}{a:Addr} (k:iP M M' H H') (ha:∀ o,H a=some o->H' a=some o):∀ {x:PV},iA K M H a x->iA K M' H' a x
 | .lst _,⟨us,e,r⟩=>⟨us,ha _ e,r.keep k⟩
 | .dK _,⟨us,e,q,r⟩=>⟨us,ha _ e,q,r.keep k⟩
 | .dT _,⟨us,e,q,r⟩=>⟨us,ha _ e,q,r.keep k⟩
theorem iA.at {K:PySem.W.Frag}{M:Addr->Prop}{H:Hp}{a:Addr}:∀ {x:PV},iA K M H a x->∃ o,H a=some o/\fY o=true
 | .lst _,⟨us,e,r⟩=>⟨_,e,rfl⟩
 | .dK _,⟨us,e,q,r⟩=>⟨_,e,rfl⟩
 | .dT _,⟨us,e,q,r⟩=>⟨_,e,rfl⟩
theorem iA.rep {K:PySem.W.Frag}{M M':Addr->Prop}{H:Hp}{a:Addr} (m:∀ b,M b->M' b) (ha:M' a):∀ {x:PV},iA K M H a x->aD K M' H (.ref a) x
 | .lst _,⟨us,e,r⟩=>.lst ha e (r.same (aE.refl _) m)
 | .dK _,⟨us,e,q,r⟩=>.dK ha e q (r.same (aE.refl _) m)
 | .dT _,⟨us,e,q,r⟩=>.dT ha e q (r.same (aE.refl _) m)
section
variable {K : PySem.W.Frag} {H0 : Hp} {W W' : Addr → Prop} {σ : St} {ρ : bC} {H H' : Hp}
theorem PX.mono (p:PX K H0 W σ ρ H) (s:aE H H'):PX K H0 W σ ρ H':=by
 refine⟨p.len,p.same.trans s,fun a h=>⟨(p.wm a h).1,let ⟨o,e,m⟩:=(p.wm a h).2; ⟨o,s _ _ e,m⟩⟩,fun i m h=>?_,p.dis⟩
 obtain ⟨v,e,r⟩:=p.sl i m h
 refine⟨v,e,?_⟩
 cases m with
 | sh g x=>exact aD.same r s fun _ z=>z
 | own x=>
  obtain ⟨a,e1,e2,r⟩:=r
  exact⟨a,e1,e2,r.keep (.same s fun _ z=>z) fun _ z=>s _ _ z⟩
theorem PX.new (p:PX K H0 W σ ρ H) {a:Addr} (h:H a=none) : ¬ W a/\H0 a=none:=
 ⟨fun z=>(by obtain ⟨_,o,e,_⟩:=p.wm a z; rw [h] at e; cases e),p.same.free h⟩
theorem Mg.back {g:Tg}{H1:Hp} (s:aE H H1) {a:Addr} (h:Mg H0 W H1 g a):Mg H0 W H g a:=by
 cases g with
 | fr=>exact s.free h
 | rd=>exact h
 | sh=>exact h
 | nw=>exact h
end
abbrev PK:=PV->Tg->Prop
abbrev aB:=bC->PK->Prop
abbrev cN:=bC->(Bool->Prop)->Prop
abbrev cP:=bC->(List (PV × Tg)->Prop)->Prop
inductive iB (K:PySem.W.Frag) (H0:Hp) (W:Addr->Prop) (Hs H:Hp):List V->List (PV × Tg)->Prop
 | nil:iB K H0 W Hs H [] []
 | cons {v:V}{x:PV}{g:Tg}{vs:List V}{xs:List (PV × Tg)}:aD K (Mg H0 W Hs g) H v x->iB K H0 W Hs H vs xs->iB K H0 W Hs H (v :: vs) ((x,g) :: xs)
def qW (K:PySem.W.Frag) (H0:Hp) (W:Addr->Prop) (H:Hp) (Q:PK) (Q':VK):Prop:=∀ v H' x g,aE H H'->aD K (Mg H0 W H g) H' v x->Q x g->Q' v H'
def LE (X:Cx) (t:aB):TE:=fun σ H Q'=>∃ (W:Addr->Prop) (ρ:bC) (Q:PK),PX X.K X.H₀ W σ ρ H/\t ρ Q/\qW X.K X.H₀ W H Q Q'
def LT (X:Cx) (t:cN):TT:=fun σ H Q'=>∃ (W:Addr->Prop) (ρ:bC) (Q:Bool->Prop),PX X.K X.H₀ W σ ρ H/\t ρ Q/\∀ b H',aE H H'->Q b->Q' b H'
def LA (X:Cx) (t:cP):TA:=fun σ H Q'=>∃ (W:Addr->Prop) (ρ:bC) (Q:List (PV × Tg)->Prop),PX X.K X.H₀ W σ ρ H/\t ρ Q/\∀ vs H' xs,aE H H'->iB X.K X.H₀ W H H' vs xs->Q xs->Q' vs H'
theorem iB.same {K:PySem.W.Frag}{H0:Hp}{W:Addr->Prop}{Hs Hs' H H':Hp} (s:aE H H') (b:aE Hs' Hs):∀ {vs:List V}{xs:List (PV × Tg)},iB K H0 W Hs H vs xs->iB K H0 W Hs' H' vs xs
 | _,_,.nil=>.nil
 | _,_,.cons r t=>.cons (r.same s fun _ z=>Mg.back b z) (t.same s b)
theorem iB.any {K:PySem.W.Frag}{H0:Hp}{W:Addr->Prop}{Hs H:Hp}:∀ {vs:List V}{xs:List (PV × Tg)},iB K H0 W Hs H vs xs->Reps K (fun _=>True) H vs (xs.map (·.1))
 | _,_,.nil=>.nil
 | _,_,.cons r t=>.cons (r.same (aE.refl _) fun _ _=>trivial) t.any
def Nw:Tg->PV->Prop
 | .fr,_=>True
 | .nw,_=>True
 | _,x=>flat x=true
section
variable {K : PySem.W.Frag} {H0 Hs H : Hp} {W : Addr → Prop} {σ : St} {ρ : bC}
theorem Nw.rep {g:Tg}{x:PV}{v:V} (px:PX K H0 W σ ρ Hs) (n:Nw g x) (r:aD K (Mg H0 W Hs g) H v x):aD K (Ms H0 W true) H v x:=by
 cases g with
 | fr=>exact r.same (aE.refl _) fun a z=>px.new z
 | nw=>exact r.same (aE.refl _) fun a z=>z
 | sh=>exact r.flat n
 | rd=>exact r.flat n
theorem J0 {v:V}{m:Slot} (r:G9 K H0 W H v m):aD K (Mg H0 W Hs m.tag) H v m.val:=by
 cases m with
 | sh g x=>
  cases g with
  | true=>exact aD.same r (aE.refl _) fun _ z=>z
  | false=>exact aD.same r (aE.refl _) fun _ z=>z
 | own x=>
  obtain ⟨a,rfl,_,r⟩:=r
  exact r.rep (fun _ _=>trivial) trivial
end
section
variable {X : Cx} {σ : St} {H : Hp} {Q' : VK} {ta tb : aB}
def a5 (i:Nat):aB:=fun ρ Q=>∃ m,ρ[i]? = some (some m)/\Q m.val m.tag
def qC (x:PV):aB:=fun _ Q=>Q x .fr
theorem az5 {i:Nat} (h:LE X (a5 i) σ H Q'):kU i σ H Q':=by
 obtain ⟨W,ρ,Q,px,⟨m,e,q⟩,k⟩:=h
 obtain ⟨v,ev,r⟩:=px.sl i m e
 exact⟨v,ev,k v H _ _ (aE.refl _) (J0 r) q⟩
theorem oI {x:PV}{v:V} (hr:∀ M,aD X.K M H v x) (h:LE X (qC x) σ H Q'):tC v σ H Q':=by
 obtain ⟨W,ρ,Q,px,q,k⟩:=h
 exact k v H _ _ (aE.refl _) (hr _) q
def dR (X:Cx) (R:PV->Tg->PV->Tg->PK->Prop) (r:R2):Prop:=∀ (W:Addr->Prop) (Hs H:Hp) (u v:V) (x y:PV) (g g':Tg) (Q:PK) (Q':VK),aE Hs H->
 (∀ a,Hs a=none->¬ W a/\X.H₀ a=none)->aD X.K (Mg X.H₀ W Hs g) H u x->aD X.K (Mg X.H₀ W Hs g') H v y->R x g y g' Q->(∀ w H' z gz,aE H H'->aD X.K (Mg X.H₀ W Hs gz) H' w z->Q z gz->Q' w H')->r u v H Q'
def q2 (R:PV->Tg->PV->Tg->PK->Prop) (ta tb:aB):aB:=fun ρ Q=>ta ρ fun x g=>tb ρ fun y g'=>R x g y g' Q
theorem qX {R:PV->Tg->PV->Tg->PK->Prop}{r:R2} (c:dR X R r) (h:LE X (q2 R ta tb) σ H Q'):oA r (LE X ta) (LE X tb) σ H Q':=by
 obtain ⟨W,ρ,Q,px,q,k⟩:=h
 refine⟨W,ρ,_,px,q,fun u H1 x g s1 r1 q1=>⟨W,ρ,_,px.mono s1,q1,fun v H2 y g' s2 r2 q2=>?_⟩⟩
 exact c W H H2 u v x y g g' Q Q' (s1.trans s2) (fun a z=>px.new z) (r1.same s2 fun _ z=>z) (r2.same (aE.refl _) fun _ z=>Mg.back s1 z) q2 fun w H' z gz s3 r3 q3=>k w H' z gz ((s1.trans s2).trans s3) r3 q3
def RI (C:Int->Int->Prop) (f:Int->Int->PV):PV->Tg->PV->Tg->PK->Prop:=fun x _ y _ Q=>∃ i j,x = .int i/\y = .int j/\C i j/\Q (f i j) .fr
def eG (f:Int->Int->PV):PV->Tg->PV->Tg->PK->Prop:=fun x _ y _ Q=>∃ i j,x = .int i/\y = .int j/\Q (f i j) .fr
theorem qY {C:Int->Int->Prop}{f:Int->Int->Int}:dR X (RI C fun i j=>.int (f i j)) (rI C fun i j=>.int (f i j)):=by
 rintro W Hs H u v x y g g' Q Q' s n r1 r2 ⟨i,j,rfl,rfl,c,q⟩ k
 cases r1; cases r2
 exact⟨i,j,rfl,rfl,c,k _ _ _ _ (aE.refl _) (.int _) q⟩
theorem J1 {f:Int->Int->Int}:dR X (eG fun i j=>.int (f i j)) (eR fun i j=>.int (f i j)):=by
 rintro W Hs H u v x y g g' Q Q' s n r1 r2 ⟨i,j,rfl,rfl,q⟩ k
 cases r1; cases r2
 exact⟨i,j,rfl,rfl,k _ _ _ _ (aE.refl _) (.int _) q⟩
theorem lC {f:Int->Int->Bool}:dR X (eG fun i j=>.bl (f i j)) (eR fun i j=>.bl (f i j)):=by
 rintro W Hs H u v x y g g' Q Q' s n r1 r2 ⟨i,j,rfl,rfl,q⟩ k
 cases r1; cases r2
 exact⟨i,j,rfl,rfl,k _ _ _ _ (aE.refl _) (.bl _) q⟩
def lD (neg:Bool):PV->Tg->PV->Tg->PK->Prop:=fun x _ y _ Q=>(∃ i j,x = .int i/\y = .int j/\Q (.bl (if neg=true then !decide (i=j) else decide (i=j))) .fr) ∨ (∃ i j,x = .bl i/\y = .bl j/\Q (.bl (if neg=true then !decide (i=j) else decide (i=j))) .fr)
theorem J2 (i j:Int):decide (V.int i=V.int j)=decide (i=j):=by
 rw [bs3,bm4,bm4]; exact⟨fun z=>V.int.inj z,fun z=>congrArg V.int z⟩
theorem J3 (i j:Bool):decide (V.bl i=V.bl j)=decide (i=j):=by
 rw [bs3,bm4,bm4]; exact⟨fun z=>V.bl.inj z,fun z=>congrArg V.bl z⟩
theorem J4:dR X (lD false) zS:=by
 rintro W Hs H u v x y g g' Q Q' s n r1 r2 (⟨i,j,rfl,rfl,q⟩ | ⟨i,j,rfl,rfl,q⟩) k
 ·cases r1; cases r2
  exact⟨rfl,by rw [J2]; exact k _ _ _ _ (aE.refl _) (.bl _) q⟩
 ·cases r1; cases r2
  exact⟨rfl,by rw [J3]; exact k _ _ _ _ (aE.refl _) (.bl _) q⟩
theorem az6:dR X (lD true) uH:=by
 rintro W Hs H u v x y g g' Q Q' s n r1 r2 (⟨i,j,rfl,rfl,q⟩ | ⟨i,j,rfl,rfl,q⟩) k
 ·cases r1; cases r2
  exact⟨rfl,by rw [J2]; exact k _ _ _ _ (aE.refl _) (.bl _) q⟩
 ·cases r1; cases r2
  exact⟨rfl,by rw [J3]; exact k _ _ _ _ (aE.refl _) (.bl _) q⟩
def aW (t:aB):cN:=fun ρ Q=>t ρ fun x _=>∃ b,x = .bl b/\Q b
theorem mT {t:aB}{Q':Bool->Hp->Prop} (h:LT X (aW t) σ H Q'):LE X t σ H fun x H'=>∃ k,x = .bl k/\Q' k H':=by
 obtain ⟨W,ρ,Q,px,q,k⟩:=h
 refine⟨W,ρ,_,px,q,?_⟩
 rintro v H1 x g s r ⟨b,rfl,q⟩
 cases r
 exact⟨b,rfl,k _ _ s q⟩
def jI (t u:cN):cN:=fun ρ Q=>t ρ fun c=>if c=true then u ρ Q else Q false
def iC (t u:cN):cN:=fun ρ Q=>t ρ fun c=>if c=true then Q true else u ρ Q
def hG (t:cN):cN:=fun ρ Q=>t ρ fun c=>Q (!c)
variable {t u : cN} {Qb : Bool → Hp → Prop}
theorem az7 (h:LT X (jI t u) σ H Qb):zB (LT X t) (LT X u) σ H Qb:=by
 obtain ⟨W,ρ,Q,px,q,k⟩:=h
 refine⟨W,ρ,_,px,q,fun b H1 s1 q1=>?_⟩
 cases b with
 | true=>exact b7 ⟨W,ρ,Q,px.mono s1,by simpa using q1,fun b H2 s2 q2=>k _ _ (s1.trans s2) q2⟩
 | false=>exact aJ (k _ _ s1 (by simpa using q1))
theorem az8 (h:LT X (iC t u) σ H Qb):zC (LT X t) (LT X u) σ H Qb:=by
 obtain ⟨W,ρ,Q,px,q,k⟩:=h
 refine⟨W,ρ,_,px,q,fun b H1 s1 q1=>?_⟩
 cases b with
 | false=>exact aJ ⟨W,ρ,Q,px.mono s1,by simpa using q1,fun b H2 s2 q2=>k _ _ (s1.trans s2) q2⟩
 | true=>exact b7 (k _ _ s1 (by simpa using q1))
theorem az9 (h:LT X (hG t) σ H Qb):zD (LT X t) σ H Qb:=by
 obtain ⟨W,ρ,Q,px,q,k⟩:=h
 exact⟨W,ρ,_,px,q,fun b H1 s1 q1=>k _ _ s1 q1⟩
def iD (ta tb:aB):aB:=fun ρ Q=>ta ρ fun x _=>∃ c,x = .bl c/\if c=true then tb ρ Q else Q (.bl false) .fr
def vN (ta:aB):aB:=fun ρ Q=>ta ρ fun x _=>∃ c,x = .bl c/\Q (.bl (!c)) .fr
theorem qW.back {K:PySem.W.Frag}{H0:Hp}{W:Addr->Prop}{H H1:Hp}{Q:PK} (k:qW K H0 W H Q Q') (s:aE H H1):qW K H0 W H1 Q Q':=fun v H' x g s' r q=>k v H' x g (s.trans s') (r.same (aE.refl _) fun _ z=>Mg.back s z) q
theorem aA0 (h:LE X (iD ta tb) σ H Q'):zE (LE X ta) (LE X tb) σ H Q':=by
 obtain ⟨W,ρ,Q,px,q,k⟩:=h
 refine⟨W,ρ,_,px,q,?_⟩
 rintro v H1 x g s1 r ⟨c,rfl,q⟩
 cases r
 refine⟨c,rfl,?_⟩
 cases c with
 | true=>exact b7 ⟨W,ρ,Q,px.mono s1,by simpa using q,k.back s1⟩
 | false=>exact aJ (k _ _ _ _ s1 (.bl _) (by simpa using q))
theorem aA1 (h:LE X (vN ta) σ H Q'):zF (LE X ta) σ H Q':=by
 obtain ⟨W,ρ,Q,px,q,k⟩:=h
 refine⟨W,ρ,_,px,q,?_⟩
 rintro v H1 x g s1 r ⟨c,rfl,q⟩
 cases r
 exact⟨c,rfl,k _ _ _ _ s1 (.bl _) q⟩
def aA:cP:=fun _ Q=>Q []
def a6 (te:aB) (tr:cP):cP:=fun ρ Q=>te ρ fun x g=>tr ρ fun xs=>Q ((x,g) :: xs)
variable {Qa : List V → Hp → Prop} {tr : cP}
theorem aA2 (h:LA X aA σ H Qa):kZ σ H Qa:=by
 obtain ⟨W,ρ,Q,px,q,k⟩:=h
 exact k _ _ _ (aE.refl _) .nil q
theorem aA3 (h:LA X (a6 ta tr) σ H Qa):kA (LE X ta) (LA X tr) σ H Qa:=by
 obtain ⟨W,ρ,Q,px,q,k⟩:=h
 refine⟨W,ρ,_,px,q,fun v H1 x g s1 r1 q1=>⟨W,ρ,_,px.mono s1,q1,fun vs H2 xs s2 r2 q2=>?_⟩⟩
 exact k _ _ _ (s1.trans s2) (.cons (r1.same s2 fun _ z=>z) (r2.same (aE.refl _) s1)) q2
def dY (t:cP):aB:=fun ρ Q=>t ρ fun xs=>xs.length<=1000/\flats (xs.map (·.1))=true/\Q (.tup (xs.map (·.1))) .fr
def fL (t:cP):aB:=fun ρ Q=>t ρ fun xs=>xs.length<=1000/\flats (xs.map (·.1))=true/\Q (.lst (xs.map (·.1))) .fr
theorem iB.length {K:PySem.W.Frag}{H0:Hp}{W:Addr->Prop}{Hs H:Hp}:∀ {vs:List V}{xs:List (PV × Tg)},iB K H0 W Hs H vs xs->vs.length=xs.length
 | _,_,.nil=>rfl
 | _,_,.cons _ t=>congrArg (· + 1) t.length
theorem qZ {n:Nat} (h:n<=1000):n<=sizeLine:=bw8 (aw8 h)
theorem aA4 (h:LE X (dY tr) σ H Q'):A2 (LA X tr) σ H Q':=by
 obtain ⟨W,ρ,Q,px,q,k⟩:=h
 refine⟨W,ρ,_,px,q,?_⟩
 rintro vs H1 xs s1 r ⟨hl,n,q⟩
 refine⟨by rw [r.length]; exact qZ hl,fun p hp=>k _ _ _ .fr (s1.trans (cA hp _)) (.tup cH ?_) q⟩
 exact (r.any.flat n).same (cA hp _) fun _ z=>z
theorem aA5 (h:LE X (fL tr) σ H Q'):A3 (LA X tr) σ H Q':=by
 obtain ⟨W,ρ,Q,px,q,k⟩:=h
 refine⟨W,ρ,_,px,q,?_⟩
 rintro vs H1 xs s1 r ⟨hl,n,q⟩
 refine⟨by rw [r.length]; exact qZ hl,fun p hp=>k _ _ _ .fr (s1.trans (cA hp _)) (.lst (s1.free hp) cH ?_) q⟩
 exact (r.any.flat n).same (cA hp _) fun _ z=>z
def eY (X:Cx) (R:List PV->(PV->Prop)->Prop) (r:List V->Hp->VK->Prop):Prop:=∀ (H:Hp) (vs:List V) (xs:List PV) (Q:PV->Prop) (Q':VK),Reps X.K (fun _=>True) H vs xs->R xs Q->
 (∀ w H' z,aE H H'->aD X.K (fun a=>H a=none) H' w z->Q z->Q' w H')->r vs H Q'
def aG (R:List PV->(PV->Prop)->Prop) (t:cP):aB:=fun ρ Q=>t ρ fun xs=>R (xs.map (·.1)) fun z=>Q z .fr
theorem J5 {R:List PV->(PV->Prop)->Prop}{r:List V->Hp->VK->Prop} (c:eY X R r) (h:LE X (aG R tr) σ H Q'):uN r (LA X tr) σ H Q':=by
 obtain ⟨W,ρ,Q,px,q,k⟩:=h
 refine⟨W,ρ,_,px,q,fun vs H1 xs s1 r1 q1=>c H1 vs _ _ Q' r1.any q1 fun w H' z s2 r2 q2=>k w H' z .fr (s1.trans s2) (r2.same (aE.refl _) fun _ z=>s1.free z) q2⟩
end
structure kD where
 nx:bC->Prop
 rt:PV->Prop
 bk:bC->Prop:=fun _=>False
 ct:bC->Prop:=fun _=>False
abbrev aP:=kD->bC->Prop
def Ev (W:Addr->Prop) (H:Hp) (W':Addr->Prop) (H':Hp):Prop:=∀ b o,H b=some o->¬ W b->H' b=some o/\¬ W' b
theorem Ev.trans {W W1 W2:Addr->Prop}{H H1 H2:Hp} (a:Ev W H W1 H1) (b:Ev W1 H1 W2 H2):Ev W H W2 H2:=fun c o h n=>let ⟨h1,n1⟩:=a c o h n; b c o h1 n1
theorem Ev.same {W:Addr->Prop}{H H':Hp} (s:aE H H'):Ev W H W H':=fun c o h n=>⟨s _ _ h,n⟩
theorem Ev.refl (W:Addr->Prop) (H:Hp):Ev W H W H:=Ev.same (aE.refl _)
structure oJ (X:Cx) (W:Addr->Prop) (H:Hp) (D':kD) (D:cZ):Prop where
 nx:∀ W' σ' H' ρ',Ev W H W' H'->PX X.K X.H₀ W' σ' ρ' H'->D'.nx ρ'->D.nx σ' H'
 rt:∀ v H' x,aE X.H₀ H'->aD X.K (fun a=>X.H₀ a=none) H' v x->D'.rt x->D.rt v H'
 bk:∀ W' σ' H' ρ',Ev W H W' H'->PX X.K X.H₀ W' σ' ρ' H'->D'.bk ρ'->D.bk σ' H'
 ct:∀ W' σ' H' ρ',Ev W H W' H'->PX X.K X.H₀ W' σ' ρ' H'->D'.ct ρ'->D.ct σ' H'
theorem oJ.step {X:Cx}{W W1:Addr->Prop}{H H1:Hp}{D':kD}{D:cZ} (k:oJ X W H D' D) (e:Ev W H W1 H1):oJ X W1 H1 D' D:=
 ⟨fun W' σ' H' ρ' e'=>k.nx W' σ' H' ρ' (e.trans e'),k.rt,fun W' σ' H' ρ' e'=>k.bk W' σ' H' ρ' (e.trans e'),fun W' σ' H' ρ' e'=>k.ct W' σ' H' ρ' (e.trans e')⟩
def LS (X:Cx) (t:aP):TS:=fun D σ H=>∃ (W:Addr->Prop) (ρ:bC) (D':kD),PX X.K X.H₀ W σ ρ H/\t D' ρ/\oJ X W H D' D
theorem eZ {α:Type}{l:List α}{i j:Nat}{a b:α} (h:(l.set i a)[j]? = some b):(j=i/\i < l.length/\b=a) ∨ (j ≠ i/\l[j]? = some b):=by
 by_cases e:j=i
 ·subst e
  have hl:j < (l.set j a).length:=(bl0.mp h).1
  rw [bs5] at hl
  rw [bt2 hl] at h
  exact .inl ⟨rfl,hl,(bn1 h).symm⟩
 ·rw [bm8 (Ne.symm e)] at h
  exact .inr ⟨e,h⟩
section
variable {K : PySem.W.Frag} {H0 : Hp} {W W' : Addr → Prop} {σ : St} {ρ : bC} {H H' Hs : Hp}
theorem PX.setSh {i:Nat}{v:V}{g:Bool}{x:PV} (p:PX K H0 W σ ρ H) (r:aD K (Ms H0 W g) H v x):PX K H0 W (σ.set i (some v)) (ρ.set i (some (.sh g x))) H:=by
 refine⟨by rw [bs5,bs5]; exact p.len,p.same,p.wm,fun j m h=>?_,fun j k y z a h1 h2 h3 h4=>?_⟩
 ·rcases eZ h with ⟨rfl,hl,e⟩ | ⟨hne,h⟩
  ·cases e
   rw [p.len] at hl
   exact⟨v,bt2 hl,r⟩
  ·obtain ⟨u,e,q⟩:=p.sl j m h
   exact⟨u,by rw [bm8 (Ne.symm hne)]; exact e,q⟩
 ·rcases eZ h1 with ⟨_,_,e⟩ | ⟨n1,h1⟩
  ·cases e
  ·rcases eZ h2 with ⟨_,_,e⟩ | ⟨n2,h2⟩
   ·cases e
   ·rw [bm8 (Ne.symm n1)] at h3
    rw [bm8 (Ne.symm n2)] at h4
    exact p.dis j k y z a h1 h2 h3 h4
theorem PX.setNone {i:Nat}{o:Option V} (p:PX K H0 W σ ρ H):PX K H0 W (σ.set i o) (ρ.set i none) H:=by
 refine⟨by rw [bs5,bs5]; exact p.len,p.same,p.wm,fun j m h=>?_,fun j k y z a h1 h2 h3 h4=>?_⟩
 ·rcases eZ h with ⟨rfl,hl,e⟩ | ⟨hne,h⟩
  ·cases e
  ·obtain ⟨u,e,q⟩:=p.sl j m h
   exact⟨u,by rw [bm8 (Ne.symm hne)]; exact e,q⟩
 ·rcases eZ h1 with ⟨_,_,e⟩ | ⟨n1,h1⟩
  ·cases e
  ·rcases eZ h2 with ⟨_,_,e⟩ | ⟨n2,h2⟩
   ·cases e
   ·rw [bm8 (Ne.symm n1)] at h3
    rw [bm8 (Ne.symm n2)] at h4
    exact p.dis j k y z a h1 h2 h3 h4
def mU (W:Addr->Prop) (a:Addr):Addr->Prop:=fun b=>W b ∨ b=a
theorem vO {g:Bool}{a b:Addr} (n:b ≠ a) (h:Ms H0 W g b):Ms H0 (mU W a) g b:=by
 cases g with
 | true=>exact⟨fun z=>z.elim h.1 n,h.2⟩
 | false=>exact fun z=>z.elim h n
theorem PX.setOwn {i:Nat}{a:Addr}{x:PV} (p:PX K H0 W σ ρ Hs) (s:aE Hs H) (ha:Hs a=none) (r:iA K (Ms H0 (mU W a) true) H a x):PX K H0 (mU W a) (σ.set i (some (.ref a))) (ρ.set i (some (.own x))) H:=by
 have old:∀ b o,Hs b=some o->b ≠ a:=fun b o e z=>by rw [z,ha] at e; cases e
 have kp:∀ g,iP (Ms H0 W g) (Ms H0 (mU W a) g) Hs H:=fun g=>⟨fun b _ m e=>⟨vO (old _ _ e) m,s _ _ e⟩,fun b _ m e=>⟨vO (old _ _ e) m,s _ _ e⟩,fun b _ m e=>⟨vO (old _ _ e) m,s _ _ e⟩,fun _ _ e=>s _ _ e,fun _ _ _ e=>s _ _ e⟩
 have wa : ¬ W a:=(p.new ha).1
 refine⟨by rw [bs5,bs5]; exact p.len,p.same.trans s,fun b z=>?_,fun j m h=>?_,fun j k y z b h1 h2 h3 h4=>?_⟩
 ·rcases z with z | rfl
  ·obtain ⟨h1,o,h2,h3⟩:=p.wm b z
   exact⟨h1,o,s _ _ h2,h3⟩
  ·exact⟨(p.new ha).2,r.at⟩
 ·rcases eZ h with ⟨rfl,hl,e⟩ | ⟨hne,h⟩
  ·cases e
   rw [p.len] at hl
   exact⟨_,bt2 hl,a,rfl,.inr rfl,r⟩
  ·obtain ⟨u,e,q⟩:=p.sl j m h
   refine⟨u,by rw [bm8 (Ne.symm hne)]; exact e,?_⟩
   cases m with
   | sh g y=>exact aD.keep (kp g) q
   | own y=>
    obtain ⟨b,e1,e2,q⟩:=q
    exact⟨b,e1,.inl e2,q.keep (kp true) fun o z=>s _ _ z⟩
 ·have ne:∀ {j:Nat}{y:PV},ρ[j]? = some (some (.own y))->σ[j]? ≠ some (some (.ref a)):=fun {j y} h1 h2=>by
   obtain ⟨u,e,c,e1,e2,_⟩:=p.sl j _ h1
   rw [h2] at e
   cases e
   cases e1
   exact wa e2
  rcases eZ h1 with ⟨e1,l1,_⟩ | ⟨n1,h1⟩
  ·rcases eZ h2 with ⟨e2,_,_⟩ | ⟨n2,h2⟩
   ·rw [e1,e2]
   ·rw [e1,bt2 (by rw [<- p.len]; exact l1)] at h3
    rw [bm8 (Ne.symm n2)] at h4
    cases h3
    exact absurd h4 (ne h2)
  ·rw [bm8 (Ne.symm n1)] at h3
   rcases eZ h2 with ⟨e2,l2,_⟩ | ⟨n2,h2⟩
   ·rw [e2,bt2 (by rw [<- p.len]; exact l2)] at h4
    cases h4
    exact absurd h3 (ne h1)
   ·rw [bm8 (Ne.symm n2)] at h4
    exact p.dis j k y z b h1 h2 h3 h4
theorem Ev.own {a:Addr} (s:aE Hs H) (ha:Hs a=none):Ev W Hs (mU W a) H:=fun b o e n=>⟨s _ _ e,fun z=>z.elim n fun z=>by rw [z,ha] at e; cases e⟩
theorem oK {g:Bool}{a b:Addr} (wa:W a) (h:Ms H0 W g b):b ≠ a:=by
 cases g with
 | true=>exact fun z=>h.1 (by rw [z]; exact wa)
 | false=>exact fun z=>h (by rw [z]; exact wa)
theorem PX.updOwn {i:Nat}{a:Addr}{x y:PV}{o:HO} (p:PX K H0 W σ ρ H) (hi:ρ[i]? = some (some (.own x))) (ha:σ[i]? = some (some (.ref a))) (wa:W a) (mu:fY o=true) (r:iA K (Ms H0 W true) (upd H a o) a y) :
  PX K H0 W σ (ρ.set i (some (.own y))) (upd H a o):=by
 obtain ⟨w0,o',e',mu'⟩:=p.wm a wa
 have kp:∀ g,iP (Ms H0 W g) (Ms H0 W g) H (upd H a o):=fun g=>.upd e' mu' fun b m=>⟨oK wa m,m⟩
 refine⟨by rw [bs5]; exact p.len,fun b u e=>by rw [aZ (fun z=>by rw [z,w0] at e; cases e)]; exact p.same _ _ e,fun b z=>?_,fun j m h=>?_,fun j k y' z b h1 h2 h3 h4=>?_⟩
 ·by_cases e:b=a
  ·subst e; exact⟨w0,o,cH,mu⟩
  ·obtain ⟨h1,o2,h2,h3⟩:=p.wm b z
   exact⟨h1,o2,by rw [aZ e]; exact h2,h3⟩
 ·rcases eZ h with ⟨rfl,hl,e⟩ | ⟨hne,h⟩
  ·cases e
   exact⟨_,ha,a,rfl,wa,r⟩
  ·obtain ⟨u,e,q⟩:=p.sl j m h
   refine⟨u,e,?_⟩
   cases m with
   | sh g y=>exact aD.keep (kp g) q
   | own y=>
    obtain ⟨b,e1,e2,q⟩:=q
    have hb:b ≠ a:=fun z=>by
     subst e1
     rw [z] at e
     exact hne (p.dis j i _ _ a h hi e ha)
    exact⟨b,e1,e2,q.keep (kp true) fun o z=>by rw [aZ hb]; exact z⟩
 ·have g1:∃ y,ρ[j]? = some (some (.own y)):=by
   rcases eZ h1 with ⟨e,_,_⟩ | ⟨_,h⟩
   ·exact⟨x,by rw [e]; exact hi⟩
   ·exact⟨_,h⟩
  have g2:∃ y,ρ[k]? = some (some (.own y)):=by
   rcases eZ h2 with ⟨e,_,_⟩ | ⟨_,h⟩
   ·exact⟨x,by rw [e]; exact hi⟩
   ·exact⟨_,h⟩
  obtain ⟨y1,g1⟩:=g1
  obtain ⟨y2,g2⟩:=g2
  exact p.dis j k y1 y2 b g1 g2 h3 h4
theorem Ev.upd {a:Addr}{o:HO} (wa:W a):Ev W H W (upd H a o):=fun b u e n=>⟨by rw [aZ (fun z=>n (by rw [z]; exact wa))]; exact e,n⟩
def oM (W:Addr->Prop) (a:Addr):Addr->Prop:=fun b=>W b/\b ≠ a
theorem vP {g:Bool}{a b:Addr} (h:Ms H0 W g b):Ms H0 (oM W a) g b:=by
 cases g with
 | true=>exact⟨fun z=>h.1 z.1,h.2⟩
 | false=>exact fun z=>h z.1
theorem PX.freeze {i:Nat}{a:Addr}{x:PV} (p:PX K H0 W σ ρ H) (hi:ρ[i]? = some (some (.own x))) (ha:σ[i]? = some (some (.ref a))):PX K H0 (oM W a) σ (ρ.set i (some (.sh true x))) H:=by
 obtain ⟨v,ev,a',e1,wa,r⟩:=p.sl i _ hi
 rw [ha] at ev
 cases ev
 cases e1
 refine⟨by rw [bs5]; exact p.len,p.same,fun b z=>p.wm b z.1,fun j m h=>?_,fun j k y' z b h1 h2 h3 h4=>?_⟩
 ·rcases eZ h with ⟨rfl,hl,e⟩ | ⟨hne,h⟩
  ·cases e
   exact⟨_,ha,r.rep (M':=Ms H0 (oM W a) true) (fun b m=>vP (g:=true) m) (show Ms H0 (oM W a) true a from ⟨fun z=>z.2 rfl,(p.wm a wa).1⟩)⟩
  ·obtain ⟨u,e,q⟩:=p.sl j m h
   refine⟨u,e,?_⟩
   cases m with
   | sh g y=>exact aD.same q (aE.refl _) fun _ m=>vP m
   | own y=>
    obtain ⟨b,e1,e2,q⟩:=q
    have hb:b ≠ a:=fun z=>by
     subst e1
     rw [z] at e
     exact hne (p.dis j i _ _ a h hi e ha)
    exact⟨b,e1,⟨e2,hb⟩,q.keep (.same (aE.refl _) fun _ m=>vP m) fun _ z=>z⟩
 ·rcases eZ h1 with ⟨_,_,e⟩ | ⟨_,h1⟩
  ·cases e
  ·rcases eZ h2 with ⟨_,_,e⟩ | ⟨_,h2⟩
   ·cases e
   ·exact p.dis j k _ _ b h1 h2 h3 h4
theorem Ev.off {a:Addr}:Ev W H (oM W a) H:=fun b u e n=>⟨e,fun z=>n z.1⟩
end
section
variable {X : Cx} {σ : St} {H : Hp} {D : cZ} {te : aB} {t u : aP}
def bW:aP:=fun D ρ=>D.nx ρ
def aH (t u:aP):aP:=fun D ρ=>t { D with nx:=u D } ρ
theorem aA6 (h:LS X bW D σ H):zG D σ H:=by
 obtain ⟨W,ρ,D',px,q,k⟩:=h
 exact k.nx W σ H ρ (Ev.refl _ _) px q
theorem aA7 (h:LS X (aH t u) D σ H):zH (LS X t) (LS X u) D σ H:=by
 obtain ⟨W,ρ,D',px,q,k⟩:=h
 exact⟨W,ρ,_,px,q,fun W' σ' H' ρ' e px' q'=>⟨W',ρ',D',px',q',k.step e⟩,k.rt,k.bk,k.ct⟩
def vQ:Tg->PV->Bool
 | .fr,_=>true
 | .nw,_=>true
 | _,x=>flat x
def vR:Tg->PV->Prop
 | .rd,x=>flat x=true
 | _,_=>True
theorem J6 {K:PySem.W.Frag}{H0 Hs H:Hp}{W:Addr->Prop}{σ:St}{ρ:bC}{g:Tg}{x:PV}{v:V} (px:PX K H0 W σ ρ Hs) (n:vR g x) (r:aD K (Mg H0 W Hs g) H v x):aD K (Ms H0 W (vQ g x)) H v x:=by
 cases g with
 | fr=>exact Nw.rep (g:=.fr) px trivial r
 | nw=>exact Nw.rep (g:=.nw) px trivial r
 | sh=>
  show aD K (Ms H0 W (flat x)) H v x
  cases e:flat x with
  | true=>exact r.flat e
  | false=>exact r.same (aE.refl _) fun _ z=>z
 | rd=>exact r.flat n
def bB (i:Nat) (te:aB):aP:=fun D ρ=>te ρ fun x g=>vR g x/\D.nx (ρ.set i (some (.sh (vQ g x) x)))
theorem J7 {i:Nat} (h:LS X (bB i te) D σ H):mO (LE X te) (dA i) D σ H:=by
 obtain ⟨W,ρ,D',px,q,k⟩:=h
 refine⟨W,ρ,_,px,q,?_⟩
 rintro v H1 x g s r ⟨n,q⟩
 exact k.nx W _ H1 _ (Ev.same s) ((px.mono s).setSh (J6 px n r)) q
def J8:PV->Bool
 | .lst xs=>flats xs
 | .dK ps=>flats (ps.map (·.2))
 | .dT ps=>flats (ps.map (·.2))
 | _=>false
theorem aA8 {K:PySem.W.Frag}{M:Addr->Prop}{H:Hp}{v:V}{x:PV} (r:aD K M H v x) (o:J8 x=true):∃ a,v = .ref a/\M a/\∀ M',iA K M' H a x:=by
 cases r with
 | lst m e r=>exact⟨_,rfl,m,fun _=>⟨_,e,r.flat o⟩⟩
 | dK m e q r=>exact⟨_,rfl,m,fun _=>⟨_,e,q,r.flat o⟩⟩
 | dT m e q r=>exact⟨_,rfl,m,fun _=>⟨_,e,q,r.flat o⟩⟩
 | _=>cases o
def gL (i:Nat) (te:aB):aP:=fun D ρ=>te ρ fun x g=>g = .fr/\J8 x=true/\D.nx (ρ.set i (some (.own x)))
theorem aA9 {i:Nat} (h:LS X (gL i te) D σ H):mO (LE X te) (dA i) D σ H:=by
 obtain ⟨W,ρ,D',px,q,k⟩:=h
 refine⟨W,ρ,_,px,q,?_⟩
 rintro v H1 x g s r ⟨rfl,o,q⟩
 obtain ⟨a,rfl,m,w⟩:=aA8 r o
 exact k.nx _ _ H1 _ (Ev.own s m) (px.setOwn s m (w _)) q
def vS (i:Nat) (t:aP):aP:=fun D ρ=>∃ x,ρ[i]? = some (some (.own x))/\t D (ρ.set i (some (.sh true x)))
theorem aB0 {i:Nat} (h:LS X (vS i t) D σ H):LS X t D σ H:=by
 obtain ⟨W,ρ,D',px,⟨x,hi,q⟩,k⟩:=h
 obtain ⟨v,ev,a,rfl,wa,r⟩:=px.sl i _ hi
 exact⟨_,_,D',px.freeze hi ev,q,k.step Ev.off⟩
def vT (te:aB):aP:=fun D ρ=>te ρ fun _ _=>D.nx ρ
theorem aB1 (h:LS X (vT te) D σ H):o8 (LE X te) D σ H:=by
 obtain ⟨W,ρ,D',px,q,k⟩:=h
 exact⟨W,ρ,_,px,q,fun v H1 x g s r q=>k.nx W σ H1 ρ (Ev.same s) (px.mono s) q⟩
def bG (te:aB):aP:=fun D ρ=>te ρ fun x g=>Nw g x/\D.rt x
theorem aB2 (h:LS X (bG te) D σ H):u9 (LE X te) D σ H:=by
 obtain ⟨W,ρ,D',px,q,k⟩:=h
 refine⟨W,ρ,_,px,q,?_⟩
 rintro v H1 x g s r ⟨n,q⟩
 exact k.rt v H1 x (px.same.trans s) ((Nw.rep px n r).same (aE.refl _) fun _ z=>z.2) q
def Slot.nw:Slot->Prop
 | .own _=>True
 | .sh true _=>True
 | .sh false x=>flat x=true
def lE (i:Nat):aP:=fun D ρ=>∃ m,ρ[i]? = some (some m)/\m.nw/\D.rt m.val
theorem aB3 {i:Nat} (h:LS X (lE i) D σ H):u9 (kU i) D σ H:=by
 obtain ⟨W,ρ,D',px,⟨m,hi,n,q⟩,k⟩:=h
 obtain ⟨v,ev,r⟩:=px.sl i _ hi
 refine⟨v,ev,k.rt v H _ px.same ?_ q⟩
 cases m with
 | own x=>
  obtain ⟨a,rfl,wa,r⟩:=r
  exact r.rep (fun _ z=>z.2) (px.wm a wa).1
 | sh g x=>
  cases g with
  | true=>exact aD.same r (aE.refl _) fun _ z=>z.2
  | false=>exact aD.flat n r
def bR (c:cN) (t u:aP):aP:=fun D ρ=>c ρ fun b=>if b=true then t D ρ else u D ρ
theorem aB4 {c:cN} (h:LS X (bR c t u) D σ H):zJ (LT X c) (LS X t) (LS X u) D σ H:=by
 obtain ⟨W,ρ,D',px,q,k⟩:=h
 refine⟨W,ρ,_,px,q,fun b H1 s q1=>?_⟩
 cases b with
 | true=>exact b7 ⟨W,ρ,D',px.mono s,by simpa using q1,k.step (Ev.same s)⟩
 | false=>exact aJ ⟨W,ρ,D',px.mono s,by simpa using q1,k.step (Ev.same s)⟩
def r9 (c:cN) (tb:aP):aP:=fun D ρ=>∃ I:Nat->bC->Prop,(∃ m,I m ρ)/\∀ m ρ',I m ρ'->c ρ' fun b=>if b=true then tb { D with nx:=fun ρ2=>∃ m',m' < m/\I m' ρ2,ct:=fun ρ2=>∃ m',m' < m/\I m' ρ2,bk:=D.nx } ρ' else D.nx ρ'
theorem aB5 {c:cN}{tb:aP} (h:LS X (r9 c tb) D σ H):zM (LT X c) (LS X tb) D σ H:=by
 obtain ⟨W,ρ,D',px,⟨I,⟨m0,i0⟩,turn⟩,k⟩:=h
 refine⟨fun m σ2 H2=>∃ W2 ρ2,PX X.K X.H₀ W2 σ2 ρ2 H2/\Ev W H W2 H2/\I m ρ2,⟨m0,W,ρ,px,Ev.refl _ _,i0⟩,?_⟩
 rintro m σ2 H2 ⟨W2,ρ2,px2,e2,i2⟩
 refine⟨W2,ρ2,_,px2,turn m ρ2 i2,fun b H3 s3 q3=>?_⟩
 cases b with
 | true=>
  refine b7 ⟨fun σ4 H4=>∃ W4 ρ4,PX X.K X.H₀ W4 σ4 ρ4 H4/\Ev W H W4 H4/\∃ m',m' < m/\I m' ρ4,fun σ4 H4 ⟨W4,ρ4,a,b,m',c,d⟩=>⟨m',c,W4,ρ4,a,b,d⟩,W2,ρ2,_,px2.mono s3,by simpa using q3,?_⟩
  have e3:Ev W H W2 H3:=e2.trans (Ev.same s3)
  exact⟨fun W' σ' H' ρ' e p q=>⟨W',ρ',p,e3.trans e,q⟩,k.rt,fun W' σ' H' ρ' e p q=>k.nx W' σ' H' ρ' (e3.trans e) p q,fun W' σ' H' ρ' e p q=>⟨W',ρ',p,e3.trans e,q⟩⟩
 | false=>exact aJ (k.nx W2 σ2 H3 ρ2 (e2.trans (Ev.same s3)) (px2.mono s3) (by simpa using q3))
end
theorem lim {n:Nat} (h:n<=16000000):n<=sizeLine:=bw8 (qU h)
theorem aD.sqT {K:PySem.W.Frag}{M:Addr->Prop}{H:Hp}{v:V}{xs:List PV} (r:aD K M H v (.tup xs)):∃ a us,v = .ref a/\H a=some (.tup us)/\Reps K M H us xs:=by
 cases r with
 | tup e r=>exact⟨_,_,rfl,e,r⟩
theorem aD.sqL {K:PySem.W.Frag}{M:Addr->Prop}{H:Hp}{v:V}{xs:List PV} (r:aD K M H v (.lst xs)):∃ a us,v = .ref a/\M a/\H a=some (.lst us)/\Reps K M H us xs:=by
 cases r with
 | lst m e r=>exact⟨_,_,rfl,m,e,r⟩
theorem jH.sqL {K:PySem.W.Frag}{H:Hp}{a:Addr}{ns:List Int} (h:jH K H a ns):aT K H a (ns.map V.int):=h.elim (fun z=>.inl (.inr z)) .inr
def jJ:PV->Option (List PV)
 | .tup xs=>some xs
 | .lst xs=>some xs
 | .scr ns=>some (intz ns)
 | .kt xs=>some xs
 | _=>none
theorem aD.seq {K:PySem.W.Frag}{M:Addr->Prop}{H:Hp}{v:V}{x:PV}{xs:List PV} (r:aD K M H v x) (e:jJ x=some xs):∃ a us,v = .ref a/\(aT K H a us ∨ aU K H a us)/\Reps K M H us xs:=by
 cases r with
 | tup h r=>cases e; exact⟨_,_,rfl,.inr (aU.of h),r⟩
 | lst m h r=>cases e; exact⟨_,_,rfl,.inl (aT.of h),r⟩
 | scr h=>cases e; exact⟨_,_,rfl,.inl h.sqL,Reps.intz _⟩
 | kt h r=>cases e; exact⟨_,_,rfl,.inr (.inr h),r⟩
 | _=>cases e
section
variable {X : Cx} {σ : St} {H : Hp} {D : cZ} {te ti to : aB} {t u : aP} {Q' : VK}
theorem _root_.PP.PX.updL {K:PySem.W.Frag}{H0:Hp}{W:Addr->Prop}{σ:St}{ρ:bC}{H:Hp}{i:Nat}{a:Addr}{x:PV}{us:List V}{ys:List PV} (p:PX K H0 W σ ρ H) (hi:ρ[i]? = some (some (.own x))) (ha:σ[i]? = some (some (.ref a))) (wa:W a) (r:Reps K (Ms H0 W true) (upd H a (.lst us)) us ys) :
  PX K H0 W σ (ρ.set i (some (.own (.lst ys)))) (upd H a (.lst us)):=p.updOwn hi ha wa rfl (y:=.lst ys) ⟨us,cH,r⟩
def iQ (i:Nat) (te:aB):aP:=fun D ρ=>∃ xs,ρ[i]? = some (some (.own (.lst xs)))/\te ρ fun x g=>Nw g x/\xs.length < 16000000/\D.nx (ρ.set i (some (.own (.lst (xs ++ [x])))))
theorem aB6 {i:Nat} (h:LS X (iQ i te) D σ H):o8 (uS X.K "list" C6 (kU i) (kA (LE X te) kZ)) D σ H:=by
 obtain ⟨W,ρ,D',px,⟨xs,hi,q⟩,k⟩:=h
 obtain ⟨v,ev,a,rfl,wa,us,ea,r⟩:=px.sl i _ hi
 refine⟨_,ev,G4 (aT.of ea),W,ρ,_,px,q,?_⟩
 rintro w H1 x g s rx ⟨n,hl,q⟩
 have ea1:=s _ _ ea
 refine⟨a,us,w,rfl,rfl,ea1,qU (by rw [r.length]; omega),?_⟩
 refine k.nx W σ _ _ ((Ev.same s).trans (Ev.upd wa)) ((px.mono s).updL hi ev wa ?_) q
 exact ((r.same s fun _ z=>z).append (.cons (Nw.rep px n rx) .nil)).keep (.upd ea1 rfl fun b m=>⟨oK wa m,m⟩)
end
theorem Reps.atI {K:PySem.W.Frag}{M:Addr->Prop}{H:Hp}{us:List V}{xs:List PV}{i:Int}{z:PV} (r:Reps K M H us xs) (h:L2.atI xs i=some z):∃ v,L2.atI us i=some v/\aD K M H v z:=by
 unfold L2.atI at h ⊢
 rw [r.length]
 cases e:l0 xs.length i with
 | none=>rw [e] at h; cases h
 | some j=>rw [e] at h; exact r.at h
section
variable {X : Cx} {σ : St} {H : Hp} {Q' : VK} {ta tb te : aB} {tr : cP}
def vU:PV->Tg->PV->Tg->PK->Prop:=fun x g y _ Q=>∃ xs i z,jJ x=some xs/\y = .int i/\L2.atI xs i=some z/\Q z g
theorem aB7:dR X vU (C4 X.K):=by
 rintro W Hs H u v x y g g' Q Q' s n r1 r2 ⟨xs,i,z,e,rfl,hz,q⟩ k
 cases r2
 obtain ⟨a,us,rfl,hs,r⟩:=r1.seq e
 obtain ⟨v,hv,rv⟩:=r.atI hz
 rcases hs with hs | hs
 ·exact .inl ⟨a,us,i,v,rfl,rfl,hs,hv,k v H z g (aE.refl _) rv q⟩
 ·exact .inr (.inl ⟨a,us,i,v,rfl,rfl,hs,hv,k v H z g (aE.refl _) rv q⟩)
def K0:PV->Option Nat
 | .tup xs=>some xs.length
 | .lst xs=>some xs.length
 | .scr ns=>some ns.length
 | .dK ps=>some ps.length
 | .kt xs=>some xs.length
 | _=>none
def fZ:List PV->(PV->Prop)->Prop:=fun xs Q=>∃ x n,xs = [x]/\K0 x=some n/\Q (.int n)
theorem Reps.one {K:PySem.W.Frag}{M:Addr->Prop}{H:Hp}{vs:List V}{x:PV} (r:Reps K M H vs [x]):∃ v,vs = [v]/\aD K M H v x:=by
 cases r with
 | cons r t=>cases t; exact⟨_,rfl,r⟩
theorem Reps.two {K:PySem.W.Frag}{M:Addr->Prop}{H:Hp}{vs:List V}{x y:PV} (r:Reps K M H vs [x,y]):∃ v w,vs = [v,w]/\aD K M H v x/\aD K M H w y:=by
 cases r with
 | cons r t=>
  obtain ⟨w,rfl,q⟩:=t.one
  exact⟨_,_,rfl,r,q⟩
theorem aB8:eY X fZ (fun xs H Q=>(∃ p ys,xs = [.ref p]/\(aT X.K H p ys ∨ aU X.K H p ys)/\Q (.int ys.length) H) ∨ ∃ a kvs,xs = [V.ref a]/\H a=some (.dK kvs)/\Q (.int kvs.length) H):=by
 rintro H vs xs Q Q' r ⟨x,n,rfl,e,q⟩ k
 obtain ⟨v,rfl,r1⟩:=r.one
 have fin:∀ {m:Nat},m=n->Q' (.int m) H:=fun {m} z=>by rw [z]; exact k _ _ _ (aE.refl _) (.int _) q
 cases r1 with
 | tup h r2=>cases e; exact .inl ⟨_,_,rfl,.inr (aU.of h),fin r2.length⟩
 | lst m h r2=>cases e; exact .inl ⟨_,_,rfl,.inl (aT.of h),fin r2.length⟩
 | scr h=>cases e; exact .inl ⟨_,_,rfl,.inl h.sqL,fin (by rw [bk8])⟩
 | kt h r2=>cases e; exact .inl ⟨_,_,rfl,.inr (.inr h),fin r2.length⟩
 | dK m h e' r=>
  cases e
  refine .inr ⟨_,_,rfl,h,fin ?_⟩
  have:=congrArg List.length e'
  rw [bk8,bk8] at this
  exact this
 | _=>cases e
def rA:PV->Option (List PV)
 | .kt _=>none
 | x=>jJ x
def K1:List PV->(PV->Prop)->Prop:=fun xs Q=>∃ x ys,xs = [x]/\rA x=some ys/\flats ys=true/\Q (.tup ys)
def oN:List PV->(PV->Prop)->Prop:=fun xs Q=>∃ x ys,xs = [x]/\jJ x=some ys/\flats ys=true/\Q (.lst ys)
theorem aB9:eY X (fun xs Q=>K1 xs Q/\∀ ns,xs ≠ [.scr ns]) (fun xs H Q=>∃ p ys,xs = [.ref p]/\((aT X.K H p ys/\∀ l,H l=none->Q (.ref l) (upd H l (.tup ys))) ∨ (aU X.K H p ys/\Q (.ref p) H))):=by
 rintro H vs xs Q Q' r ⟨⟨x,ys,rfl,e,f,q⟩,nsc⟩ k
 obtain ⟨v,rfl,r1⟩:=r.one
 cases r1 with
 | tup h r2=>cases e; exact⟨_,_,rfl,.inr ⟨aU.of h,k _ _ _ (aE.refl _) (.tup h (r2.flat f)) q⟩⟩
 | lst m h r2=>cases e; exact⟨_,_,rfl,.inl ⟨aT.of h,fun l hl=>k _ _ _ (cA hl _) (.tup cH ((r2.flat f).same (cA hl _) fun _ z=>z)) q⟩⟩
 | scr h=>exact absurd rfl (nsc _)
 | _=>cases e
theorem aC0:eY X oN (fun xs H Q=>∃ p ys,xs = [.ref p]/\(aT X.K H p ys ∨ aU X.K H p ys)/\∀ l,H l=none->Q (.ref l) (upd H l (.lst ys))):=by
 rintro H vs xs Q Q' r ⟨x,ys,rfl,e,f,q⟩ k
 obtain ⟨v,rfl,r1⟩:=r.one
 obtain ⟨a,us,rfl,hs,r2⟩:=r1.seq e
 exact⟨_,_,rfl,hs,fun l hl=>k _ _ _ (cA hl _) (.lst hl cH ((r2.flat f).same (cA hl _) fun _ z=>z)) q⟩
def rB:List PV->(PV->Prop)->Prop:=fun xs Q=>∃ bs:List Bool,xs = [.lst (bs.map PV.bl)]/\Q (.bl (bs.all id))
theorem Reps.ofBls {K:PySem.W.Frag}{M:Addr->Prop}{H:Hp}:∀ {ns:List Bool}{us:List V},Reps K M H us (ns.map PV.bl)->us=ns.map V.bl
 | [],_,.nil=>rfl
 | n :: r,_,.cons q t=>by
  cases q
  rw [Reps.ofBls t]; rfl
theorem aC1:eY X rB (fun xs H Q=>∃ (a:Addr) (bs:List Bool),xs = [.ref a]/\aT X.K H a (bs.map V.bl)/\Q (.bl (bs.all id)) H):=by
 rintro H vs xs Q Q' r ⟨bs,rfl,q⟩ k
 obtain ⟨v,rfl,r1⟩:=r.one
 obtain ⟨a,us,rfl,_,h,r2⟩:=r1.sqL
 obtain rfl:=r2.ofBls
 exact⟨a,bs,rfl,aT.of h,k _ _ _ (aE.refl _) (.bl _) q⟩
def mV:List PV->(PV->Prop)->Prop:=fun xs Q=>∃ i j,xs = [.int i,.int j]/\Q (.int (if j < i then j else i))
def kE:List PV->(PV->Prop)->Prop:=fun xs Q=>∃ i j,xs = [.int i,.int j]/\Q (.int (if j > i then j else i))
theorem aC2:eY X mV (fun xs H Q=>∃ i j,xs = [.int i,.int j]/\Q (.int (if j < i then j else i)) H):=by
 rintro H vs xs Q Q' r ⟨i,j,rfl,q⟩ k
 obtain ⟨v,w,rfl,r1,r2⟩:=r.two
 cases r1; cases r2
 exact⟨i,j,rfl,k _ _ _ (aE.refl _) (.int _) q⟩
theorem aC3:eY X kE (fun xs H Q=>∃ i j,xs = [.int i,.int j]/\Q (.int (if j > i then j else i)) H):=by
 rintro H vs xs Q Q' r ⟨i,j,rfl,q⟩ k
 obtain ⟨v,w,rfl,r1,r2⟩:=r.two
 cases r1; cases r2
 exact⟨i,j,rfl,k _ _ _ (aE.refl _) (.int _) q⟩
abbrev bS:=List PV->(PV->Prop)->Prop
def oO (K:PySem.W.Frag) (p:bS):Sp:=fun vs H Q _=>∃ xs Qp,Reps K (fun _=>True) H vs xs/\p xs Qp/\∀ v H' x,aE H H'->aD K (fun a=>H a=none) H' v x->Qp x->Q v H'
theorem aC4 {p:bS}{E:XK} (h:LE X (aG p tr) σ H Q'):uL (oO X.K p) [] E (LA X tr) σ H Q':=by
 obtain ⟨W,ρ,Q,px,q,k⟩:=h
 refine⟨W,ρ,_,px,q,fun vs H1 xs s1 r1 q1=>⟨_,_,by rw [bo5]; exact r1.any,q1,fun v H' x s2 r2 q2=>k v H' x .fr (s1.trans s2) (r2.same (aE.refl _) fun _ z=>s1.free z) q2⟩⟩
def vV:PV->Bool
 | .non=>true
 | _=>false
def mW (neg:Bool):PV->Tg->PV->Tg->PK->Prop:=fun x _ y _ Q=>y = .non/\Q (.bl (if neg=true then !vV x else vV x)) .fr
theorem K2 {K:PySem.W.Frag}{M:Addr->Prop}{H:Hp}{v:V}{x:PV} (r:aD K M H v x):decide (v = .non)=vV x:=by
 cases r <;> rfl
theorem aC5:dR X (mW false) (fun x y H Q=>y = .non/\Q (.bl (decide (x = .non))) H):=by
 rintro W Hs H u v x y g g' Q Q' s n r1 r2 ⟨rfl,q⟩ k
 cases r2
 exact⟨rfl,by rw [K2 r1]; exact k _ _ _ _ (aE.refl _) (.bl _) q⟩
theorem aC6:dR X (mW true) (fun x y H Q=>y = .non/\Q (.bl (!decide (x = .non))) H):=by
 rintro W Hs H u v x y g g' Q Q' s n r1 r2 ⟨rfl,q⟩ k
 cases r2
 exact⟨rfl,by rw [K2 r1]; exact k _ _ _ _ (aE.refl _) (.bl _) q⟩
end
structure kF (K:PySem.W.Frag) (H0:Hp) (W:Addr->Prop) (g:Bool) (H1:Hp) (J:It) (xs:List PV):Prop where
 go:∀ W' H' i,Ev W H1 W' H'->i < xs.length->J.go i H'
 yld:∀ W' H' i v H2,Ev W H1 W' H'->J.yld i H' v H2->i < xs.length->aE H' H2/\∃ x,xs[i]? = some x/\aD K (Ms H0 W' g) H2 v x
 stop:∀ W' H',Ev W H1 W' H'->J.stop xs.length H'
abbrev fB:=bC->(List PV->Bool->Prop)->Prop
def LI (X:Cx) (t:fB):TI:=fun σ H R=>∃ (W:Addr->Prop) (ρ:bC) (Q:List PV->Bool->Prop),PX X.K X.H₀ W σ ρ H/\t ρ Q/\∀ J H1 xs g,aE H H1->kF X.K X.H₀ W g H1 J xs->Q xs g->R J H1
theorem Ev.keep {H0:Hp}{W W':Addr->Prop}{H H':Hp}{g:Bool} (e:Ev W H W' H') (tw:∀ a,W a->∃ o,H a=some o/\fY o=true):iP (Ms H0 W g) (Ms H0 W' g) H H':=by
 have m:∀ {a:Addr}{o:HO},Ms H0 W g a->H a=some o->Ms H0 W' g a/\H' a=some o:=fun {a o} z h=>by
  cases g with
  | true=>
   obtain ⟨h1,h2⟩:=e a _ h z.1
   exact⟨⟨h2,z.2⟩,h1⟩
  | false=>
   obtain ⟨h1,h2⟩:=e a _ h z
   exact⟨h2,h1⟩
 refine⟨fun a _ z h=>m z h,fun a _ z h=>m z h,fun a _ z h=>m z h,fun a _ h=>(e a _ h fun z=>?_).1,fun a _ _ h=>(e a _ h fun z=>?_).1⟩
 ·obtain ⟨o,h',mu⟩:=tw a z; rw [h] at h'; cases h'; cases mu
 ·obtain ⟨o,h',mu⟩:=tw a z; rw [h] at h'; cases h'; cases mu
section
variable {X : Cx} {σ : St} {H : Hp} {te : aB} {tr : cP} {R : It → Hp → Prop}
def K3 (K:PySem.W.Frag) (tl:TE):TI:=fun σ H R=>tl σ H fun x H1=>∃ a,x = .ref a/\((∃ xs,aT K H1 a xs/\R (uB K a) H1) ∨ (∃ xs,aU K H1 a xs/\R (uC K a) H1))
def rC:Tg->List PV->Bool
 | .fr,_=>true
 | .nw,_=>true
 | _,xs=>flats xs
def dI (te:aB):fB:=fun ρ Q=>te ρ fun x g=>∃ xs,jJ x=some xs/\(g = .rd->flat x=true)/\Q xs (rC g xs)
theorem K4 {K:PySem.W.Frag}{H0:Hp}{W:Addr->Prop}{g:Bool}{H1:Hp}{a:Addr}{us:List V}{xs:List PV} (tw:∀ a,W a->∃ o,H1 a=some o/\fY o=true) (ha:∀ W' H',Ev W H1 W' H'->aT K H' a us) (r:Reps K (Ms H0 W g) H1 us xs):kF K H0 W g H1 (uB K a) xs:=by
 have lr:=r.length
 refine⟨fun W' H' i e hi=>⟨us,us[i]'(by omega),ha W' H' e,by simp⟩,fun W' H' i v H2 e y hi=>?_,fun W' H' e=>⟨us,ha W' H' e,by omega⟩⟩
 obtain ⟨rfl,y⟩:=y
 obtain ⟨x,hx,rx⟩:=r.get (y us (ha W' _ e))
 exact⟨aE.refl _,x,hx,rx.keep (e.keep tw)⟩
theorem K5 {K:PySem.W.Frag}{H0:Hp}{W:Addr->Prop}{g:Bool}{H1:Hp}{a:Addr}{us:List V}{xs:List PV} (tw:∀ a,W a->∃ o,H1 a=some o/\fY o=true) (ha:∀ W' H',Ev W H1 W' H'->aU K H' a us) (r:Reps K (Ms H0 W g) H1 us xs):kF K H0 W g H1 (uC K a) xs:=by
 have lr:=r.length
 refine⟨fun W' H' i e hi=>⟨us,us[i]'(by omega),ha W' H' e,by simp⟩,fun W' H' i v H2 e y hi=>?_,fun W' H' e=>⟨us,ha W' H' e,by omega⟩⟩
 obtain ⟨rfl,y⟩:=y
 obtain ⟨x,hx,rx⟩:=r.get (y us (ha W' _ e))
 exact⟨aE.refl _,x,hx,rx.keep (e.keep tw)⟩
theorem mX {K:PySem.W.Frag}{H0 Hs H:Hp}{W:Addr->Prop}{σ:St}{ρ:bC}{g:Tg}{us:List V}{xs:List PV} (px:PX K H0 W σ ρ Hs) (hg:g = .rd->flats xs=true) (r:Reps K (Mg H0 W Hs g) H us xs):Reps K (Ms H0 W (rC g xs)) H us xs:=by
 cases g with
 | fr=>exact r.same (aE.refl _) fun _ z=>px.new z
 | nw=>exact r.same (aE.refl _) fun _ z=>z
 | sh=>
  show Reps K (Ms H0 W (flats xs)) H us xs
  cases e:flats xs with
  | true=>exact r.flat e
  | false=>exact r.same (aE.refl _) fun _ z=>z
 | rd=>exact r.flat (hg rfl)
theorem aC7 (h:LI X (dI te) σ H R):K3 X.K (LE X te) σ H R:=by
 obtain ⟨W,ρ,Q,px,q,k⟩:=h
 refine⟨W,ρ,_,px,q,?_⟩
 rintro v H1 x g s r ⟨xs,e,hg,q⟩
 have px1:=px.mono s
 have tw:∀ a,W a->∃ o,H1 a=some o/\fY o=true:=fun a z=>(px1.wm a z).2
 cases r with
 | tup h r=>
  cases e
  refine⟨_,rfl,.inr ⟨_,aU.of h,k _ _ _ _ s (K5 tw (fun W' H' e=>aU.of (e _ _ h fun z=>?_).1) (mX px (fun z=>by have:=hg z; unfold flat at this; exact this) r)) q⟩⟩
  obtain ⟨o,h',mu⟩:=tw _ z; rw [h] at h'; cases h'; cases mu
 | @lst a us xs' m h r=>
  cases e
  have wa : ¬ W a:=by
   cases g with
   | fr=>exact (px.new m).1
   | nw=>exact m.1
   | sh=>exact m
   | rd=>have:=hg rfl; unfold flat at this; cases this
  exact⟨_,rfl,.inl ⟨_,aT.of h,k _ _ _ _ s (K4 tw (fun W' H' e=>aT.of (e _ _ h wa).1) (mX px (fun z=>by have:=hg z; unfold flat at this; cases this) r)) q⟩⟩
 | scr h=>
  cases e
  refine⟨_,rfl,.inl ⟨_,h.sqL,k _ _ _ _ s (K4 tw (fun W' H' e=>(jH.keep (fun a o u hz=>(e _ _ hz fun z=>?_).1) h).sqL) (mX (g:=g) px (fun z=>oH _) (Reps.intz _))) q⟩⟩
  obtain ⟨o,h',mu⟩:=tw _ z; rw [hz] at h'; cases h'; cases mu
 | kt h r=>
  cases e
  exact⟨_,rfl,.inr ⟨_,.inr h,k _ _ _ _ s (K5 tw (fun W' H' e=>.inr h) (mX px (fun z=>by have:=hg z; unfold flat at this; exact this) r)) q⟩⟩
 | _=>cases e
def gM (lo:Int) (n:Nat):List PV:=(List.range n).map fun (i:Nat)=>PV.int (lo+(i:Int))
theorem mY (lo:Int) (n:Nat):(gM lo n).length=n:=by unfold gM; rw [bk8,List.length_range]
theorem K6 {lo:Int}{n i:Nat} (h:i < n):(gM lo n)[i]? = some (.int (lo+i)):=by unfold gM; rw [bl9,List.getElem?_range h]; rfl
def oP (te:aB):fB:=fun ρ Q=>te ρ fun x _=>∃ j:Int,x = .int j/\-1000000<=j/\j<=1000000/\Q (gM 0 j.toNat) true
theorem aC8 {K:PySem.W.Frag}{H0:Hp}{W:Addr->Prop}{H1:Hp} (lo:Int) (n:Nat):kF K H0 W true H1 (qF lo n) (gM lo n):=by
 refine⟨fun W' H' i e hi=>by rw [mY] at hi; exact hi,fun W' H' i v H2 e y hi=>?_,fun W' H' e=>by show n<=(gM lo n).length; rw [mY]; exact bl1 _⟩
 rw [mY] at hi
 obtain ⟨rfl,rfl⟩:=y
 exact⟨aE.refl _,_,K6 hi,.int _⟩
theorem aC9 (h:LI X (oP te) σ H R):zO (kA (LE X te) kZ) σ H R:=by
 obtain ⟨W,ρ,Q,px,q,k⟩:=h
 refine⟨W,ρ,_,px,q,?_⟩
 rintro v H1 x g s r ⟨j,rfl,h1,h2,q⟩
 cases r
 exact⟨j,rfl,by omega,by omega,k _ _ _ _ s (aC8 0 j.toNat) q⟩
end
abbrev iE:=PV->Bool->bC->(bC->Prop)->Prop
def lF (K:PySem.W.Frag) (own:Nat->Prop) (p:iE) (t:TG):Prop:=∀ (H0:Hp) (W:Addr->Prop) (σ:St) (ρ:bC) (H:Hp) (v:V) (x:PV) (g:Bool) (Q:bC->Prop) (Q':St->Hp->Prop),
 PX K H0 W σ ρ H->aD K (Ms H0 W g) H v x->p x g ρ Q->(∀ σ' ρ',PX K H0 W σ' ρ' H->(∀ i,¬ own i->σ'[i]? = σ[i]?)->σ'.length=σ.length->Q ρ'->Q' σ' H)->t v σ H Q'
def cQ (i:Nat):iE:=fun x g ρ Q=>Q (ρ.set i (some (.sh (g || flat x) x)))
theorem kG {K:PySem.W.Frag}{H0 H:Hp}{W:Addr->Prop}{v:V}{x:PV}{g:Bool} (r:aD K (Ms H0 W g) H v x):aD K (Ms H0 W (g || flat x)) H v x:=by
 cases g with
 | true=>exact r
 | false=>
  show aD K (Ms H0 W (flat x)) H v x
  cases e:flat x with
  | true=>exact r.flat e
  | false=>exact r
theorem rD (K:PySem.W.Frag) (i:Nat):lF K (· = i) (cQ i) (dA i):=by
 intro H0 W σ ρ H v x g Q Q' px r q k
 exact k _ _ (px.setSh (kG r)) (fun j hj=>by rw [bm8 (Ne.symm hj)]) (bs5 ..) q
def gN (i j:Nat):iE:=fun x g ρ Q=>∃ y z,x = .tup [y,z]/\Q ((ρ.set i (some (.sh (g || flat y) y))).set j (some (.sh (g || flat z) z)))
theorem vW (K:PySem.W.Frag) (i j:Nat):lF K (fun k=>k=i ∨ k=j) (gN i j) (mM K 2 (gF (dA i) (gF (dA j) mL))):=by
 intro H0 W σ ρ H v x g Q Q' px r q k
 obtain ⟨y,z,rfl,q⟩:=q
 obtain ⟨a,us,rfl,h,r⟩:=r.sqT
 obtain ⟨u1,u2,rfl,r1,r2⟩:=r.two
 refine⟨a,_,rfl,aU.of h,rfl,u1,_,rfl,u2,_,rfl,rfl,k _ _ ((px.setSh (kG r1)).setSh (kG r2)) (fun k hk=>?_) (by rw [bs5,bs5]) q⟩
 rw [bm8 (fun e=>hk (.inr e.symm)),bm8 (fun e=>hk (.inl e.symm))]
section
variable {X : Cx} {σ : St} {H : Hp} {D : cZ}
def dB (ti:fB) (p:iE) (tb:aP):aP:=fun D ρ=>ti ρ fun xs g=>∃ I:Nat->bC->Prop,I 0 ρ/\(∀ i x ρ',xs[i]? = some x->I i ρ'->p x g ρ' fun ρ2=>tb { D with nx:=I (i+1),ct:=I (i+1),bk:=D.nx } ρ2)/\∀ ρ',I xs.length ρ'->D.nx ρ'
theorem aD0 {ti:fB}{p:iE}{g:TG}{tb:aP}{own:Nat->Prop} (hg:lF X.K own p g) (h:LS X (dB ti p tb) D σ H):zP (LI X ti) g (LS X tb) D σ H:=by
 obtain ⟨W,ρ,D',px,q,k⟩:=h
 refine⟨W,ρ,_,px,q,?_⟩
 rintro J H1 xs gb s it ⟨I,i0,turn,fin⟩
 refine⟨fun i m σ2 H2=>m=xs.length - i/\i<=xs.length/\∃ W2 ρ2,PX X.K X.H₀ W2 σ2 ρ2 H2/\Ev W H1 W2 H2/\I i ρ2,⟨xs.length,by omega,bu5 _,W,ρ,px.mono s,Ev.refl _ _,i0⟩,?_⟩
 rintro i m σ2 H2 ⟨rfl,hi,W2,ρ2,px2,e2,i2⟩
 have e0:Ev W H W2 H2:=(Ev.same s).trans e2
 by_cases hlt:i < xs.length
 ·refine .inr ⟨it.go W2 H2 i e2 hlt,fun σ3 H3=>∃ W3 ρ3,PX X.K X.H₀ W3 σ3 ρ3 H3/\Ev W H1 W3 H3/\I (i+1) ρ3,fun σ3 H3 ⟨W3,ρ3,a,b,c⟩=>⟨xs.length - (i+1),by omega,rfl,hlt,W3,ρ3,a,b,c⟩,fun v H3 y=>?_⟩
  obtain ⟨s3,x,hx,rx⟩:=it.yld W2 H2 i v H3 e2 y hlt
  refine hg X.H₀ W2 σ2 ρ2 H3 v x gb _ _ (px2.mono s3) rx (turn i x ρ2 hx i2) fun σ4 ρ4 px4 _ _ q4=>?_
  have e3:Ev W H1 W2 H3:=e2.trans (Ev.same s3)
  have e3':Ev W H W2 H3:=e0.trans (Ev.same s3)
  exact⟨W2,ρ4,_,px4,q4,fun W' σ' H' ρ' e p q=>⟨W',ρ',p,e3.trans e,q⟩,k.rt,fun W' σ' H' ρ' e p q=>k.nx W' σ' H' ρ' (e3'.trans e) p q,fun W' σ' H' ρ' e p q=>⟨W',ρ',p,e3.trans e,q⟩⟩
 ·have e:i=xs.length:=by omega
  subst e
  exact .inl ⟨it.stop W2 H2 e2,k.nx W2 σ2 H2 ρ2 e0 px2 (fin ρ2 i2)⟩
end
def mZ (fr:List (Option Nat)) (ρ:bC):bC:=fr.map fun o=>o.bind fun j=>(ρ[j]?).join.map fun m=>Slot.sh false m.val
def lG (D:Addr):Addr->Prop:=fun a=>a=D
theorem aD1 {K:PySem.W.Frag}{H0:Hp}{W:Addr->Prop}{σ:St}{ρ:bC}{H1 H':Hp}{D:Addr}{acc:List V}{fr:List (Option Nat)} (px:PX K H0 W σ ρ H1) (hD:H1 D=none) (s:aE H1 H') (ha:H' D=some (.lst acc)) :
  PX K H1 (lG D) (gI fr σ) (mZ fr ρ) H':=by
 have old:∀ {a:Addr}{o:HO},H1 a=some o->a ≠ D:=fun {a o} e z=>by rw [z,hD] at e; cases e
 refine⟨by unfold gI mZ; rw [bk8,bk8],s,fun a z=>by cases z; exact⟨hD,_,ha,rfl⟩,fun i m h=>?_,fun i j x y a h1=>?_⟩
 ·unfold mZ at h
  rw [bl9] at h
  cases ef:fr[i]? with
  | none=>rw [ef] at h; cases h
  | some o=>
   rw [ef] at h
   cases o with
   | none=>cases h
   | some j=>
    have h:some ((ρ[j]?).join.map fun m=>Slot.sh false m.val)=some (some m):=h
    cases er:ρ[j]? with
    | none=>rw [er] at h; cases h
    | some o=>
     rw [er] at h
     cases o with
     | none=>cases h
     | some m0=>
      cases h
      obtain ⟨v,ev,r⟩:=px.sl j m0 er
      refine⟨v,?_,?_⟩
      ·unfold gI
       rw [bl9,ef]
       show some ((σ[j]?).join)=_
       rw [ev]; rfl
      ·have r':aD K (fun _=>True) H1 v m0.val:=(J0 (Hs:=H1) r).same (aE.refl _) fun _ _=>trivial
       exact r'.keep ⟨fun a _ _ e=>⟨old e,s _ _ e⟩,fun a _ _ e=>⟨old e,s _ _ e⟩,fun a _ _ e=>⟨old e,s _ _ e⟩,fun _ _ e=>s _ _ e,fun _ _ _ e=>s _ _ e⟩
 ·unfold mZ at h1
  rw [bl9] at h1
  cases ef:fr[i]? with
  | none=>rw [ef] at h1; cases h1
  | some o=>
   rw [ef] at h1
   cases o with
   | none=>cases h1
   | some j=>
    have h1:some ((ρ[j]?).join.map fun m=>Slot.sh false m.val)=some (some (Slot.own x)):=h1
    cases er:ρ[j]? with
    | none=>rw [er] at h1; cases h1
    | some o=>
     rw [er] at h1
     cases o with
     | none=>cases h1
     | some m0=>cases h1
section
variable {X : Cx} {σ : St} {H : Hp} {Q' : VK}
abbrev _root_.L2.Cx.frm (X:Cx) (H1:Hp):Cx:={ X with H₀:=H1 }
def hJ (ti:fB) (fr:List (Option Nat)) (p:iE) (tc:cN) (te:aB):aB:=fun ρ Q=>ti ρ fun xs g=>xs.length<=16000000/\∃ I:Nat->List PV->Prop,I 0 []/\
 (∀ i x acc,xs[i]? = some x->I i acc->p x false (mZ fr ρ) fun ρ2=>tc ρ2 fun b=>if b=true then te ρ2 fun y gy=>Nw gy y/\I (i+1) (acc ++ [y]) else I (i+1) acc)/\∀ acc,I xs.length acc->Q (.lst acc) .fr
theorem rE {ti:fB}{fr:List (Option Nat)}{p:iE}{g:TG}{tc:cN}{te:aB}{own:Nat->Prop} (hg:lF X.K own p g) (ho:∀ i,own i->fr[i]? = some none) (h:LE X (hJ ti fr p tc te) σ H Q') :
  vB (LI X ti) fr (fun _=>g) (fun H1=>LT (X.frm H1) tc) (fun H1=>LE (X.frm H1) te) σ H Q':=by
 obtain ⟨W,ρ,Q,px,q,k⟩:=h
 refine⟨W,ρ,_,px,q,?_⟩
 rintro J H1 xs gb s it ⟨hl,I,i0,turn,fin⟩ D hD
 have px1:=px.mono s
 refine⟨fun i m acc H'=>m=xs.length - i/\i<=xs.length/\aE H1 H'/\H' D=some (.lst acc)/\∃ ys,Reps X.K (Ms H1 (lG D) true) H' acc ys/\ys.length<=i/\I i ys,⟨xs.length,by omega,bu5 _,cA hD _,cH,[],.nil,bl1 _,i0⟩,?_⟩
 rintro i m acc H' ⟨rfl,hi,sm,ha,ys,ry,hy,iy⟩
 refine⟨ha,?_⟩
 have ev:Ev W H1 (mU W D) H':=Ev.own sm hD
 by_cases hlt:i < xs.length
 ·refine .inr ⟨it.go _ H' i ev hlt,fun v H2 y=>?_⟩
  obtain ⟨s2,x,hx,rx⟩:=it.yld _ H' i v H2 ev y hlt
  have ha2:=s2 _ _ ha
  have pxb:PX X.K H1 (lG D) (gI fr σ) (mZ fr ρ) H2:=aD1 px1 hD (sm.trans s2) ha2
  have rx':aD X.K (Ms H1 (lG D) false) H2 v x:=rx.same (aE.refl _) fun a z=>by
   cases gb with
   | true=>exact fun e=>z.1 (.inr e)
   | false=>exact fun e=>z (.inr e)
  refine hg H1 (lG D) _ _ H2 v x false _ _ pxb rx' (turn i x ys hx iy) fun σ2 ρ2 px2 hown hlen q2=>⟨⟨hlen.symm,fun j w e=>?_⟩,?_⟩
  ·by_cases oj:own j
   ·have:=ho j oj
    unfold gI at e
    rw [bl9,this] at e
    cases e
   ·rw [hown j oj]; exact e
  ·refine⟨lG D,ρ2,_,px2,q2,fun b H4 s4 q4=>?_⟩
   have ha4:=s4 _ _ ha2
   have sm4:=(sm.trans s2).trans s4
   cases b with
   | false=>
    refine aJ ⟨xs.length - (i+1),by omega,rfl,hlt,sm4,ha4,ys,ry.same (s2.trans s4) fun _ z=>z,by omega,by simpa using q4⟩
   | true=>
    refine b7 ⟨lG D,ρ2,_,px2.mono s4,by simpa using q4,?_⟩
    rintro w H5 y gy s5 ryy ⟨nw,q5⟩
    have ha5:=s5 _ _ ha4
    have lr:=ry.length
    refine⟨ha5,qU (by omega),xs.length - (i+1),by omega,rfl,hlt,fun b o e=>?_,cH,ys ++ [y],?_,by rw [bn2,bq3]; omega,q5⟩
    ·rw [aZ (fun z=>by rw [z,hD] at e; cases e)]
     exact s5 _ _ (sm4 _ _ e)
    ·exact ((ry.same ((s2.trans s4).trans s5) fun _ z=>z).append (.cons (Nw.rep (px2.mono s4) nw ryy) .nil)).keep (.upd ha5 rfl fun b m=>⟨m.1,m⟩)
 ·have e:i=xs.length:=by omega
  subst e
  refine .inl ⟨it.stop _ H' ev,k _ H' _ .fr (s.trans sm) (.lst (s.free hD) ha (ry.same (aE.refl _) fun _ z=>s.free z.2)) (fin ys iy)⟩
def g9:cN:=fun _ Q=>Q true
theorem aD2 {Qb:Bool->Hp->Prop} (h:LT X g9 σ H Qb):F6 σ H Qb:=by
 obtain ⟨W,ρ,Q,px,q,k⟩:=h
 exact k _ _ (aE.refl _) q
end
section
variable {κ : Type} [DecidableEq κ]
def cB (ps:List (κ × PV)) (k:κ):Option PV:=(ps.find? fun p=>decide (p.1=k)).map (·.2)
def dW (ps:List (κ × PV)) (k:κ) (x:PV):List (κ × PV):=if (ps.any fun p=>decide (p.1=k))=true then ps.map (fun p=>if p.1=k then (p.1,x) else p) else ps ++ [(k,x)]
variable {K : PySem.W.Frag} {M : Addr → Prop} {H : Hp}
theorem jK (k:κ):∀ {kvs:List (κ × V)}{ps:List (κ × PV)},kvs.map (·.1)=ps.map (·.1)->Reps K M H (kvs.map (·.2)) (ps.map (·.2))->(cB ps k=none->fH kvs k=none)/\∀ x,cB ps k=some x->∃ v,fH kvs k=some v/\aD K M H v x
 | [],[],_,_=>⟨fun _=>rfl,fun x h=>by cases h⟩
 | [],_ :: _,e,_=>by cases e
 | _ :: _,[],e,_=>by cases e
 | (k1,v) :: kvs,(k2,x) :: ps,e,r=>by
  injection e with e1 e2
  have e1:k1=k2:=e1
  subst e1
  cases r with
  | cons r t=>
   obtain ⟨h1,h2⟩:=jK k e2 t
   unfold cB fH at h1 h2 ⊢
   by_cases e:k1=k
   ·simp only [bw0,e,decide_true,Option.map_some]
    exact⟨fun z=>(by cases z),fun y z=>(by cases z; exact⟨v,rfl,r⟩)⟩
   ·simp only [bw0,e,decide_false]
    exact⟨h1,h2⟩
theorem aD3 (k:κ) {kvs:List (κ × V)}{ps:List (κ × PV)} (e:kvs.map (·.1)=ps.map (·.1)):(kvs.any fun p=>decide (p.1=k))=ps.any fun p=>decide (p.1=k):=by
 have h1:(kvs.any fun p=>decide (p.1=k))=(kvs.map (·.1)).any fun z=>decide (z=k):=by rw [List.any_map]; rfl
 have h2:(ps.any fun p=>decide (p.1=k))=(ps.map (·.1)).any fun z=>decide (z=k):=by rw [List.any_map]; rfl
 rw [h1,h2,e]
theorem K7 (k:κ) {w:V}{y:PV} (q:aD K M H w y):∀ {kvs:List (κ × V)}{ps:List (κ × PV)},kvs.map (·.1)=ps.map (·.1)->Reps K M H (kvs.map (·.2)) (ps.map (·.2))->
  (kvs.map fun kv=>if kv.1=k then (kv.1,w) else kv).map (·.1)=(ps.map fun kv=>if kv.1=k then (kv.1,y) else kv).map (·.1)/\Reps K M H ((kvs.map fun kv=>if kv.1=k then (kv.1,w) else kv).map (·.2)) ((ps.map fun kv=>if kv.1=k then (kv.1,y) else kv).map (·.2))
 | [],[],_,_=>⟨rfl,.nil⟩
 | [],_ :: _,e,_=>by cases e
 | _ :: _,[],e,_=>by cases e
 | (k1,v) :: kvs,(k2,x) :: ps,e,r=>by
  injection e with e1 e2
  have e1:k1=k2:=e1
  subst e1
  cases r with
  | cons r t=>
   obtain ⟨h1,h2⟩:=K7 k q e2 t
   by_cases e:k1=k
   ·simp only [bp9,e,if_true]
    exact⟨by rw [h1],.cons q h2⟩
   ·simp only [bp9,e,bt1]
    exact⟨by rw [h1],.cons r h2⟩
theorem aD4 (k:κ) {w:V}{y:PV} (q:aD K M H w y) {kvs:List (κ × V)}{ps:List (κ × PV)} (e:kvs.map (·.1)=ps.map (·.1)) (r:Reps K M H (kvs.map (·.2)) (ps.map (·.2))) :
  (fW kvs k w).map (·.1)=(dW ps k y).map (·.1)/\Reps K M H ((fW kvs k w).map (·.2)) ((dW ps k y).map (·.2)):=by
 unfold fW dW
 rw [aD3 k e]
 split
 ·exact K7 k q e r
 ·rw [bm5,bm5,bm5,bm5,e]
  exact⟨rfl,r.append (.cons q .nil)⟩
end
def kP:aM->PV
 | .inl i=>.int i
 | .inr x=>.str x
theorem K8 {K:PySem.W.Frag}{M:Addr->Prop}{H:Hp}{v:V}{k:aM} (r:aD K M H v (kP k)):v=kV k:=by
 cases k with
 | inl i=>cases r; rfl
 | inr x=>cases r; rfl
theorem rF {K:PySem.W.Frag}{M:Addr->Prop}{H:Hp}:∀ {ks:List aM}{us:List V},Reps K M H us (ks.map kP)->us=ks.map kV
 | [],_,.nil=>rfl
 | k :: r,_,.cons q t=>by rw [K8 q,rF t]; rfl
def K9:PV->PV
 | .fK ps=>.dK ps
 | .fT ps=>.dT ps
 | x=>x
def vX (x y:PV) (o:Option PV):Prop:=(∃ ps k,K9 x = .dK ps/\y=kP k/\o=cB ps k) ∨ (∃ ps k,K9 x = .dT ps/\y = .tup (k.map kP)/\o=cB ps k)
theorem vY {K:PySem.W.Frag}{M M2:Addr->Prop}{H:Hp}{v w:V}{x y:PV}{o:Option PV} (h:vX x y o) (rx:aD K M H v x) (ry:aD K M2 H w y):∃ a o',v = .ref a/\fX H a w o'/\(o=none->o'=none)/\∀ z,o=some z->∃ u,o'=some u/\aD K M H u z:=by
 rcases h with ⟨ps,k,ex,rfl,rfl⟩ | ⟨ps,k,ex,rfl,rfl⟩
 ·obtain rfl:=K8 ry
  cases rx with
  | dK m h e r=>cases ex; exact⟨_,_,rfl,fX.k h,(jK k e r).1,(jK k e r).2⟩
  | fK h e r=>cases ex; exact⟨_,_,rfl,.inl ⟨_,k,.inr ⟨_,h⟩,rfl,rfl⟩,(jK k e r).1,(jK k e r).2⟩
  | _=>cases ex
 ·obtain ⟨b,us,rfl,hb,rb⟩:=ry.sqT
  obtain rfl:=rF rb
  cases rx with
  | dT m h e r=>cases ex; exact⟨_,_,rfl,fX.t h hb,(jK k e r).1,(jK k e r).2⟩
  | fT h e r=>cases ex; exact⟨_,_,rfl,.inr ⟨_,k,b,.inr ⟨_,h⟩,rfl,hb,rfl⟩,(jK k e r).1,(jK k e r).2⟩
  | _=>cases ex
section
variable {X : Cx} {σ : St} {H : Hp} {D : cZ} {tk td te : aB} {Q' : VK}
def oQ (neg:Bool) (tk td:aB):aB:=fun ρ Q=>tk ρ fun y _=>td ρ fun x _=>∃ o,vX x y o/\Q (.bl (if neg=true then !o.isSome else o.isSome)) .fr
theorem aD5 {α β:Type}{o:Option α}{o':Option β}{P:β->α->Prop} (h1:o=none->o'=none) (h2:∀ z,o=some z->∃ u,o'=some u/\P u z):o'.isSome=o.isSome:=by
 cases o with
 | none=>rw [h1 rfl]; rfl
 | some z=>obtain ⟨u,e,_⟩:=h2 z rfl; rw [e]; rfl
theorem aD6 (h:LE X (oQ true tk td) σ H Q'):E6 (LE X tk) (LE X td) σ H Q':=by
 obtain ⟨W,ρ,Q,px,q,k⟩:=h
 refine⟨W,ρ,_,px,q,fun w H1 y g s r q=>⟨W,ρ,_,px.mono s,q,?_⟩⟩
 rintro v H2 x g' s2 r2 ⟨o,ak,q⟩
 obtain ⟨a,o',rfl,dg,h1,h2⟩:=vY ak r2 (r.same s2 fun _ z=>z)
 refine⟨a,o',rfl,dg,?_⟩
 rw [aD5 h1 h2]
 exact k _ _ _ .fr (s.trans s2) (.bl _) q
def vZ (td tk:aB):aB:=fun ρ Q=>td ρ fun x g=>tk ρ fun y _=>∃ z,vX x y (some z)/\Q z g
theorem aD7 (h:LE X (vZ td tk) σ H Q'):E5 (LE X td) (LE X tk) σ H Q':=by
 obtain ⟨W,ρ,Q,px,q,k⟩:=h
 refine⟨W,ρ,_,px,q,fun v H1 x g s r q=>⟨W,ρ,_,px.mono s,q,?_⟩⟩
 rintro w H2 y g' s2 r2 ⟨z,ak,q⟩
 obtain ⟨a,o',rfl,dg,h1,h2⟩:=vY ak (r.same s2 fun _ z=>z) r2
 obtain ⟨u,rfl,ru⟩:=h2 z rfl
 exact⟨a,u,rfl,dg,k _ _ _ g (s.trans s2) ru q⟩
theorem PX.updT {K:PySem.W.Frag}{H0:Hp}{W:Addr->Prop}{σ:St}{ρ:bC}{H:Hp}{i:Nat}{a:Addr}{x:PV}{kvs:List (List aM × V)}{ps:List (List aM × PV)} (p:PX K H0 W σ ρ H) (hi:ρ[i]? = some (some (.own x))) (ha:σ[i]? = some (some (.ref a))) (wa:W a)
  (r:kvs.map (·.1)=ps.map (·.1)/\Reps K (Ms H0 W true) (upd H a (.dT kvs)) (kvs.map (·.2)) (ps.map (·.2))):PX K H0 W σ (ρ.set i (some (.own (.dT ps)))) (upd H a (.dT kvs)):=p.updOwn hi ha wa rfl (y:=.dT ps) ⟨kvs,cH,r⟩
theorem aD8 {κ α β:Type}{l:List (κ × α)}{m:List (κ × β)} (e:l.map (·.1)=m.map (·.1)):l.length=m.length:=by
 have:=congrArg List.length e
 rw [bk8,bk8] at this
 exact this
def lH (i:Nat) (tk te:aB):aP:=fun D ρ=>te ρ fun z g=>∃ ps,ρ[i]? = some (some (.own (.dT ps)))/\tk ρ fun y _=>∃ k,y = .tup (k.map kP)/\Nw g z/\ps.length < 16000000/\D.nx (ρ.set i (some (.own (.dT (dW ps k z)))))
theorem aD9 {i:Nat} (h:LS X (lH i tk te) D σ H):E7 (kU i) (LE X tk) (LE X te) D σ H:=by
 obtain ⟨W,ρ,D',px,q,k⟩:=h
 refine⟨W,ρ,_,px,q,?_⟩
 rintro w H1 z g s rz ⟨ps,hi,q⟩
 obtain ⟨v,ev,a,rfl,wa,kvs,ea,e1,r⟩:=(px.mono s).sl i _ hi
 refine⟨_,ev,W,ρ,_,px.mono s,q,?_⟩
 rintro kv H2 y g' s2 ry ⟨kk,rfl,nw,hl,q⟩
 obtain ⟨b,us,rfl,hb,rb⟩:=ry.sqT
 obtain rfl:=rF rb
 have ea2:=s2 _ _ ea
 refine⟨a,_,rfl,oE.t ea2 hb (qU (by rw [aD8 e1]; omega)),?_⟩
 refine k.nx W σ _ _ ((Ev.same (s.trans s2)).trans (Ev.upd wa)) ((px.mono (s.trans s2)).updT hi ev wa ?_) q
 obtain ⟨h1,h2⟩:=aD4 kk ((Nw.rep px nw rz).same s2 fun _ z=>z) e1 (r.same s2 fun _ z=>z)
 exact⟨h1,h2.keep (.upd ea2 rfl fun b m=>⟨oK wa m,m⟩)⟩
theorem aE0 (h:LE X (qC (.dT [])) σ H Q'):E8 σ H Q':=by
 obtain ⟨W,ρ,Q,px,q,k⟩:=h
 exact fun p hp=>k _ _ _ .fr (cA hp _) (.dT hp cH rfl .nil) q
end
def cJ:Nat->PV->PV->Bool
 | _,.non,.non=>true
 | _,.bl a,.bl b=>a == b
 | _,.int a,.int b=>a == b
 | _,.str a,.str b=>a == b
 | n+1,.tup xs,.tup ys=>(xs.zip ys).all (fun p=>cJ n p.1 p.2) && xs.length == ys.length
 | n+1,.lst xs,.lst ys=>(xs.zip ys).all (fun p=>cJ n p.1 p.2) && xs.length == ys.length
 | n+1,.kt xs,.kt ys=>(xs.zip ys).all (fun p=>cJ n p.1 p.2) && xs.length == ys.length
 | _,_,_=>false
def dS:Nat->PV->PV->Bool
 | _,.non,.non=>true
 | _,.bl _,.bl _=>true
 | _,.int _,.int _=>true
 | _,.str _,.str _=>true
 | _,.non,.int _=>true
 | _,.int _,.non=>true
 | n+1,.tup xs,.tup ys=>(xs.zip ys).all (fun p=>dS n p.1 p.2)
 | n+1,.lst xs,.lst ys=>(xs.zip ys).all (fun p=>dS n p.1 p.2)
 | n+1,.kt xs,.kt ys=>(xs.zip ys).all (fun p=>dS n p.1 p.2)
 | _+1,.non,.tup _=>true
 | _+1,.tup _,.non=>true
 | _,_,_=>false
theorem aE1 (n:Nat) (a b:Int):cJ n (.int a) (.int b)=(a == b):=by cases n <;> rfl
theorem L4 (n:Nat):∀ (a b:List Int),((((intz a).zip (intz b)).all fun p=>cJ n p.1 p.2) && (intz a).length == (intz b).length)=decide (a=b)
 | [],[]=>rfl
 | [],_ :: _=>by simp
 | _ :: _,[]=>by simp
 | x :: a,y :: b=>by
  have ih:=L4 n a b
  simp only [bp9,bt3,bB2,bp1,aE1] at ih ⊢
  by_cases e:x=y
  ·subst e
   have:((intz a).length+1 == (intz b).length+1)=((intz a).length == (intz b).length):=by simp
   rw [this,bs7,bx8,ih]
   simp
  ·have:(x == y)=false:=beq_eq_false_iff_ne.mpr e
   rw [this,bq2,bq2]
   simp [e]
theorem w4 (n:Nat) (a b:List Int):cJ (n+1) (.tup (intz a)) (.tup (intz b))=decide (a=b):=L4 n a b
theorem L5 (n:Nat):∀ (a b:List Int),(((intz a).zip (intz b)).all fun p=>dS n p.1 p.2)=true
 | [],_=>by simp
 | _ :: _,[]=>by simp
 | x :: a,y :: b=>by
  simp only [bp9,bt3,bB2,L5 n a b,Bool.and_true]
  cases n <;> rfl
theorem w5 (n:Nat) (a b:List Int):dS (n+1) (.tup (intz a)) (.tup (intz b))=true:=L5 n a b
def L6 (ta:aB):aB:=fun ρ Q=>ta ρ fun x _=>∃ i,x = .int i/\Q (.int (-i)) .fr
def L7:PV->Option String
 | .non=>some "NoneType"
 | .bl _=>some "bool"
 | .int _=>some "int"
 | .str _=>some "str"
 | .tup _=>some "tuple"
 | .kt _=>some "tuple"
 | .lst _=>some "list"
 | _=>none
def iR (K:PySem.W.Frag) (n:String) (te:aB):aB:=fun ρ Q=>te ρ fun x _=>∃ T b,L7 x=some T/\PySem.W.kitOne K (.type T) (.type n)=some b/\Q (.bl b) .fr
def oR (n:Nat) (neg:Bool):PV->Tg->PV->Tg->PK->Prop:=fun x _ y _ Q=>((∃ xs ys,x = .tup xs/\y = .tup ys) ∨ (∃ xs ys,x = .lst xs/\y = .lst ys))/\dS (n+1) x y=true/\Q (.bl (if neg=true then !cJ (n+1) x y else cJ (n+1) x y)) .fr
abbrev nA:=bC->(Option Int->Prop)->Prop
def jL (xs:List PV) (lo hi:Option Int):List PV:=(xs.drop (HT.b6 xs.length 0 lo)).take (HT.b6 xs.length xs.length hi - HT.b6 xs.length 0 lo)
def aE2:PV->List PV->PV
 | .tup _,ys=>.tup ys
 | .kt _,ys=>.tup ys
 | _,ys=>.lst ys
def w6:nA:=fun _ Q=>Q none
def w9 (te:aB):nA:=fun ρ Q=>te ρ fun x _=>∃ i,x = .int i/\Q (some i)
def wA (te:aB) (tl th:nA):aB:=fun ρ Q=>te ρ fun x _=>tl ρ fun lo=>th ρ fun hi=>∃ xs,rA x=some xs/\flats xs=true/\Q (aE2 x (jL xs lo hi)) .fr
def fD (N:List Str) (xs:List PV):bC:=xs.map (fun x=>some (.sh (flat x) x)) ++ List.replicate (N.length - xs.length) none
abbrev dC (ta tb:aB):aB:=q2 (eG fun i j=>.int (i+j)) ta tb
abbrev eI (ta tb:aB):aB:=q2 (eG fun i j=>.int (i - j)) ta tb
abbrev lI (ta tb:aB):aB:=q2 (RI oB fun i j=>.int (i * j)) ta tb
abbrev gO (ta tb:aB):aB:=q2 (RI uF fun i j=>.int (i / j)) ta tb
abbrev dD (ta tb:aB):aB:=q2 (RI (fun _ j=>0 < j) fun i j=>.int (i % j)) ta tb
abbrev aE3 (ta tb:aB):aB:=q2 (RI uG fun i j=>.int (i ^ j.toNat)) ta tb
abbrev iS (ta tb:aB):aB:=q2 (eG fun i j=>.bl (decide (i < j))) ta tb
abbrev oS (ta tb:aB):aB:=q2 (eG fun i j=>.bl (decide (i<=j))) ta tb
abbrev nB (ta tb:aB):aB:=q2 (eG fun i j=>.bl (decide (j < i))) ta tb
abbrev rG (ta tb:aB):aB:=q2 (eG fun i j=>.bl (decide (j<=i))) ta tb
abbrev nC (ta tb:aB):aB:=q2 (lD false) ta tb
abbrev wB (ta tb:aB):aB:=q2 (lD true) ta tb
abbrev L8 (ta tb:aB):aB:=q2 (mW false) ta tb
abbrev L9 (ta tb:aB):aB:=q2 (mW true) ta tb
abbrev b8 (ta tb:aB):aB:=q2 vU ta tb
def oT:List PV->(PV->Prop)->Prop:=fun xs Q=>K1 xs Q/\∀ ns,xs ≠ [.scr ns]
def QE (X:Cx) (e:Expr) (t:aB):Prop:=PE X e (LE X t)
def QT (X:Cx) (e:Expr) (t:cN):Prop:=PT X e (LT X t)
def QW (X:Cx) (e:Expr) (t:cN):Prop:=PW X e (LT X t)
def QA (X:Cx) (es:List Expr) (t:cP):Prop:=PA X es (LA X t)
def QS (X:Cx) (st:Stmt) (t:aP):Prop:=PS X st (LS X t)
def eJ (X:Cx) (st:List Stmt) (t:aP):Prop:=dU X st (LS X t)
def QI (X:Cx) (tg iter:Expr) (t:fB):Prop:=PI X tg iter (LI X t)
section
variable {X : Cx}
theorem cK {e:Expr}{t t':TE} (h:PE X e t) (m:∀ σ H Q,t' σ H Q->t σ H Q):PE X e t':=fun pins s σ H Q I q=>h pins s σ H Q I (m σ H Q q)
theorem lJ {e:Expr}{t t':TT} (h:PT X e t) (m:∀ σ H Q,t' σ H Q->t σ H Q):PT X e t':=fun pins s σ H Q I q=>h pins s σ H Q I (m σ H Q q)
theorem M3 {e:Expr}{t t':TT} (h:PW X e t) (m:∀ σ H Q,t' σ H Q->t σ H Q):PW X e t':=fun wh pins s σ H Q I q=>h wh pins s σ H Q I (m σ H Q q)
theorem M4 {e:List Expr}{t t':TA} (h:PA X e t) (m:∀ σ H Q,t' σ H Q->t σ H Q):PA X e t':=fun pos pins s σ H Q I q=>h pos pins s σ H Q I (m σ H Q q)
theorem dZ {e:Stmt}{t t':TS} (h:PS X e t) (m:∀ D σ H,t' D σ H->t D σ H):PS X e t':=fun pins s σ H D I q=>h pins s σ H D I (m D σ H q)
theorem wC {e:List Stmt}{t t':TS} (h:dU X e t) (m:∀ D σ H,t' D σ H->t D σ H):dU X e t':=fun pins s σ H D I q=>h pins s σ H D I (m D σ H q)
theorem rH {tg e:Expr}{t t':TI} (h:PI X tg e t) (m:∀ σ H R,t' σ H R->t σ H R):PI X tg e t':=fun pins s σ H R I q=>h pins s σ H R I (m σ H R q)
variable {a b c e o : Expr} {es cM : List Expr} {ta tb te to tk : aB} {tr : cP} {tA tB' tc : cN} {pos p2 px : Pos} {st : Stmt} {sts : List Stmt} {t u : aP}
theorem qv (i:Nat) {x:Str}{pos:Pos} (hN:X.N[i]? = some x:=by rfl) (hv:jA X.env.scope x:=by first | exact Or.inl rfl | exact Or.inr (Or.inl rfl) | exact Or.inr (Or.inr rfl)) (hd:(x == ("__debug__" : Str))=false:=by decide)
  (hcd:(x == ("__classdict__" : Str))=false:=by decide):QE X (.Name x pos) (a5 i):=cK (mK hN hv hd hcd) fun _ _ _=>az5
theorem a9 {i j}:QE X (.Constant (.int i) j pos) (qC (.int i)):=cK am2 fun _ _ _=>oI fun _=>.int i
theorem eL {i j}:QE X (.Constant (.bool i) j pos) (qC (.bl i)):=cK am3 fun _ _ _=>oI fun _=>.bl i
theorem lK {j}:QE X (.Constant .none j pos) (qC .non):=cK am4 fun _ _ _=>oI fun _=>.non
theorem hU {i j}:QE X (.Constant (.str i) j pos) (qC (.str i)):=cK am5 fun _ _ _=>oI fun _=>.str i
theorem jM {op:Operator}{R:PV->Tg->PV->Tg->PK->Prop}{r:R2} (ho:bN X (binaryOp op) r) (cv:dR X R r) (ha:QE X a ta) (hb:QE X b tb):QE X (.BinOp a op b pos) (q2 R ta tb):=cK (ao9 ho ha hb) fun _ _ _=>qX cv
theorem dE (ha:QE X a ta) (hb:QE X b tb):QE X (.BinOp a .Add b pos) (q2 (eG fun i j=>.int (i+j)) ta tb):=jM ap1 J1 ha hb
theorem fE (ha:QE X a ta) (hb:QE X b tb):QE X (.BinOp a .Sub b pos) (q2 (eG fun i j=>.int (i - j)) ta tb):=jM ap2 J1 ha hb
theorem lL (ha:QE X a ta) (hb:QE X b tb):QE X (.BinOp a .Mult b pos) (q2 (RI oB fun i j=>.int (i * j)) ta tb):=jM ap3 qY ha hb
theorem hV (ha:QE X a ta) (hb:QE X b tb):QE X (.BinOp a .FloorDiv b pos) (q2 (RI uF fun i j=>.int (i / j)) ta tb):=jM ap4 qY ha hb
theorem dJ (ha:QE X a ta) (hb:QE X b tb):QE X (.BinOp a .Mod b pos) (q2 (RI (fun _ j=>0 < j) fun i j=>.int (i % j)) ta tb):=jM ap5 qY ha hb
theorem aE4 (ha:QE X a ta) (hb:QE X b tb):QE X (.BinOp a .Pow b pos) (q2 (RI uG fun i j=>.int (i ^ j.toNat)) ta tb):=jM ap6 qY ha hb
theorem lM {op:CmpOp}{R:PV->Tg->PV->Tg->PK->Prop}{r:R2} (ho:bN X (compareOp op) r) (cv:dR X R r) (ha:QE X a ta) (hb:QE X b tb) (hm:behindInMarks op b=false):QE X (.Compare a [op] [b] pos) (q2 R ta tb):=cK (aq1 ho ha hb hm) fun _ _ _=>qX cv
theorem iT {op:CmpOp}{R:PV->Tg->PV->Tg->PK->Prop}{r:R2} (ho:bN X (compareOp op) r) (cv:dR X R r) (ha:QE X a ta) (hb:QE X b tb) (hm:behindInMarks op b=false):QT X (.Compare a [op] [b] pos) (aW (q2 R ta tb)):=lJ (aq2 ho ha hb hm) fun _ _ _ h=>qX cv (mT h)
theorem M5 (ha:QE X a ta) (hb:QE X b tb):QE X (.Compare a [.Lt] [b] pos) (q2 (eG fun i j=>.bl (decide (i < j))) ta tb):=lM qJ lC ha hb (eU _)
theorem oU (ha:QE X a ta) (hb:QE X b tb):QE X (.Compare a [.LtE] [b] pos) (q2 (eG fun i j=>.bl (decide (i<=j))) ta tb):=lM kY lC ha hb (eU _)
theorem M6 (ha:QE X a ta) (hb:QE X b tb):QE X (.Compare a [.GtE] [b] pos) (q2 (eG fun i j=>.bl (decide (j<=i))) ta tb):=lM zZ lC ha hb (eU _)
theorem M7 (ha:QE X a ta) (hb:QE X b tb):QE X (.Compare a [.Eq] [b] pos) (q2 (lD false) ta tb):=lM zX J4 ha hb (eU _)
theorem lN (ha:QE X a ta) (hb:QE X b tb):QT X (.Compare a [.Lt] [b] pos) (aW (q2 (eG fun i j=>.bl (decide (i < j))) ta tb)):=iT qJ lC ha hb (eU _)
theorem oV (ha:QE X a ta) (hb:QE X b tb):QT X (.Compare a [.Gt] [b] pos) (aW (q2 (eG fun i j=>.bl (decide (j < i))) ta tb)):=iT ap8 lC ha hb (eU _)
theorem M8 (ha:QE X a ta) (hb:QE X b tb):QT X (.Compare a [.GtE] [b] pos) (aW (q2 (eG fun i j=>.bl (decide (j<=i))) ta tb)):=iT zZ lC ha hb (eU _)
theorem rJ (ha:QE X a ta) (hb:QE X b tb):QT X (.Compare a [.Eq] [b] pos) (aW (q2 (lD false) ta tb)):=iT zX J4 ha hb (eU _)
theorem wD (ha:QE X a ta) (hb:QE X b tb):QT X (.Compare a [.NotEq] [b] pos) (aW (q2 (lD true) ta tb)):=iT zY az6 ha hb (eU _)
theorem M9 (ha:QE X a ta) (hb:QE X b tb):QT X (.Compare a [.Is] [b] pos) (aW (q2 (mW false) ta tb)):=iT ap9 aC5 ha hb (eU _)
theorem N0 (ha:QE X a ta) (hb:QE X b tb):QT X (.Compare a [.IsNot] [b] pos) (aW (q2 (mW true) ta tb)):=iT aq0 aC6 ha hb (eU _)
theorem wE (hu:X.A.units+1 < cLine) (hk:QE X a tk) (hd:QE X b te) (hm:behindInMarks .NotIn b=false:=by rfl):QT X (.Compare a [.NotIn] [b] pos) (aW (oQ true tk te)):=lJ (am6 (av6 hu hk hd) hm) fun _ _ _ h=>aD6 (mT h)
theorem hZ (h:QE X e te) (he:∀ whole,isTrue e X.env whole=(do let v <- whole; standAt e.pos; holding [v] (truthy v)):=by intro _; rfl):QT X e (aW te):=lJ (am7 h he) fun _ _ _ h=>mT h
theorem nD (ha:QT X a tA):QW X (.BoolOp .And [a] pos) tA:=am8 ha
theorem jN (ha:QT X a tA):QW X (.BoolOp .Or [a] pos) tA:=am9 ha
theorem nE (ha:QT X a tA) (hb:QW X (.BoolOp .And (b :: cM) pos) tB'):QW X (.BoolOp .And (a :: b :: cM) pos) (jI tA tB'):=M3 (an0 ha hb) fun _ _ _=>az7
theorem jO (ha:QT X a tA) (hb:QW X (.BoolOp .Or (b :: cM) pos) tB'):QW X (.BoolOp .Or (a :: b :: cM) pos) (iC tA tB'):=M3 (an1 ha hb) fun _ _ _=>az8
theorem fM (h:QW X e tA):QT X e tA:=PW.pt h
theorem iU (ha:QT X a tA):QT X (.UnaryOp .Not a pos) (hG tA):=lJ (an2 ha) fun _ _ _=>az9
theorem oW {op} (h:QE X a ta):QE X (.BoolOp op [a] pos) ta:=an3 h
theorem jP (ha:QE X a ta) (hb:QE X (.BoolOp .And (b :: cM) pos) tb):QE X (.BoolOp .And (a :: b :: cM) pos) (iD ta tb):=cK (an4 ha hb) fun _ _ _=>aA0
theorem aE5 (ha:QE X a ta):QE X (.UnaryOp .Not a pos) (vN ta):=cK (an5 ha) fun _ _ _=>aA1
theorem aC:QA X [] aA:=M4 iO fun _ _ _=>aA2
theorem a8 (ha:QE X e te) (hr:QA X es tr) (hs:starEach (e :: es) X.env=(false,eval e X.env) :: starEach es X.env:=by rfl):QA X (e :: es) (a6 te tr):=M4 (fV ha hr hs) fun _ _ _=>aA3
theorem gA {x1} (h:QA X es tr):QE X (.Tuple es x1 pos) (dY tr):=cK (ar0 h) fun _ _ _=>aA4
theorem gP (h:QA X es tr):QE X (.List es pos) (fL tr):=cK (ar1 h) fun _ _ _=>aA5
theorem b9 (ha:QE X a ta) (hb:QE X b tb) (hs:C0 b:=by exact fun _ _=>rfl):QE X (.Subscript a b pos) (q2 vU ta tb):=cK (at0 at5 ha hb hs) fun _ _ _=>qX aB7
theorem aE6 (hu:X.A.units+1 < cLine) (ha:QE X a ta) (hb:QE X b tb) (hs:uX b:=by exact fun _ _=>rfl):QE X (.Subscript a b pos) (vZ ta tb):=cK (av5 hu ha hb hs) fun _ _ _=>aD7
theorem wF:QE X (.Dict [] [] pos) (qC (.dT [])):=cK av9 fun _ _ _=>aE0
theorem iV {x:Str}{id:String}{R:List PV->(PV->Prop)->Prop}{r:List V->Hp->VK->Prop} (hc:cO X (.builtin id) r) (cv:eY X R r) (hg:Gl X x) (hm:X.mg x=none) (hv:bootBuiltins x=some (.builtin id)) (ha:QA X (e :: es) tr) (hn:x ≠ "__name__":=by decide) (hdb:(x == ("__debug__" : Str))=false:=by decide)
  (he:starEach (e :: es) X.env=(false,eval e X.env) :: starEach es X.env:=by rfl) (hpl:(backTo pos (starEach es X.env)).any (·.1)=false:=by rfl):QE X (.Call (.Name x p2) (e :: es) [] pos) (aG R tr):=cK (uO hc hg hm hv ha hn hdb he hpl) fun _ _ _=>J5 cv
theorem wG {x:Str}{T:String}{R:List PV->(PV->Prop)->Prop}{r:List V->Hp->VK->Prop} (hc:cO X (.type T) r) (cv:eY X R r) (hg:Gl X x) (hm:X.mg x=none) (hv:bootBuiltins x=some (.type T)) (ha:QA X (e :: es) tr) (hn:x ≠ "__name__":=by decide) (hdb:(x == ("__debug__" : Str))=false:=by decide)
  (he:starEach (e :: es) X.env=(false,eval e X.env) :: starEach es X.env:=by rfl) (hpl:(backTo pos (starEach es X.env)).any (·.1)=false:=by rfl):QE X (.Call (.Name x p2) (e :: es) [] pos) (aG R tr):=cK (B0 hc hg hm hv ha hn hdb he hpl) fun _ _ _=>J5 cv
theorem cF:eJ X [] bW:=wC an7 fun _ _ _=>aA6
theorem aI (h1:QS X st t) (h2:eJ X sts u):eJ X (st :: sts) (aH t u):=wC (an8 h1 h2) fun _ _ _=>aA7
theorem aN (h1:QS X st t):eJ X [st] t:=an9 h1
theorem bH {i:Nat}{x:Str} (hN:X.N.Nodup) (he:QE X e te) (hi:X.N[i]? = some x:=by rfl) (hx:gR X.env.scope x:=by first | exact Or.inl rfl | exact Or.inr rfl) (hs:swapsWith e (some (.Name x p2)) pos.line X.env=pure false:=by rfl) (hf:X.fn x=true ∨ X.env.scope.names.lookup x=some .local:=by first | exact .inl rfl | exact .inr rfl) :
  QS X (.Assign [.Name x p2] e pos) (bB i te):=dZ (zL hN hi hx he hs hf) fun _ _ _=>J7
theorem iF {i:Nat}{x:Str} (hN:X.N.Nodup) (he:QE X e te) (hi:X.N[i]? = some x:=by rfl) (hx:gR X.env.scope x:=by first | exact Or.inl rfl | exact Or.inr rfl) (hs:swapsWith e (some (.Name x p2)) pos.line X.env=pure false:=by rfl) (hf:X.fn x=true ∨ X.env.scope.names.lookup x=some .local:=by first | exact .inl rfl | exact .inr rfl) :
  QS X (.Assign [.Name x p2] e pos) (gL i te):=dZ (zL hN hi hx he hs hf) fun _ _ _=>aA9
theorem aE7 (i:Nat) (h:QS X st t):QS X st (vS i t):=dZ h fun _ _ _=>aB0
theorem aE8 (he:QE X e te) (hs:swapsWith e none pos.line X.env=pure false:=by rfl):QS X (.Expr e pos) (vT te):=dZ (qA he hs) fun _ _ _=>aB1
theorem bI (he:QE X e te):QS X (.Return (some e) pos) (bG te):=dZ (zI he) fun _ _ _=>aB2
theorem oX (i:Nat) {x:Str} (hN:X.N[i]? = some x:=by rfl) (hv:jA X.env.scope x:=by first | exact Or.inl rfl | exact Or.inr (Or.inl rfl) | exact Or.inr (Or.inr rfl)) (hd:(x == ("__debug__" : Str))=false:=by decide) (hcd:(x == ("__classdict__" : Str))=false:=by decide) :
  QS X (.Return (some (.Name x p2)) pos) (lE i):=dZ (zI (mK hN hv hd hcd)) fun _ _ _=>aB3
theorem cC {sa sb:List Stmt} (hc:QT X c tc) (ha:eJ X sa t) (hb:eJ X sb u):QS X (.If c sa sb pos) (bR tc t u):=dZ (ao0 hc ha hb) fun _ _ _=>aB4
theorem N1 {body:List Stmt} (hp:PassesOwn (model X.prog X.w) X.A X.env X.xe) (hc:QT X c tc) (hb:eJ X body t):QS X (.While c body [] pos) (r9 tc t):=dZ (ao1 hp hc hb) fun _ _ _=>aB5
theorem lO (i:Nat) {x:Str}{apos cpos xpos:Pos} (he:QE X e te) (hN:X.N[i]? = some x:=by rfl) (hv:jA X.env.scope x:=by first | exact Or.inl rfl | exact Or.inr (Or.inl rfl) | exact Or.inr (Or.inr rfl)) (hd:(x == ("__debug__" : Str))=false:=by decide) (hcd:(x == ("__classdict__" : Str))=false:=by decide)
  (hbase:attributeBase (.Name x xpos) "append" X.env (eval (.Name x xpos) X.env)=eval (.Name x xpos) X.env:=by rfl)
  (hfew:((backTo cpos (starEach [e] X.env)).all (fun x=>!x.1) && (backToKw cpos (keywordEach [] X.env)).all (fun x=>x.1.isSome) && decide (([e]:List Expr).length+([]:List Keyword).length+(if ([]:List Keyword).isEmpty then 0 else 1) < 30))=true:=by rfl)
  (hline:(apos.endLine == cpos.line)=true:=by rfl) (hs:starEach [e] X.env=(false,eval e X.env) :: starEach [] X.env:=by rfl) (hplain:(backTo cpos (starEach [] X.env)).any (·.1)=false:=by rfl)
  (hsw:swapsWith (.Call (.Attribute (.Name x xpos) "append" apos) [e] [] cpos) none pos.line X.env=pure false:=by rfl) :
  QS X (.Expr (.Call (.Attribute (.Name x xpos) "append" apos) [e] [] cpos) pos) (iQ i te):=
 dZ (qA (C5 PySem.F.plainAttrs_list PySem.F.slot_list_append PySem.F.type_list_append C7 (mK hN hv hd hcd) (fV he iO hs) hbase hfew hline hs hplain) hsw) fun _ _ _=>aB6
theorem oY {i:Nat}{x:Str}{xpos tpos:Pos} (hu:X.A.units+1 < cLine) (hk:QE X a tk) (he:QE X e te) (hN:X.N[i]? = some x:=by rfl) (hv:jA X.env.scope x:=by first | exact Or.inl rfl | exact Or.inr (Or.inl rfl) | exact Or.inr (Or.inr rfl)) (hd:(x == ("__debug__" : Str))=false:=by decide) (hcd:(x == ("__classdict__" : Str))=false:=by decide)
  (hs:swapsWith e (some (.Subscript (.Name x xpos) a tpos)) pos.line X.env=pure false:=by rfl):QS X (.Assign [.Subscript (.Name x xpos) a tpos] e pos) (lH i tk te):=dZ (av7 hu (mK hN hv hd hcd) hk he hs) fun _ _ _=>aD9
theorem aE9 {tg l:Expr}{tl:TE} (hl:PE X l tl):PI X tg l (K3 X.K tl):=by
 intro pins s σ H R I h
 refine aL (hl pins s σ H _ I h) fun v s1 ⟨x,H1,I1,r1,q1⟩=>?_
 obtain ⟨a,e,q⟩:=q1
 subst e
 cases r1
 rcases q with ⟨xs,hq,q⟩ | ⟨xs,hq,q⟩
 ·obtain ⟨its,rv,p,hz⟩:=I1.list hq
  refine wpAny_pyIter_list p.isList ?_
  refine⟨s1.heap.objs.size,[s1.heap.objs.size],_,_,H1,rfl,I1.kept (t':=s1.toks) fun b o e=>bk0 _ e,ao2 a _,⟨_,bl7 _ rfl,rfl,rfl⟩,fun b hb=>?_,q⟩
  have e:b=s1.heap.objs.size:=by simpa using hb
  subst e
  exact I1.fpOk (bl1 _) (I1.hok.fresh (bl1 _))
 ·obtain ⟨its,rv,p,hz⟩:=I1.tuple hq
  refine bx6 (show s1.heap.IsTuple a its.toArray from p) ?_
  refine⟨s1.heap.objs.size,[s1.heap.objs.size],_,_,H1,rfl,I1.kept (t':=s1.toks) fun b o e=>bk0 _ e,ao3 a _,⟨_,bl7 _ rfl,rfl,rfl⟩,fun b hb=>?_,q⟩
  have e:b=s1.heap.objs.size:=by simpa using hb
  subst e
  exact I1.fpOk (bl1 _) (I1.hok.fresh (bl1 _))
theorem dX {tg l:Expr} (hl:QE X l te):QI X tg l (dI te):=rH (aE9 hl) fun _ _ _=>aC7
theorem wH {tg:Expr} (hg:Gl X "range") (hm:X.mg "range" = none) (ha:QE X a ta) (hs:starEach [a] X.env = [(false,eval a X.env)]:=by rfl):QI X tg (.Call (.Name "range" p2) [a] [] pos) (oP ta):=rH (ao6 hg hm (fV ha iO hs) hs) fun _ _ _=>aC9
theorem wI {tg:Expr}{body:List Stmt}{ti:fB}{p:iE}{g:TG}{own:Nat->Prop} (hp:PassesOwn (model X.prog X.w) X.A X.env X.xe) (hc:X.calm=true) (hi:QI X tg e ti) (hg:PG X tg g) (ht:lF X.K own p g) (hb:eJ X body t)
  (hs:∀ x,foldedSetIterable e X.env x=pure x:=by intro _; rfl):QS X (.For tg e body [] pos) (dB ti p t):=dZ (ao8 hp hc hi hg hb hs) fun _ _ _=>aD0 ht
end
section
variable {X : Cx} {pins : List (Addr × Obj)} {σ : St} {H : Hp} {s : Shared} {K : PySem.W.Frag} {M M' : Addr → Prop}
theorem mS.inj {a:Addr}{us ws:List V} (h:mS K a us) (h':mS K a ws):us=ws:=by
 obtain ⟨o,its,n,e1,_,e2,_,v⟩:=h
 obtain ⟨o',its',n',e1',_,e2',_,v'⟩:=h'
 rw [e1] at e1'; cases e1'
 rw [e2] at e2'; cases e2'
 exact v.inj v'
theorem Reps.self_of {n:Nat} (ih:∀ {v:V}{x y:PV},aD K M H v x->aD K M' H v y->dS n x y=true->cJ n x y=true):∀ {vs:List V}{xs ys:List PV},Reps K M H vs xs->Reps K M' H vs ys->((xs.zip ys).all fun p=>dS n p.1 p.2)=true->(((xs.zip ys).all fun p=>cJ n p.1 p.2) && xs.length == ys.length)=true
 | _,_,_,.nil,.nil,_=>rfl
 | _,_,_,.cons r t,.cons r' t',o=>by
  simp only [bt3,bB2,br1] at o
  have h1:=ih r r' o.1
  have h2:=Reps.self_of ih t t' o.2
  simp only [bt3,bB2,h1,bx8,bp1] at h2 ⊢
  rw [<- h2]
  congr 1
  simp
theorem aD.self:∀ (n:Nat) {v:V}{x y:PV},aD K M H v x->aD K M' H v y->dS n x y=true->cJ n x y=true:=by
 intro n
 induction n with
 | zero=>
  intro v x y r r' o
  cases r with
  | non=>cases r'; rfl
  | bl b=>cases r'; exact bs7 b
  | int i=>cases r'; exact bs7 i
  | str z=>cases r'; exact bs7 z
  | _=>cases o
 | succ n ih=>
  intro v x y r r' o
  cases r with
  | non=>cases r'; rfl
  | bl b=>cases r'; exact bs7 b
  | int i=>cases r'; exact bs7 i
  | str z=>cases r'; exact bs7 z
  | tup h rr=>
   cases r' with
   | tup h' rr'=>rw [h] at h'; cases h'; exact Reps.self_of ih rr rr' o
   | _=>cases o
  | lst _ h rr=>
   cases r' with
   | lst _ h' rr'=>rw [h] at h'; cases h'; exact Reps.self_of ih rr rr' o
   | _=>cases o
  | kt h rr=>
   cases r' with
   | kt h' rr'=>cases mS.inj h h'; exact Reps.self_of ih rr rr' o
   | _=>cases o
  | _=>cases o
theorem Reps.self (n:Nat) {vs:List V}{xs ys:List PV} (r:Reps K M H vs xs) (r':Reps K M' H vs ys) (o:((xs.zip ys).all fun p=>dS n p.1 p.2)=true):(((xs.zip ys).all fun p=>cJ n p.1 p.2) && xs.length == ys.length)=true:=Reps.self_of (aD.self n) r r' o
theorem jQ (n:Nat) (xs ys:List PV):(List.range (min xs.length ys.length)).all (fun j=>cJ n (xs.getD j .non) (ys.getD j .non))=(xs.zip ys).all fun p=>cJ n p.1 p.2:=by
 rw [bs3]
 simp only [bw2,List.mem_range]
 constructor
 ·intro h p hp
  obtain ⟨j,hj,e⟩:=bs1 hp
  have hj':j < min xs.length ys.length:=by simpa using hj
  have:=h j hj'
  rw [List.getElem_zip] at e
  subst e
  have h1:j < xs.length:=by omega
  have h2:j < ys.length:=by omega
  simpa [bm3,h1,h2] using this
 ·intro h j hj
  have h1:j < xs.length:=by omega
  have h2:j < ys.length:=by omega
  have hz:j < (xs.zip ys).length:=by simp; omega
  have:=h _ (bw3 hz)
  rw [List.getElem_zip] at this
  simpa [bm3,h1,h2] using this
theorem N2 (I:a7 X pins σ H s):∀ (n:Nat) {A:Around}{v w:V}{x y:PV}{a b:Value},A.units+n < cLine->aD X.K M H v x->aD X.K M' H w y->aV v a->aV w b->dS n x y=true->SeqAt.EqAt A s a b (cJ n x y):=by
 intro n
 induction n with
 | zero=>
  intro A v w x y a b hu rx ry ra rb o
  cases rx with
  | non=>
   cases ra
   cases ry with
   | non=>cases rb; exact SeqAt.EqAt.same _
   | int i=>obtain ⟨t',rfl⟩:=rb; exact SeqAt.EqAt.none_int _ _
   | _=>cases o
  | bl i=>
   cases ra
   cases ry with
   | bl j=>cases rb; exact SeqAt.EqAt.bool_bool _ _
   | _=>cases o
  | int i=>
   obtain ⟨t,rfl⟩:=ra
   cases ry with
   | int j=>obtain ⟨t',rfl⟩:=rb; exact SeqAt.EqAt.int_int _ _ _ _
   | non=>cases rb; exact SeqAt.EqAt.int_none _ _
   | _=>cases o
  | str i=>
   obtain ⟨t,rfl⟩:=ra
   cases ry with
   | str j=>obtain ⟨t',rfl⟩:=rb; exact SeqAt.EqAt.str_str _ _ _ _
   | _=>cases o
  | _=>cases o
 | succ n ih=>
  intro A v w x y a b hu rx ry ra rb o
  have items:∀ {us ws:List V}{xs ys:List PV}{its its2:List Value},Reps X.K M H us xs->Reps X.K M' H ws ys->aS us its->aS ws its2->((xs.zip ys).all fun p=>dS n p.1 p.2)=true->
    ∀ j (h1:j < its.toArray.size) (h2:j < its2.toArray.size),SeqAt.EqAt A.in1 s its.toArray[j] its2.toArray[j] (cJ n (xs.getD j .non) (ys.getD j .non)):=fun {us ws xs ys its its2} r1 r2 v1 v2 ok j h1 h2=>by
   have l1:=v1.length
   have l2:=v2.length
   have m1:=r1.length
   have m2:=r2.length
   have k1:j < its.length:=by simpa using h1
   have k2:j < its2.length:=by simpa using h2
   have j1:j < us.length:=by omega
   have j2:j < ws.length:=by omega
   have i1:j < xs.length:=by omega
   have i2:j < ys.length:=by omega
   obtain ⟨u,hu',ru⟩:=v1.get (bk5 j1)
   obtain ⟨u2,hu2',ru2⟩:=v2.get (bk5 j2)
   obtain ⟨x,hx,rx⟩:=r1.get (bk5 j1)
   obtain ⟨y,hy,ry⟩:=r2.get (bk5 j2)
   have e1:its.toArray[j]=u:=by
    rw [bk5 k1] at hu'
    simpa using hu'
   have e2:its2.toArray[j]=u2:=by
    rw [bk5 k2] at hu2'
    simpa using hu2'
   have ok':dS n x y=true:=by
    rw [bw2] at ok
    have hz:j < (xs.zip ys).length:=by simp; omega
    have:=ok _ (bw3 hz)
    rw [List.getElem_zip] at this
    rw [bk5 i1] at hx
    rw [bk5 i2] at hy
    cases hx; cases hy
    exact this
   rw [e1,e2]
   have g1:xs.getD j .non=x:=by rw [bm3,hx]; rfl
   have g2:ys.getD j .non=y:=by rw [bm3,hy]; rfl
   rw [g1,g2]
   exact ih (by show A.units+1+n < cLine; omega) rx ry ru ru2 ok'
  have huA:A.units < cLine:=by omega
  cases rx with
  | @kt p us xs h1 r1=>
   obtain ⟨its,v1,p1,_⟩:=I.tuple (.inr h1)
   cases (show a=Value.ref p from ra)
   cases ry with
   | @kt p2 ws ys h2 r2=>
    obtain ⟨its2,v2,p2',_⟩:=I.tuple (.inr h2)
    cases (show b=Value.ref p2 from rb)
    by_cases e:p=p2
    ·subst e
     have:=aD.self (K:=X.K) (M:=M) (M':=M') (n+1) (.kt h1 r1) (.kt h2 r2) o
     rw [this]
     exact SeqAt.EqAt.same _
    ·have:=SeqAt.RcAt.tuples p1 p2' huA (items r1 r2 v1 v2 o)
     refine .of_refs e ?_
     have l1:=v1.length
     have l2:=v2.length
     have m1:=r1.length
     have m2:=r2.length
     rw [bk3,bk3,<- l1,<- l2,m1,m2,jQ] at this
     exact this
   | _=>cases o
  | @tup p us xs h1 r1=>
   obtain ⟨its,v1,p1,_⟩:=I.tuple (aU.of (K:=X.K) h1)
   cases (show a=Value.ref p from ra)
   cases ry with
   | @tup p2 ws ys h2 r2=>
    obtain ⟨its2,v2,p2',_⟩:=I.tuple (aU.of (K:=X.K) h2)
    cases (show b=Value.ref p2 from rb)
    by_cases e:p=p2
    ·subst e
     have:=aD.self (K:=X.K) (M:=M) (M':=M') (n+1) (.tup h1 r1) (.tup h2 r2) o
     rw [this]
     exact SeqAt.EqAt.same _
    ·have:=SeqAt.RcAt.tuples p1 p2' huA (items r1 r2 v1 v2 o)
     refine .of_refs e ?_
     have l1:=v1.length
     have l2:=v2.length
     have m1:=r1.length
     have m2:=r2.length
     rw [bk3,bk3,<- l1,<- l2,m1,m2,jQ] at this
     exact this
   | non=>cases rb; exact SeqAt.EqAt.tuple_none p1 huA
   | _=>cases o
  | @lst p us xs _ h1 r1=>
   obtain ⟨its,v1,p1,_⟩:=I.list (aT.of (K:=X.K) h1)
   cases (show a=Value.ref p from ra)
   cases ry with
   | @lst p2 ws ys _ h2 r2=>
    obtain ⟨its2,v2,p2',_⟩:=I.list (aT.of (K:=X.K) h2)
    cases (show b=Value.ref p2 from rb)
    have l1:=v1.length
    have l2:=v2.length
    have m1:=r1.length
    have m2:=r2.length
    by_cases e:p=p2
    ·subst e
     rw [h1] at h2; cases h2
     have:=Reps.self n r1 r2 o
     show SeqAt.EqAt A s _ _ ((xs.zip ys).all (fun p=>cJ n p.1 p.2) && xs.length == ys.length)
     rw [this]
     exact SeqAt.EqAt.same _
    ·refine .of_refs e ?_
     by_cases hl:xs.length=ys.length
     ·have:=SeqAt.RcAt.lists p1.isList p2'.isList (by rw [bk3,bk3]; omega) huA (items r1 r2 v1 v2 o)
      have hm:min xs.length ys.length=its.length:=by omega
      rw [bk3,<- hm,jQ] at this
      show SeqAt.RcAt A s _ _ ((xs.zip ys).all (fun p=>cJ n p.1 p.2) && xs.length == ys.length)
      rw [show (xs.length == ys.length)=true by simpa using hl,Bool.and_true]
      exact this
     ·have:=SeqAt.RcAt.lists_lengths (A:=A) p1.isList p2'.isList (by rw [bk3,bk3]; simp; omega) huA
      show SeqAt.RcAt A s _ _ ((xs.zip ys).all (fun p=>cJ n p.1 p.2) && xs.length == ys.length)
      rw [show (xs.length == ys.length)=false by simpa using hl,bn8]
      exact this
   | _=>cases o
  | non=>
   cases ra
   cases ry with
   | non=>cases rb; exact SeqAt.EqAt.same _
   | int i=>obtain ⟨t',rfl⟩:=rb; exact SeqAt.EqAt.none_int _ _
   | @tup p2 ws ys h2 r2=>
    obtain ⟨its2,v2,p2',_⟩:=I.tuple (aU.of (K:=X.K) h2)
    cases (show b=Value.ref p2 from rb)
    exact SeqAt.EqAt.none_tuple p2' huA
   | _=>cases o
  | bl i=>
   cases ra
   cases ry with
   | bl j=>cases rb; exact SeqAt.EqAt.bool_bool _ _
   | _=>cases o
  | int i=>
   obtain ⟨t,rfl⟩:=ra
   cases ry with
   | int j=>obtain ⟨t',rfl⟩:=rb; exact SeqAt.EqAt.int_int _ _ _ _
   | non=>cases rb; exact SeqAt.EqAt.int_none _ _
   | _=>cases o
  | str i=>
   obtain ⟨t,rfl⟩:=ra
   cases ry with
   | str j=>obtain ⟨t',rfl⟩:=rb; exact SeqAt.EqAt.str_str _ _ _ _
   | _=>cases o
  | _=>cases o
end
structure Bt (mg:Str->Option Value):Prop where
 len:mg "len" = none
 range:mg "range" = none
 tuple:mg "tuple" = none
 list:mg "list" = none
 sorted:mg "sorted" = none
 all:mg "all" = none
 any:mg "any" = none
 zip:mg "zip" = none
 min:mg "min" = none
 max:mg "max" = none
 sum:mg "sum" = none
 isinst:mg "isinstance" = none
 int:mg "int" = none
 bool:mg "bool" = none
 enum:mg "enumerate" = none
section
variable {X : Cx} {a b c e o : Expr} {es cM : List Expr} {ta tb te to tk : aB} {tr : cP} {tA tB' tc : cN} {pos p2 px : Pos} {st : Stmt} {sts : List Stmt} {t u : aP}
theorem iG (B:Bt X.mg) (ha:QA X [e] tr) (hg:Gl X "len":=by rfl) (he:starEach [e] X.env=(false,eval e X.env) :: starEach [] X.env:=by rfl) (hpl:(backTo pos (starEach [] X.env)).any (·.1)=false:=by rfl):QE X (.Call (.Name "len" p2) [e] [] pos) (aG fZ tr):=
 iV (au0.or aw9) aB8 hg B.len PySem.boot_len ha (he:=he) (hpl:=hpl)
theorem rK (B:Bt X.mg) (ha:QA X [e] tr) (hg:Gl X "tuple":=by rfl) (he:starEach [e] X.env=(false,eval e X.env) :: starEach [] X.env:=by rfl) (hpl:(backTo pos (starEach [] X.env)).any (·.1)=false:=by rfl):QE X (.Call (.Name "tuple" p2) [e] [] pos) (aG oT tr):=
 wG au2 aB9 hg B.tuple PyProof.Rows.boot_tuple ha (he:=he) (hpl:=hpl)
theorem wJ (B:Bt X.mg) (ha:QA X [e] tr) (hg:Gl X "list":=by rfl) (he:starEach [e] X.env=(false,eval e X.env) :: starEach [] X.env:=by rfl) (hpl:(backTo pos (starEach [] X.env)).any (·.1)=false:=by rfl):QE X (.Call (.Name "list" p2) [e] [] pos) (aG oN tr):=
 wG au1 aC0 hg B.list PyProof.Rows.boot_list ha (he:=he) (hpl:=hpl)
theorem N3 (B:Bt X.mg) (hc:X.calm=true) (ha:QA X [e] tr) (hg:Gl X "all":=by rfl) (he:starEach [e] X.env=(false,eval e X.env) :: starEach [] X.env:=by rfl) (hpl:(backTo pos (starEach [] X.env)).any (·.1)=false:=by rfl):QE X (.Call (.Name "all" p2) [e] [] pos) (aG rB tr):=
 iV (ay9 hc) aC1 hg B.all PyProof.Rows.boot_all ha (he:=he) (hpl:=hpl)
theorem rL (B:Bt X.mg) (hc:X.calm=true) (ha:QA X [a,b] tr) (hg:Gl X "min":=by rfl) (he:starEach [a,b] X.env=(false,eval a X.env) :: starEach [b] X.env:=by rfl) (hpl:(backTo pos (starEach [b] X.env)).any (·.1)=false:=by rfl):QE X (.Call (.Name "min" p2) [a,b] [] pos) (aG mV tr):=
 iV (aq5 hc) aC2 hg B.min PyProof.Rows.boot_min ha (he:=he) (hpl:=hpl)
theorem nF (B:Bt X.mg) (hc:X.calm=true) (ha:QA X [a,b] tr) (hg:Gl X "max":=by rfl) (he:starEach [a,b] X.env=(false,eval a X.env) :: starEach [b] X.env:=by rfl) (hpl:(backTo pos (starEach [b] X.env)).any (·.1)=false:=by rfl):QE X (.Call (.Name "max" p2) [a,b] [] pos) (aG kE tr):=
 iV (aq4 hc) aC3 hg B.max PyProof.Rows.boot_max ha (he:=he) (hpl:=hpl)
theorem aF0 (ha:QE X a ta):QE X (.UnaryOp .USub a pos) (L6 ta):=cK (ap0 ap7 ha) fun σ H Q' h=>by
 obtain ⟨W,ρ,Q,px,q,k⟩:=h
 refine⟨W,ρ,_,px,q,?_⟩
 rintro v H1 x g s r ⟨i,rfl,q⟩
 cases r
 exact⟨i,rfl,k _ _ _ .fr s (.int _) q⟩
theorem aD.kt_ {K:PySem.W.Frag}{M:Addr->Prop}{H:Hp}{v:V}{xs:List PV} (r:aD K M H v (.kt xs)):∃ a us,v = .ref a/\mS K a us/\Reps K M H us xs:=by
 cases r with
 | kt h r=>exact⟨_,_,rfl,h,r⟩
def N4 (K:PySem.W.Frag) (H:Hp) (x:V) (t:Value):Prop:=fU K H x t ∨ ∃ a us,x = .ref a/\aU K H a us/\t = .type "tuple"
theorem aF1:cO X (.builtin "isinstance") (fun xs H Q=>∃ x t n b,xs = [x,.ty n]/\N4 X.K H x t/\PySem.W.kitOne X.K t (.type n)=some b/\Q (.bl b) H):=by
 intro pins s σ H xs us Q I r h
 obtain ⟨x,t,n,b,rfl,ty,e,q⟩:=h
 rcases ty with ty | ⟨a,ws,rfl,hs,rfl⟩
 ·exact ay1 pins s σ H _ us Q I r ⟨x,t,n,b,rfl,ty,e,q⟩
 obtain ⟨u,u',rfl,ru,ru'⟩:=k9 r
 cases ru'
 cases (show u=Value.ref a from ru)
 obtain ⟨its,_,⟨o,h1,h2,_⟩,_⟩:=I.tuple hs
 exact bq9 PySem.W.kitx_tuple I.kIn ⟨o,h1,h2⟩ e (fun z=>nomatch z) fun tk=>⟨.bl b,H,I.tok tk,rfl,q⟩
theorem aF2 {K:PySem.W.Frag}{M:Addr->Prop}{H:Hp}{v:V}{x:PV}{T:String} (r:aD K M H v x) (e:L7 x=some T):N4 K H v (.type T):=by
 cases r with
 | non=>cases e; exact .inl .non
 | bl b=>cases e; exact .inl (.bl b)
 | int i=>cases e; exact .inl (.int i)
 | str i=>cases e; exact .inl (.str i)
 | tup h _=>cases e; exact .inl (.tup h)
 | lst _ h _=>cases e; exact .inl (.lst h)
 | kt h _=>cases e; exact .inr ⟨_,_,rfl,.inr h,rfl⟩
 | _=>cases e
theorem rM {x:Str}{n:String} (B:Bt X.mg) (hn:bootBuiltins x=some (.type n)) (hm:X.mg x=none) (ha:QE X a ta) (hg:Gl X "isinstance":=by rfl) (hgx:Gl X x:=by rfl) (hx:x ≠ "__name__":=by decide) (hdx:(x == ("__debug__" : Str))=false:=by decide)
  (he:starEach [a,.Name x px] X.env=(false,eval a X.env) :: starEach [.Name x px] X.env:=by rfl) (he2:starEach [.Name x px] X.env=(false,eval (.Name x px) X.env) :: starEach [] X.env:=by rfl) (hpl:(backTo pos (starEach [.Name x px] X.env)).any (·.1)=false:=by rfl):QE X (.Call (.Name "isinstance" p2) [a,.Name x px] [] pos) (iR X.K n ta):=
 cK (uO aF1 hg B.isinst PyProof.Rows.boot_isinstance (fV ha (fV (zA (v:=.ty n) hgx hm hn rfl hx hdx) iO he2) he) (he:=he) (hpl:=hpl)) fun σ H Q' h=>by
  obtain ⟨W,ρ,Q,px,q,k⟩:=h
  refine⟨W,ρ,_,px,q,?_⟩
  rintro v H1 x g s r ⟨T,b,e,kt,q⟩
  exact⟨v,_,n,b,rfl,aF2 r e,kt,k _ _ _ .fr s (.bl _) q⟩
theorem aF3 (B:Bt X.mg) (ha:QE X a ta) (hg:Gl X "isinstance":=by rfl) (hgx:Gl X "int":=by rfl)
  (he:starEach [a,.Name "int" px] X.env=(false,eval a X.env) :: starEach [.Name "int" px] X.env:=by rfl) (he2:starEach [.Name "int" px] X.env=(false,eval (.Name "int" px) X.env) :: starEach [] X.env:=by rfl) (hpl:(backTo pos (starEach [.Name "int" px] X.env)).any (·.1)=false:=by rfl):QE X (.Call (.Name "isinstance" p2) [a,.Name "int" px] [] pos) (iR X.K "int" ta):=rM B PyProof.Rows.boot_int B.int ha (hg:=hg) (hgx:=hgx) (he:=he) (he2:=he2) (hpl:=hpl)
theorem aF4 (B:Bt X.mg) (ha:QE X a ta) (hg:Gl X "isinstance":=by rfl) (hgx:Gl X "bool":=by rfl)
  (he:starEach [a,.Name "bool" px] X.env=(false,eval a X.env) :: starEach [.Name "bool" px] X.env:=by rfl) (he2:starEach [.Name "bool" px] X.env=(false,eval (.Name "bool" px) X.env) :: starEach [] X.env:=by rfl) (hpl:(backTo pos (starEach [.Name "bool" px] X.env)).any (·.1)=false:=by rfl):QE X (.Call (.Name "isinstance" p2) [a,.Name "bool" px] [] pos) (iR X.K "bool" ta):=rM B PyProof.Rows.boot_bool B.bool ha (hg:=hg) (hgx:=hgx) (he:=he) (he2:=he2) (hpl:=hpl)
theorem N5 (B:Bt X.mg) (ha:QE X a ta) (hg:Gl X "isinstance":=by rfl) (hgx:Gl X "tuple":=by rfl)
  (he:starEach [a,.Name "tuple" px] X.env=(false,eval a X.env) :: starEach [.Name "tuple" px] X.env:=by rfl) (he2:starEach [.Name "tuple" px] X.env=(false,eval (.Name "tuple" px) X.env) :: starEach [] X.env:=by rfl) (hpl:(backTo pos (starEach [.Name "tuple" px] X.env)).any (·.1)=false:=by rfl):QE X (.Call (.Name "isinstance" p2) [a,.Name "tuple" px] [] pos) (iR X.K "tuple" ta):=rM B PyProof.Rows.boot_tuple B.tuple ha (hg:=hg) (hgx:=hgx) (he:=he) (he2:=he2) (hpl:=hpl)
theorem aF5 (B:Bt X.mg) (ha:QE X a ta) (hg:Gl X "isinstance":=by rfl) (hgx:Gl X "list":=by rfl)
  (he:starEach [a,.Name "list" px] X.env=(false,eval a X.env) :: starEach [.Name "list" px] X.env:=by rfl) (he2:starEach [.Name "list" px] X.env=(false,eval (.Name "list" px) X.env) :: starEach [] X.env:=by rfl) (hpl:(backTo pos (starEach [.Name "list" px] X.env)).any (·.1)=false:=by rfl):QE X (.Call (.Name "isinstance" p2) [a,.Name "list" px] [] pos) (iR X.K "list" ta):=rM B PyProof.Rows.boot_list B.list ha (hg:=hg) (hgx:=hgx) (he:=he) (he2:=he2) (hpl:=hpl)
def wK (K:PySem.W.Frag) (n:Nat) (neg:Bool):R2:=fun v w H Q=>∃ x y,aD K (fun _=>True) H v x/\aD K (fun _=>True) H w y/\((∃ xs ys,x = .tup xs/\y = .tup ys) ∨ (∃ xs ys,x = .lst xs/\y = .lst ys) ∨ (∃ xs ys,x = .kt xs/\y = .kt ys))/\dS (n+1) x y=true/\Q (.bl (if neg=true then !cJ (n+1) x y else cJ (n+1) x y)) H
theorem nG {pins:List (Addr × Obj)}{σ:St}{H:Hp}{s:Shared}{M M':Addr->Prop} (I:a7 X pins σ H s) {n:Nat}{A:Around} (hu:A.units+(n+1) < cLine) {us ws:List V}{xs ys:List PV}{its its2:List Value} (r1:Reps X.K M H us xs) (r2:Reps X.K M' H ws ys) (v1:aS us its) (v2:aS ws its2)
  (ok:((xs.zip ys).all fun p=>dS n p.1 p.2)=true):∀ j (h1:j < its.toArray.size) (h2:j < its2.toArray.size),SeqAt.EqAt A.in1 s its.toArray[j] its2.toArray[j] (cJ n (xs.getD j .non) (ys.getD j .non)):=by
 intro j h1 h2
 have l1:=v1.length
 have l2:=v2.length
 have m1:=r1.length
 have m2:=r2.length
 have k1:j < its.length:=by simpa using h1
 have k2:j < its2.length:=by simpa using h2
 have j1:j < us.length:=by omega
 have j2:j < ws.length:=by omega
 have i1:j < xs.length:=by omega
 have i2:j < ys.length:=by omega
 obtain ⟨u,hu',ru⟩:=v1.get (bk5 j1)
 obtain ⟨u2,hu2',ru2⟩:=v2.get (bk5 j2)
 obtain ⟨x,hx,rx⟩:=r1.get (bk5 j1)
 obtain ⟨y,hy,ry⟩:=r2.get (bk5 j2)
 have e1:its.toArray[j]=u:=by
  rw [bk5 k1] at hu'
  simpa using hu'
 have e2:its2.toArray[j]=u2:=by
  rw [bk5 k2] at hu2'
  simpa using hu2'
 have ok':dS n x y=true:=by
  rw [bw2] at ok
  have hz:j < (xs.zip ys).length:=by simp; omega
  have:=ok _ (bw3 hz)
  rw [List.getElem_zip] at this
  rw [bk5 i1] at hx
  rw [bk5 i2] at hy
  cases hx; cases hy
  exact this
 rw [e1,e2]
 have g1:xs.getD j .non=x:=by rw [bm3,hx]; rfl
 have g2:ys.getD j .non=y:=by rw [bm3,hy]; rfl
 rw [g1,g2]
 exact N2 I n (by show A.units+1+n < cLine; omega) rx ry ru ru2 ok'
theorem aF6 (n:Nat) (hu:X.A.units+(n+1) < cLine):bN X (compareOp .Eq) (wK X.K n false):=by
 intro pins s σ H v w a b Q I ra rb h
 obtain ⟨x,y,rx,ry,kd,o,q⟩:=h
 have hu0:X.A.units < cLine:=by omega
 rcases kd with ⟨xs,ys,rfl,rfl⟩ | ⟨xs,ys,rfl,rfl⟩ | ⟨xs,ys,rfl,rfl⟩
 ·obtain ⟨p,us,rfl,h1,r1⟩:=rx.sqT
  obtain ⟨p2,ws,rfl,h2,r2⟩:=ry.sqT
  cases ra; cases rb
  obtain ⟨its,v1,p1,_⟩:=I.tuple (aU.of (K:=X.K) h1)
  obtain ⟨its2,v2,p2',_⟩:=I.tuple (aU.of (K:=X.K) h2)
  have l1:=v1.length
  have l2:=v2.length
  have m1:=r1.length
  have m2:=r2.length
  have:=SeqAt.RcAt.tuples p1 p2' hu0 (nG I hu r1 r2 v1 v2 o)
  rw [bk3,bk3,<- l1,<- l2,m1,m2,jQ] at this
  exact this _ _ _ _ ⟨.bl _,H,I,rfl,q⟩
 ·obtain ⟨p,us,rfl,_,h1,r1⟩:=rx.sqL
  obtain ⟨p2,ws,rfl,_,h2,r2⟩:=ry.sqL
  cases ra; cases rb
  obtain ⟨its,v1,p1,_⟩:=I.list (aT.of (K:=X.K) h1)
  obtain ⟨its2,v2,p2',_⟩:=I.list (aT.of (K:=X.K) h2)
  have l1:=v1.length
  have l2:=v2.length
  have m1:=r1.length
  have m2:=r2.length
  have q:Q (.bl ((xs.zip ys).all (fun p=>cJ n p.1 p.2) && xs.length == ys.length)) H:=q
  by_cases hl:xs.length=ys.length
  ·have:=SeqAt.RcAt.lists p1.isList p2'.isList (by rw [bk3,bk3]; omega) hu0 (nG I hu r1 r2 v1 v2 o)
   have hm:min xs.length ys.length=its.length:=by omega
   rw [bk3,<- hm,jQ] at this
   rw [show (xs.length == ys.length)=true by simpa using hl,Bool.and_true] at q
   exact this _ _ _ _ ⟨.bl _,H,I,rfl,q⟩
  ·have:=SeqAt.RcAt.lists_lengths (A:=X.A) p1.isList p2'.isList (by rw [bk3,bk3]; simp; omega) hu0
   rw [show (xs.length == ys.length)=false by simpa using hl,bn8] at q
   exact this _ _ _ _ ⟨.bl _,H,I,rfl,q⟩
 ·obtain ⟨p,us,rfl,h1,r1⟩:=rx.kt_
  obtain ⟨p2,ws,rfl,h2,r2⟩:=ry.kt_
  cases ra; cases rb
  obtain ⟨its,v1,p1,_⟩:=I.tuple (.inr h1)
  obtain ⟨its2,v2,p2',_⟩:=I.tuple (.inr h2)
  have l1:=v1.length
  have l2:=v2.length
  have m1:=r1.length
  have m2:=r2.length
  have:=SeqAt.RcAt.tuples p1 p2' hu0 (nG I hu r1 r2 v1 v2 o)
  rw [bk3,bk3,<- l1,<- l2,m1,m2,jQ] at this
  exact this _ _ _ _ ⟨.bl _,H,I,rfl,q⟩
theorem aF7 (n:Nat) (hu:X.A.units+(n+1) < cLine):bN X (compareOp .NotEq) (wK X.K n true):=by
 intro pins s σ H v w a b Q I ra rb h
 obtain ⟨x,y,rx,ry,kd,o,q⟩:=h
 have hu0:X.A.units < cLine:=by omega
 rcases kd with ⟨xs,ys,rfl,rfl⟩ | ⟨xs,ys,rfl,rfl⟩ | ⟨xs,ys,rfl,rfl⟩
 ·obtain ⟨p,us,rfl,h1,r1⟩:=rx.sqT
  obtain ⟨p2,ws,rfl,h2,r2⟩:=ry.sqT
  cases ra; cases rb
  obtain ⟨its,v1,p1,_⟩:=I.tuple (aU.of (K:=X.K) h1)
  obtain ⟨its2,v2,p2',_⟩:=I.tuple (aU.of (K:=X.K) h2)
  have l1:=v1.length
  have l2:=v2.length
  have m1:=r1.length
  have m2:=r2.length
  have:=SeqAt.RcNeAt.tuples p1 p2' hu0 (nG I hu r1 r2 v1 v2 o)
  rw [bk3,bk3,<- l1,<- l2,m1,m2,jQ] at this
  exact this _ _ _ _ ⟨.bl _,H,I,rfl,q⟩
 ·obtain ⟨p,us,rfl,_,h1,r1⟩:=rx.sqL
  obtain ⟨p2,ws,rfl,_,h2,r2⟩:=ry.sqL
  cases ra; cases rb
  obtain ⟨its,v1,p1,_⟩:=I.list (aT.of (K:=X.K) h1)
  obtain ⟨its2,v2,p2',_⟩:=I.list (aT.of (K:=X.K) h2)
  have l1:=v1.length
  have l2:=v2.length
  have m1:=r1.length
  have m2:=r2.length
  have q:Q (.bl (!((xs.zip ys).all (fun p=>cJ n p.1 p.2) && xs.length == ys.length))) H:=q
  by_cases hl:xs.length=ys.length
  ·have:=SeqAt.RcNeAt.lists p1.isList p2'.isList (by rw [bk3,bk3]; omega) hu0 (nG I hu r1 r2 v1 v2 o)
   have hm:min xs.length ys.length=its.length:=by omega
   rw [bk3,<- hm,jQ] at this
   rw [show (xs.length == ys.length)=true by simpa using hl,Bool.and_true] at q
   exact this _ _ _ _ ⟨.bl _,H,I,rfl,q⟩
  ·have:=SeqAt.RcNeAt.lists_lengths (A:=X.A) p1.isList p2'.isList (by rw [bk3,bk3]; simp; omega) hu0
   rw [show (xs.length == ys.length)=false by simpa using hl,bn8] at q
   exact this _ _ _ _ ⟨.bl _,H,I,rfl,q⟩
 ·obtain ⟨p,us,rfl,h1,r1⟩:=rx.kt_
  obtain ⟨p2,ws,rfl,h2,r2⟩:=ry.kt_
  cases ra; cases rb
  obtain ⟨its,v1,p1,_⟩:=I.tuple (.inr h1)
  obtain ⟨its2,v2,p2',_⟩:=I.tuple (.inr h2)
  have l1:=v1.length
  have l2:=v2.length
  have m1:=r1.length
  have m2:=r2.length
  have:=SeqAt.RcNeAt.tuples p1 p2' hu0 (nG I hu r1 r2 v1 v2 o)
  rw [bk3,bk3,<- l1,<- l2,m1,m2,jQ] at this
  exact this _ _ _ _ ⟨.bl _,H,I,rfl,q⟩
theorem N6 {n:Nat}{neg:Bool}:dR X (oR n neg) (wK X.K n neg):=by
 rintro W Hs H u v x y g g' Q Q' s n r1 r2 ⟨kd,o,q⟩ k
 exact⟨x,y,r1.same (aE.refl _) fun _ _=>trivial,r2.same (aE.refl _) fun _ _=>trivial,kd.elim .inl fun z=>.inr (.inl z),o,k _ _ _ .fr (aE.refl _) (.bl _) q⟩
theorem aF8 (hu:X.A.units+3 < cLine) (ha:QE X a ta) (hb:QE X b tb):QT X (.Compare a [.NotEq] [b] pos) (aW (q2 (oR 2 true) ta tb)):=iT (aF7 2 hu) N6 ha hb (eU _)
theorem aF9 (hu:X.A.units+3 < cLine) (ha:QE X a ta) (hb:QE X b tb):QE X (.Compare a [.Eq] [b] pos) (q2 (oR 2 false) ta tb):=lM (aF6 2 hu) N6 ha hb (eU _)
end
end PP
namespace PP
open PySem L2 PyProof.Rows
def LO (X:Cx) (t:nA):TO:=fun σ H Q'=>∃ (W:Addr->Prop) (ρ:bC) (Q:Option Int->Prop),PX X.K X.H₀ W σ ρ H/\t ρ Q/\∀ o H',aE H H'->Q o->Q' o H'
def QO (X:Cx) (e:Option Expr) (t:nA):Prop:=PO X e (LO X t)
theorem Reps.cut {K:PySem.W.Frag}{M:Addr->Prop}{H:Hp}{us:List V}{xs:List PV} (r:Reps K M H us xs) (lo hi:Option Int):Reps K M H (i8 us lo hi) (jL xs lo hi):=by
 unfold i8 jL
 rw [r.length]
 exact (r.drop _).take _
section
variable {X : Cx} {a b c e o : Expr} {es cM : List Expr} {ta tb te to tk : aB} {tr : cP} {tA tB' tc : cN} {pos p2 px : Pos} {st : Stmt} {sts : List Stmt} {t u : aP}
theorem N7:QO X none w6:=fun pins s σ H Q I h=>as4 pins s σ H Q I (by
 obtain ⟨W,ρ,Q1,px,q,k⟩:=h
 exact k _ _ (aE.refl _) q)
theorem N8 (h:QE X e te):QO X (some e) (w9 te):=fun pins s σ H Q I hq=>as5 h pins s σ H Q I (by
 obtain ⟨W,ρ,Q1,px,q,k⟩:=hq
 refine⟨W,ρ,_,px,q,?_⟩
 rintro v H1 x g s r ⟨i,rfl,q⟩
 cases r
 exact⟨i,rfl,k _ _ s q⟩)
theorem N9 {lo hi:Option Expr}{tl th:nA}{sp:Pos} (he:QE X e te) (hl:QO X lo tl) (hh:QO X hi th):QE X (.Subscript e (.Slice lo hi none sp) pos) (wA te tl th):=cK (as6 (at9.or az2) he hl hh) fun σ H Q' h=>by
 obtain ⟨W,ρ,Q,px,q,k⟩:=h
 refine⟨W,ρ,_,px,q,fun v H1 x g s1 r1 q1=>⟨W,ρ,_,px.mono s1,q1,fun lo H2 s2 q2=>⟨W,ρ,_,px.mono (s1.trans s2),q2,?_⟩⟩⟩
 rintro hi H3 s3 ⟨xs,e,f,q3⟩
 have S:=(s1.trans s2).trans s3
 have r3:=r1.same (M':=Mg X.H₀ W H g) (s2.trans s3) fun _ z=>z
 cases r3 with
 | tup h r=>
  cases e
  refine .inr ⟨_,_,rfl,aU.of h,fun p hp=>k _ _ _ .fr (S.trans (cA hp _)) (.tup cH (((r.flat f).cut lo hi).same (cA hp _) fun _ z=>z)) q3,fun ec=>k _ _ _ .fr S (.tup h ?_) q3⟩
  have:=(r.flat (M':=Mg X.H₀ W H .fr) f).cut lo hi
  rw [ec] at this
  exact this
 | lst m h r=>
  cases e
  exact .inl ⟨_,_,rfl,aT.of h,fun p hp=>k _ _ _ .fr (S.trans (cA hp _)) (.lst (S.free hp) cH (((r.flat f).cut lo hi).same (cA hp _) fun _ z=>z)) q3⟩
 | scr h=>
  cases e
  exact .inl ⟨_,_,rfl,h.sqL,fun p hp=>k _ _ _ .fr (S.trans (cA hp _)) (.lst (S.free hp) cH (((Reps.intz _).cut lo hi).same (cA hp _) fun _ z=>z)) q3⟩
 | _=>cases e
structure Df (P:Program) (w:World) (K:PySem.W.Frag) (mg:Str->Option Value) (base:Heap) (k:Nat) (x:Str) (ps:List Str) (p:bS):Prop where
 ex:∃ f fd,dQ P w K mg base fJ k f fd ps (oO K p)/\jB K fd ps []/\PySem.W.keepIn K (.ref f)=true/\mg x=some (.ref f)
theorem bJ {k j:Nat}{x:Str}{ps:List Str}{p:bS} (d:Df X.prog X.w X.K X.mg X.base k x ps p) (hr:cE j X.A) (ha:QA X (e :: es) tr) (hkj:k<=j:=by decide) (hg:Gl X x:=by rfl) (hdb:(x == ("__debug__" : Str))=false:=by decide)
  (he:starEach (e :: es) X.env=(false,eval e X.env) :: starEach es X.env:=by rfl) (hpl:(backTo pos (starEach es X.env)).any (·.1)=false:=by rfl):QE X (.Call (.Name x p2) (e :: es) [] pos) (aG p tr):=by
 obtain ⟨f,fd,F,b,kp,m⟩:=d.ex
 exact cK (uM F (hr.mono hkj) hg m kp b .nil aw6 ha hdb he hpl) fun _ _ _=>aC4
theorem wL {K:PySem.W.Frag}{H:Hp}{N:List Str}{vs:List V}{xs:List PV} (r:Reps K (fun _=>True) H vs xs):PX K H (fun _=>False) (L2.gW N vs) (fD N xs) H:=by
 have lr:=r.length
 have own:∀ {i:Nat}{m:Slot},(fD N xs)[i]? = some (some m)->∃ x,xs[i]? = some x/\m = .sh (flat x) x:=fun {i m} h=>by
  unfold fD at h
  by_cases hi:i < xs.length
  ·rw [bv6 (by simpa using hi),bl9] at h
   rw [bk5 hi] at h ⊢
   cases h
   exact⟨_,rfl,rfl⟩
  ·rw [bw9 (by simpa using hi),List.getElem?_replicate] at h
   split at h <;> cases h
 refine⟨by unfold L2.gW fD; simp [lr],aE.refl _,fun a z=>z.elim,fun i m h=>?_,fun i j x y a h1=>?_⟩
 ·obtain ⟨x,hx,rfl⟩:=own h
  obtain ⟨v,hv,rx⟩:=r.at hx
  refine⟨v,?_,kG (g:=false) (rx.same (aE.refl _) fun _ _ z=>z)⟩
  have hi:i < vs.length:=(bl0.mp hv).1
  unfold L2.gW
  rw [bv6 (by simpa using hi),bl9,hv]; rfl
 ·obtain ⟨x,_,e⟩:=own h1
  cases e
theorem Df.of {P:Program}{w:World}{K:PySem.W.Frag}{mg:Str->Option Value}{base:Heap}{k:Nat}{x:Str}{ps N:List Str}{p:bS}{st:Stmt}{f:Addr}{fd:FuncData} (F:gH K x x st f fd) (m:mg x=some (.ref f)) (S:FnScope N ps (aY st))
  (hb:∀ (kV doc pm:Value) (an:Option Addr) (cdv ct:Value) (us:List Value),us.length=ps.length->bindArgs (PySem.W.fnOf x x (jE st) (eV st) (aY st) .none kV doc pm an cdv ct) ⟨us,[]⟩=pure (ps.zip us))
  (len:∀ xs Q,p xs Q->xs.length=ps.length)
  (body:∀ (cdv:Value) (A:Around) (outer:List Env) (s:Shared) (H:Hp) (E:XK),cE k (A.deeper (envOfC x (aY st) s.heap.objs.size f cdv))->
   ∃ t,eJ (dH fJ P w K mg base N x (aY st) f cdv A outer s H E).nox (eV st) t/\∀ xs Q,p xs Q->t { nx:=fun _=>Q .non,rt:=Q } (fD N xs)):Df P w K mg base (k+1) x ps p:=by
 refine⟨f,fd,F.ok S (fun vs H Q E h=>?_) (fun cdv A outer s H vs Q E hr h=>?_),F.binds hb,F.kp,m⟩
 ·obtain ⟨xs,Qp,r,q,_⟩:=h
  rw [r.length]; exact len xs Qp q
 ·obtain ⟨xs,Qp,r,q,k⟩:=h
  obtain ⟨t,ht,hq⟩:=body cdv A outer s H E hr
  refine⟨_,ht,fun _=>False,fD N xs,_,wL r,hq xs Qp q,?_,?_,?_,?_⟩
  ·exact fun W' σ' H' ρ' e px q=>k _ _ _ px.same .non q
  ·exact fun v H' x s r q=>k _ _ _ s r q
  ·exact fun W' σ' H' ρ' e px q=>q
  ·exact fun W' σ' H' ρ' e px q=>q
theorem gB (i:Nat) {x:Str}{tp:Pos}{body:List Stmt}{ti:fB} (hN:X.N.Nodup) (hi:QI X (.Name x tp) e ti) (hb:eJ X body t) (hx:X.N[i]? = some x:=by rfl) (hl:gR X.env.scope x:=by first | exact Or.inl rfl | exact Or.inr rfl) (hf:X.fn x=true ∨ X.env.scope.names.lookup x=some .local:=by first | exact .inl rfl | exact .inr rfl)
  (hp:PassesOwn (model X.prog X.w) X.A X.env X.xe:=by exact PassesOwn.never) (hc:X.calm=true:=by rfl) (hs:∀ x,foldedSetIterable e X.env x=pure x:=by intro _; rfl):QS X (.For (.Name x tp) e body [] pos) (dB ti (cQ i) t):=
 wI hp hc hi (gS hN hx hl hf) (rD _ i) hb hs
theorem O0 (i j:Nat) {x y:Str}{tp xp yp:Pos}{kt:Nat}{body:List Stmt}{ti:fB} (hN:X.N.Nodup) (hi:QI X (.Tuple [.Name x xp,.Name y yp] kt tp) e ti) (hb:eJ X body t) (hx:X.N[i]? = some x:=by rfl) (hy:X.N[j]? = some y:=by rfl) (hlx:gR X.env.scope x:=by first | exact Or.inl rfl | exact Or.inr rfl) (hly:gR X.env.scope y:=by first | exact Or.inl rfl | exact Or.inr rfl)
  (hfx:X.fn x=true ∨ X.env.scope.names.lookup x=some .local:=by first | exact .inl rfl | exact .inr rfl) (hfy:X.fn y=true ∨ X.env.scope.names.lookup y=some .local:=by first | exact .inl rfl | exact .inr rfl)
  (hp:PassesOwn (model X.prog X.w) X.A X.env X.xe:=by exact PassesOwn.never) (hc:X.calm=true:=by rfl) (hs:∀ x,foldedSetIterable e X.env x=pure x:=by intro _; rfl):QS X (.For (.Tuple [.Name x xp,.Name y yp] kt tp) e body [] pos) (dB ti (gN i j) t):=
 wI hp hc hi (qE hc (iM (gS hN hx hlx hfx) (iM (gS hN hy hly hfy) qD))) (vW _ i j) hb hs
abbrev dF:Value->Shared->Prop:=fun _ _=>False
section
variable {scope : Scope} {N : List Str} {fr : List (Option Nat)} {x y : Str} {tp xp yp : Pos} {kt : Nat} {iter elt : Expr} {ti : fB}
theorem wM {ifs:List Expr}{tcs:cN} (he:∀ (s:Shared) (H:Hp) (C:Addr) (fp:List Addr),QE (cI X scope N s H C fp dF) elt te) (hi:∀ (s:Shared) (H:Hp) (C:Addr) (fp:List Addr),lA (cI X scope N s H C fp dF) ifs (LT (cI X scope N s H C fp dF) tcs))
  (hN:N.Nodup) (h0:N[0]? = some x) (hl:∀ (s:Shared) (H:Hp) (C:Addr) (fp:List Addr),(cI X scope N s H C fp dF).env.scope.names.lookup x=some .local) (s:Shared) (H:Hp) :
  oG X scope N (.Name x tp) ifs elt s H (dA 0) (LT (X.frm H) tcs) (LE (X.frm H) te):=
 ⟨fun C fp=>gS (X:=cI X scope N s H C fp dF) hN h0 (.inl (hl s H C fp)) (.inr (hl s H C fp)),fun C fp=>hi s H C fp,fun C fp=>he s H C fp⟩
theorem O1 {Y:Cx}:lA Y [] (LT Y g9):=fun pins s σ H Q I h=>ax2 pins s σ H Q I (aD2 h)
theorem O2 (hi:QI X (.Name x tp) iter ti) (he:∀ (s:Shared) (H:Hp) (C:Addr) (fp:List Addr),QE (cI X scope N s H C fp dF) elt te)
  (hc:X.calm=true:=by rfl) (S:eW X scope N fr:=by exact eW.of rfl rfl) (hN:N.Nodup:=by decide +kernel) (h0:N[0]? = some x:=by rfl) (hl:∀ (s:Shared) (H:Hp) (C:Addr) (fp:List Addr),(cI X scope N s H C fp dF).env.scope.names.lookup x=some .local:=by intro _ _ _ _; rfl) (hf:fr[0]? = some none:=by rfl)
  (hs:∀ x,foldedSetIterable iter X.env x=pure x:=by intro _; rfl):QE X (.ListComp elt [⟨.Name x tp,iter,[],0⟩] scope pos) (hJ ti fr (cQ 0) g9 te):=
 cK (vC (gh:=fun _=>dA 0) (tch:=fun H=>LT (X.frm H) g9) (teh:=fun H=>LE (X.frm H) te) hc S hi (wM he (fun _ _ _ _=>O1) hN h0 hl) hs) fun _ _ _=>rE (rD _ 0) (fun i e=>by subst e; exact hf)
theorem aG0 {c:Expr}{tcs:cN} (hi:QI X (.Name x tp) iter ti) (ht:∀ (s:Shared) (H:Hp) (C:Addr) (fp:List Addr),QT (cI X scope N s H C fp dF) c tcs) (he:∀ (s:Shared) (H:Hp) (C:Addr) (fp:List Addr),QE (cI X scope N s H C fp dF) elt te)
  (hc:X.calm=true:=by rfl) (S:eW X scope N fr:=by exact eW.of rfl rfl) (hN:N.Nodup:=by decide +kernel) (h0:N[0]? = some x:=by rfl) (hl:∀ (s:Shared) (H:Hp) (C:Addr) (fp:List Addr),(cI X scope N s H C fp dF).env.scope.names.lookup x=some .local:=by intro _ _ _ _; rfl) (hf:fr[0]? = some none:=by rfl)
  (hs:∀ x,foldedSetIterable iter X.env x=pure x:=by intro _; rfl):QE X (.ListComp elt [⟨.Name x tp,iter,[c],0⟩] scope pos) (hJ ti fr (cQ 0) tcs te):=
 cK (vC (gh:=fun _=>dA 0) (tch:=fun H=>LT (X.frm H) tcs) (teh:=fun H=>LE (X.frm H) te) hc S hi (wM he (fun s H C fp=>F7 (ht s H C fp)) hN h0 hl) hs) fun _ _ _=>rE (rD _ 0) (fun i e=>by subst e; exact hf)
theorem aG1 {c:Expr}{tcs:cN}{i:Nat}{z:Str}{zp:Pos} (nd:X.N.Nodup) (hi:QI X (.Name x tp) iter ti) (ht:∀ (s:Shared) (H:Hp) (C:Addr) (fp:List Addr),QT (cI X scope N s H C fp dF) c tcs) (he:∀ (s:Shared) (H:Hp) (C:Addr) (fp:List Addr),QE (cI X scope N s H C fp dF) elt te)
  (hz:X.N[i]? = some z:=by rfl) (hzl:X.env.scope.names.lookup z=some .local:=by rfl) (hsw:swapsWith (.ListComp elt [⟨.Name x tp,iter,[c],0⟩] scope p2) (some (.Name z zp)) pos.line X.env=pure true:=by rfl)
  (hc:X.calm=true:=by rfl) (S:eW X scope N fr:=by exact eW.of rfl rfl) (hN:N.Nodup:=by decide +kernel) (h0:N[0]? = some x:=by rfl) (hl:∀ (s:Shared) (H:Hp) (C:Addr) (fp:List Addr),(cI X scope N s H C fp dF).env.scope.names.lookup x=some .local:=by intro _ _ _ _; rfl) (hf:fr[0]? = some none:=by rfl)
  (hs:∀ x,foldedSetIterable iter X.env x=pure x:=by intro _; rfl):QS X (.Assign [.Name z zp] (.ListComp elt [⟨.Name x tp,iter,[c],0⟩] scope p2) pos) (bB i (hJ ti fr (cQ 0) tcs te)):=
 dZ (ax6 (gh:=fun _=>dA 0) (tch:=fun H=>LT (X.frm H) tcs) (teh:=fun H=>LE (X.frm H) te) hc S hi (wM he (fun s H C fp=>F7 (ht s H C fp)) hN h0 hl) nd hz hzl hsw hs) fun D σ H h=>rE (rD _ 0) (fun i e=>by subst e; exact hf) (J7 h)
end
end
end PP
namespace SO
open PySem PyProof.Rows
section
variable (rk : Keyed → Int)
def Kr (xs:Array Keyed) (i:Nat):Int:=((xs[i]?).map rk).getD 0
def Up (xs:Array Keyed) (lo hi:Nat):Prop:=∀ i j,lo<=i->i<=j->j < hi->Kr rk xs i<=Kr rk xs j
def Dn (xs:Array Keyed) (lo hi:Nat):Prop:=∀ i j,lo<=i->i<=j->j < hi->Kr rk xs j<=Kr rk xs i
end
variable {rk : Keyed → Int}
theorem lP {xs ys:Array Keyed}{i j:Nat} (h:xs[i]? = ys[j]?):Kr rk xs i=Kr rk ys j:=by unfold Kr; rw [h]
theorem rN {xs:Array Keyed}{i j:Nat} (hj:j<=xs.size) (k:Nat):Kr rk (mirror xs i j ((j - i) / 2)) k=Kr rk xs (if i<=k/\k < j then i+j - 1 - k else k):=by
 refine lP ?_
 rw [getElem?_mirror_all hj]
 split <;> rfl
theorem wN {xs:Array Keyed}{i j:Nat} (hj:j<=xs.size) (e:∀ k,i<=k->k < j->Kr rk xs k=Kr rk xs (j - 1)) (k:Nat):Kr rk (mirror xs i j ((j - i) / 2)) k=Kr rk xs k:=by
 rw [rN hj]
 split
 ·rename_i h; rw [e k h.1 h.2,e _ (by omega) (by omega)]
 ·rfl
theorem aG2 {xs:Array Keyed}{src d:Nat} (hs:src < xs.size) (hd:d<=src) (k:Nat):Kr rk (bubble xs src d) k=Kr rk xs (if k=src - d then src else if src - d < k/\k<=src then k - 1 else k):=by
 refine lP ?_
 rw [getElem?_bubble hs d hd]
 repeat' split
 all_goals rfl
structure SB (κ:SortKind) (a0:Array Keyed) (pd:Array (Nat × Nat × Nat)) (st:SortSt):Prop where
 pm:(arrOf st).Perm a0
 kd:kindOf st=κ
 ok:failedOf st=none
 pd:pendingOf st=pd
section
variable {κ : SortKind} {a0 : Array Keyed} {pd : Array (Nat × Nat × Nat)} {st : SortSt} {prog : Program} {w : World} {A : Around} {E : Value → Shared → Prop} {s : Shared} {Ok : Keyed → Prop}
theorem SB.sz (h:SB κ a0 pd st):(arrOf st).size=a0.size:=h.pm.size_eq
theorem SB.put (h:SB κ a0 pd st) {xs:Array Keyed} (hp:xs.Perm (arrOf st)):SB κ a0 pd (setArr st xs):=⟨hp.trans h.pm,h.kd,h.ok,h.pd⟩
def cL (prog:Program) (w:World) (A:Around) (E:Value->Shared->Prop) (s:Shared) (κ:SortKind) (Ok:Keyed->Prop) (rk:Keyed->Int):Prop:=
 ∀ (x y:Keyed),Ok x->Ok y->∀ (st:SortSt) (Q:Option Bool->SortSt->Prop),kindOf st=κ->Q (some (decide (rk x < rk y))) st->wpS (model prog w) A E s (lt' x y) Q st
def bO (Ok:Keyed->Prop) (xs:Array Keyed):Prop:=∀ x ∈ xs,Ok x
theorem SB.all (h:SB κ a0 pd st) (o:bO Ok a0):bO Ok (arrOf st):=fun x hx=>o x (h.pm.mem_iff.mp hx)
theorem cW {xs:Array Keyed}{i:Nat}{Q:Keyed->SortSt->Prop} (hi:i < xs.size) (h:Q xs[i] st):wpS (model prog w) A E s (elem' xs i) Q st:=by
 rw [elem'_eq,getElem?_pos xs i hi]; exact bm0 h
theorem cG {xs:Array Keyed}{i:Nat} (hi:i < xs.size):Kr rk xs i=rk xs[i]:=by unfold Kr; rw [getElem?_pos xs i hi]; rfl
theorem oZ (c:cL prog w A E s κ Ok rk) (o:bO Ok a0) (b:SB κ a0 pd st) {i j:Nat}{Q:Option Bool->SortSt->Prop} (hi:i < a0.size) (hj:j < a0.size)
  (h:Q (some (decide (Kr rk (arrOf st) i < Kr rk (arrOf st) j))) st):wpS (model prog w) A E s (ltAt' i j) Q st:=by
 have hi':i < (arrOf st).size:=by rw [b.sz]; exact hi
 have hj':j < (arrOf st).size:=by rw [b.sz]; exact hj
 rw [ltAt'_eq]
 refine bl3 (wpS_get (bl3 (cW hi' (bl3 (cW hj' ?_)))))
 refine c _ _ (b.all o _ (bo7 hi')) (b.all o _ (bo7 hj')) st Q b.kd ?_
 rw [<- cG (rk:=rk) hi',<- cG (rk:=rk) hj']; exact h
theorem rO {i j:Nat}{Q:Unit->SortSt->Prop} (h:Q () (setArr st (mirror (arrOf st) i j ((j - i) / 2)))):wpS (model prog w) A E s (reverseSlice' i j) Q st:=by
 rw [reverseSlice'_eq]; exact wpS_modify h
abbrev CS:=Option (Option Nat) × Nat
abbrev DS:=Option (Option Nat) × Nat × Nat
def p5 (lo b nrem:Nat):StateT SortSt Sem CS:=forIn [b:nrem] ((none,b):CS) fun _ r=>do
 match <- ltAt' (lo+r.2) (lo+r.2 - 1) with
 | some q=>if q=true then pure (ForInStep.done (none,r.2)) else pure (ForInStep.yield (none,r.2+1))
 | _=>pure (ForInStep.done (some none,r.2))
def wO (lo b nrem:Nat):StateT SortSt Sem DS:=forIn [b:nrem] ((none,b,0):DS) fun _ r=>do
 match <- ltAt' (lo+r.2.1) (lo+r.2.1 - 1) with
 | some q=>
  if q=true then (if r.2.2 > 0 then do reverseSlice' (lo+r.2.1 - (r.2.2+1)) (lo+r.2.1); pure (ForInStep.yield (none,r.2.1+1,0)) else pure (ForInStep.yield (none,r.2.1+1,0)))
  else do
   match <- ltAt' (lo+r.2.1 - 1) (lo+r.2.1) with
   | some q=>if q=true then pure (ForInStep.done (none,r.2.1,r.2.2)) else pure (ForInStep.yield (none,r.2.1+1,r.2.2+1))
   | _=>pure (ForInStep.done (some none,r.2.1,r.2.2))
 | _=>pure (ForInStep.done (some none,r.2.1,r.2.2))
theorem O3 (c:cL prog w A E s κ Ok rk) (o:bO Ok a0) (b:SB κ a0 pd st) {lo n nrem:Nat}{Q:CS->SortSt->Prop} (hz:lo+nrem<=a0.size) (h1:1<=n) (hn:n<=nrem) (u:Up rk (arrOf st) lo (lo+n))
  (h:∀ m,n<=m->m<=nrem->Up rk (arrOf st) lo (lo+m)->(m=nrem ∨ Kr rk (arrOf st) (lo+m) < Kr rk (arrOf st) (lo+m - 1))->Q (none,m) st):wpS (model prog w) A E s (p5 lo n nrem) Q st:=by
 unfold p5
 refine bt5 (I:=fun x r st'=>st'=st/\r=(none,x)/\Up rk (arrOf st) lo (lo+x)) ?_ ?_ ⟨rfl,rfl,u⟩
 ·rintro x r st' hx hx' ⟨rfl,rfl,u'⟩
  refine bl3 (oZ c o b (by omega) (by omega) ?_)
  by_cases hq:Kr rk (arrOf st') (lo+x) < Kr rk (arrOf st') (lo+x - 1)
  ·rw [bk4 hq]
   exact bm0 (h x hx (by omega) u' (.inr hq))
  ·rw [bk1 hq]
   refine bm0 ⟨rfl,rfl,fun i j hi hij hj=>?_⟩
   rcases bp3 j (lo+x) with z | z
   ·exact u' i j hi hij z
   ·have ej:j=lo+x:=by omega
    subst ej
    rcases bz6 hij with z | z
    ·rw [z]; exact bk7 _
    ·have:=u' i (lo+x - 1) hi (by omega) (by omega)
     omega
 ·rintro r st' ⟨rfl,rfl,u'⟩
  have em:max n nrem=nrem:=by omega
  rw [em] at u' ⊢
  exact h nrem hn (bl1 _) u' (.inl rfl)
structure p6 (rk:Keyed->Int) (xs ys:Array Keyed) (lo m q:Nat):Prop where
 dn:Dn rk ys lo (lo+m)
 le:q+1<=m
 eq:∀ i,lo+m - (q+1)<=i->i < lo+m->Kr rk ys i=Kr rk ys (lo+m - 1)
 low:∀ i,i < lo->Kr rk ys i=Kr rk xs i
theorem aG3 (c:cL prog w A E s κ Ok rk) (o:bO Ok a0) (b:SB κ a0 pd st) {lo n nrem:Nat}{xs:Array Keyed}{Q:DS->SortSt->Prop} (hz:lo+nrem<=a0.size) (h1:1<=n) (hn:n<=nrem) (u:p6 rk xs (arrOf st) lo n 0)
  (h:∀ m q st',SB κ a0 pd st'->n<=m->m<=nrem->p6 rk xs (arrOf st') lo m q->Q (none,m,q) st'):wpS (model prog w) A E s (wO lo n nrem) Q st:=by
 unfold wO
 refine bt5 (I:=fun x r st'=>∃ q,r=(none,x,q)/\SB κ a0 pd st'/\p6 rk xs (arrOf st') lo x q) ?_ ?_ ⟨0,rfl,b,u⟩
 ·rintro x r st' hx hx' ⟨q,rfl,b',f⟩
  have sz:=b'.sz
  dsimp only
  refine bl3 (oZ c o b' (by omega) (by omega) ?_)
  by_cases hq:Kr rk (arrOf st') (lo+x) < Kr rk (arrOf st') (lo+x - 1)
  ·rw [bk4 hq]
   have nx:∀ ys:Array Keyed,(∀ k,Kr rk ys k=Kr rk (arrOf st') k)->p6 rk xs ys lo (x+1) 0:=fun ys e=>by
    refine⟨fun i j hi hij hj=>?_,by omega,fun i h1 h2=>by rw [show i=lo+(x+1) - 1 by omega],fun i hi=>(e i).trans (f.low i hi)⟩
    rw [e,e]
    rcases bp3 j (lo+x) with z | z
    ·exact f.dn i j hi hij z
    ·have ej:j=lo+x:=by omega
     subst ej
     rcases bz6 hij with z | z
     ·rw [z]; exact bk7 _
     ·have:=f.dn i (lo+x - 1) hi (by omega) (by omega)
      omega
   dsimp only
   rw [if_pos rfl]
   by_cases hp:q > 0
   ·rw [if_pos hp]
    exact bl3 (rO (bm0 ⟨0,rfl,b'.put (mirror_perm _ _ _ _),nx _ (wN (by omega) f.eq)⟩))
   ·rw [if_neg hp]
    exact bm0 ⟨0,rfl,b',nx _ fun _=>rfl⟩
  ·rw [bk1 hq]
   dsimp only
   rw [if_neg bm6]
   refine bl3 (oZ c o b' (by omega) (by omega) ?_)
   by_cases hl:Kr rk (arrOf st') (lo+x - 1) < Kr rk (arrOf st') (lo+x)
   ·rw [bk4 hl]
    exact bm0 (h x q st' b' hx (by omega) f)
   ·rw [bk1 hl]
    have ex:Kr rk (arrOf st') (lo+x)=Kr rk (arrOf st') (lo+x - 1):=by omega
    refine bm0 ⟨q+1,rfl,b',fun i j hi hij hj=>?_,by have:=f.le; omega,fun i h1 h2=>?_,f.low⟩
    ·rcases bp3 j (lo+x) with z | z
     ·exact f.dn i j hi hij z
     ·have ej:j=lo+x:=by omega
      subst ej
      rcases bz6 hij with z | z
      ·rw [z]; exact bk7 _
      ·rw [ex]; exact f.dn i (lo+x - 1) hi (by omega) (by omega)
    ·rw [show lo+(x+1) - 1=lo+x by omega]
     rcases bp3 i (lo+x) with z | z
     ·rw [ex]; exact f.eq i (by omega) z
     ·rw [show i=lo+x by omega]
 ·rintro r st' ⟨q,rfl,b',f⟩
  have em:max n nrem=nrem:=by omega
  rw [em] at f ⊢
  exact h nrem q st' b' hn (bl1 _) f
theorem O4 (c:cL prog w A E s κ Ok rk) (o:bO Ok a0) (b:SB κ a0 pd st) {lo nrem:Nat} (n:Nat) {xs:Array Keyed}{Q:Option Nat->SortSt->Prop}{K:DS->StateT SortSt Sem (Option Nat)}{k:CS->StateT SortSt Sem (Option Nat)} (hz:lo+nrem<=a0.size) (hn:n+1<=nrem)
  (hK:∀ m q,K (none,m,q)=if q > 0 then reverseSlice' (lo+m - (q+1)) (lo+m) >>= fun _=>reverseSlice' lo (lo+m) >>= fun _=>p5 lo m nrem >>= k else reverseSlice' lo (lo+m) >>= fun _=>p5 lo m nrem >>= k)
  (hk:∀ m,k (none,m)=pure (some m)) (u:p6 rk xs (arrOf st) lo (n+1) 0)
  (h:∀ m st',SB κ a0 pd st'->1<=m->m<=nrem->Up rk (arrOf st') lo (lo+m)->(∀ i,i < lo->Kr rk (arrOf st') i=Kr rk xs i)->Q (some m) st'):wpS (model prog w) A E s (liftM (rule "list.sort.descending-run") >>= fun _=>wO lo (n+1) nrem >>= K) Q st:=by
 refine bl3 (wpS_lift (by6 ⟨rfl,?_⟩))
 refine bl3 (aG3 c o b hz (by omega) hn u fun m q st1 b1 m1 m2 f=>?_)
 have fin:∀ st2:SortSt,SB κ a0 pd st2->(∀ k,Kr rk (arrOf st2) k=Kr rk (arrOf st1) k)->
   wpS (model prog w) A E s (reverseSlice' lo (lo+m) >>= fun _=>p5 lo m nrem >>= k) Q st2:=fun st2 b2 e=>by
  have sz:=b2.sz
  have low:∀ i,i < lo->Kr rk (mirror (arrOf st2) lo (lo+m) ((lo+m - lo) / 2)) i=Kr rk xs i:=fun i hi=>by
   rw [rN (by omega),if_neg (by omega),e]
   exact f.low i hi
  refine bl3 (rO (bl3 (O3 (κ:=κ) c o (b2.put (mirror_perm _ _ _ _)) hz (by omega) m2 ?_ fun m' h1 h2 up _=>by rw [hk]; exact bm0 (h m' _ (b2.put (mirror_perm _ _ _ _)) (by omega) h2 up low))))
  ·intro i j hi hij hj
   show Kr rk (mirror (arrOf st2) lo (lo+m) _) i<=Kr rk (mirror (arrOf st2) lo (lo+m) _) j
   rw [rN (by omega),rN (by omega),if_pos (by omega),if_pos (by omega),e,e]
   exact f.dn _ _ (by omega) (by omega) (by omega)
 rw [hK]
 by_cases hp:q > 0
 ·rw [if_pos hp]
  have sz:=b1.sz
  exact bl3 (rO (fin _ (b1.put (mirror_perm _ _ _ _)) (wN (by omega) f.eq)))
 ·rw [if_neg hp]
  exact fin st1 b1 fun _=>rfl
theorem aG4 (c:cL prog w A E s κ Ok rk) (o:bO Ok a0) (b:SB κ a0 pd st) {lo nrem:Nat}{Q:Option Nat->SortSt->Prop} (hz:lo+nrem<=a0.size) (h1:1<=nrem)
  (h:∀ m st',SB κ a0 pd st'->1<=m->m<=nrem->Up rk (arrOf st') lo (lo+m)->(∀ i,i < lo->Kr rk (arrOf st') i=Kr rk (arrOf st) i)->Q (some m) st'):wpS (model prog w) A E s (countRun' lo nrem) Q st:=by
 rw [countRun'_eq]
 refine bl3 (O3 (n:=1) c o b hz (bl1 _) h1 (fun i j hi hij hj=>by rw [show i=j by omega]; exact bk7 _) fun n n1 n2 un on=>?_)
 dsimp only
 by_cases en:(n == nrem)=true
 ·rw [if_pos en]
  exact bm0 (h n st b n1 n2 un fun _ _=>rfl)
 ·rw [if_neg en]
  have en':n ≠ nrem:=by simpa using en
  have lt:=on.resolve_left en'
  have sz:=b.sz
  by_cases g:n > 1
  ·rw [if_pos g]
   refine bl3 (oZ c o b (by omega) (by omega) ?_)
   by_cases hq:Kr rk (arrOf st) lo < Kr rk (arrOf st) (lo+n - 1)
   ·rw [bk4 hq]
    exact bm0 (h n st b n1 n2 un fun _ _=>rfl)
   ·rw [bk1 hq]
    dsimp only
    rw [if_neg bm6]
    have all:∀ k,lo<=k->k < lo+n->Kr rk (arrOf st) k=Kr rk (arrOf st) (lo+n - 1):=fun k k1 k2=>by
     have a1:=un lo k (bl1 _) k1 k2
     have a2:=un k (lo+n - 1) k1 (by omega) (by omega)
     omega
    have sm:=wN (rk:=rk) (xs:=arrOf st) (i:=lo) (j:=lo+n) (by omega) all
    refine bl3 (rO (O4 (xs:=arrOf st) (κ:=κ) c o (b.put (mirror_perm _ _ _ _)) n hz (by omega) (fun _ _=>rfl) (fun _=>rfl) ⟨fun i j hi hij hj=>?_,by omega,fun i h1 h2=>by rw [show i=lo+(n+1) - 1 by omega],fun i _=>sm i⟩ h))
    show Kr rk (mirror (arrOf st) lo (lo+n) _) j<=Kr rk (mirror (arrOf st) lo (lo+n) _) i
    rw [sm,sm]
    rcases bp3 j (lo+n) with z | z
    ·rw [all i hi (by omega),all j (by omega) z]; exact bk7 _
    ·have ej:j=lo+n:=by omega
     subst ej
     rcases bz6 hij with z | z
     ·rw [z]; exact bk7 _
     ·rw [all i hi (by omega)]; exact Int.le_of_lt lt
  ·rw [if_neg g]
   have e1:n=1:=by omega
   subst e1
   refine O4 (xs:=arrOf st) c o b 1 hz (by omega) (fun _ _=>rfl) (fun _=>rfl) ⟨fun i j hi hij hj=>?_,by omega,fun i h1 h2=>by rw [show i=lo+(1+1) - 1 by omega],fun i _=>rfl⟩ h
   rcases bz6 hij with z | z
   ·rw [z]; exact bk7 _
   ·have ei:i=lo+1 - 1:=by omega
    have ej:j=lo+1:=by omega
    rw [ei,ej]; exact Int.le_of_lt lt
theorem aG5 (c:cL prog w A E s κ Ok rk) (o:bO Ok a0) (b:SB κ a0 pd st) {lo n q:Nat}{Q:Bool->SortSt->Prop} (hz:lo+n<=a0.size) (hq:q<=n) (u:Up rk (arrOf st) lo (lo+q))
  (h:∀ st',SB κ a0 pd st'->Up rk (arrOf st') lo (lo+n)->(∀ i,i < lo->Kr rk (arrOf st') i=Kr rk (arrOf st) i)->Q true st'):wpS (model prog w) A E s (binarySort' lo n q) Q st:=by
 rw [binarySort'_eq]
 refine bl3 (bA7 (bt5 (I:=fun k r st'=>r=(none,())/\SB κ a0 pd st'/\Up rk (arrOf st') lo (lo+min k n)/\∀ i,i < lo->Kr rk (arrOf st') i=Kr rk (arrOf st) i)
  (Q:=fun r st'=>r=(none,())/\SB κ a0 pd st'/\Up rk (arrOf st') lo (lo+n)/\∀ i,i < lo->Kr rk (arrOf st') i=Kr rk (arrOf st) i) ?_ ?_ ?_) ?_)
 ·rintro k r st1 hk hkn ⟨rfl,b1,u1,l1⟩
  rw [show min k n=k by omega] at u1
  have hk0:lo+k < a0.size:=by omega
  have sz:=b1.sz
  refine bl3 (bA7 (bt5 (I:=fun x r st'=>st'=st1/\∃ l g,r=(none,l,g)/\l<=g/\g<=k/\g - l<=k - x/\(∀ i,i < l->Kr rk (arrOf st1) (lo+i)<=Kr rk (arrOf st1) (lo+k))/\∀ i,g<=i->i < k->Kr rk (arrOf st1) (lo+k) < Kr rk (arrOf st1) (lo+i))
   (Q:=fun r st'=>st'=st1/\∃ l g,r=(none,l,g)/\l<=k/\(∀ i,i < l->Kr rk (arrOf st1) (lo+i)<=Kr rk (arrOf st1) (lo+k))/\∀ i,l<=i->i < k->Kr rk (arrOf st1) (lo+k) < Kr rk (arrOf st1) (lo+i)) ?_ ?_ ?_) ?_)
  ·rintro x r st2 _ hx ⟨rfl,l,g,rfl,d1,d2,d3,f1,f2⟩
   dsimp only
   by_cases hlg:l >= g
   ·rw [if_pos hlg]
    have e:g=l:=by omega
    subst e
    exact bm0 ⟨rfl,g,g,rfl,d2,f1,f2⟩
   ·rw [if_neg hlg]
    refine bl3 (oZ c o b1 hk0 (by omega) ?_)
    by_cases hc:Kr rk (arrOf st2) (lo+k) < Kr rk (arrOf st2) (lo+(l+g) / 2)
    ·rw [bk4 hc]
     refine bm0 ⟨rfl,l,(l+g) / 2,rfl,by omega,by omega,by omega,f1,fun i i1 i2=>?_⟩
     have:=u1 (lo+(l+g) / 2) (lo+i) (by omega) (by omega) (by omega)
     omega
    ·rw [bk1 hc]
     refine bm0 ⟨rfl,(l+g) / 2+1,g,rfl,by omega,d2,by omega,fun i i1=>?_,f2⟩
     have:=u1 (lo+i) (lo+(l+g) / 2) (by omega) (by omega) (by omega)
     omega
  ·rintro r st2 ⟨rfl,l,g,rfl,d1,d2,d3,f1,f2⟩
   have e:g=l:=by omega
   subst e
   exact⟨rfl,g,g,rfl,d2,f1,f2⟩
  ·exact⟨rfl,0,k,rfl,by omega,by omega,by omega,fun i hi=>absurd hi (by omega),fun i i1 i2=>absurd i1 (by omega)⟩
  ·rintro r st2 ⟨rfl,l,g,rfl,d,f1,f2⟩
   dsimp only
   rw [moveDown'_eq]
   have kb:∀ i,Kr rk (bubble (arrOf st2) (lo+k) (lo+k - (lo+l))) i=Kr rk (arrOf st2) (if i=lo+l then lo+k else if lo+l < i/\i<=lo+k then i - 1 else i):=fun i=>by
    rw [aG2 (by omega) (by omega),show lo+k - (lo+k - (lo+l))=lo+l by omega]
   refine bl3 (wpS_modify (bm0 ⟨rfl,b1.put (bubble_perm _ _ _),fun i j hi hij hj=>?_,fun i hi=>?_⟩))
   ·show Kr rk (bubble (arrOf st2) (lo+k) (lo+k - (lo+l))) i<=Kr rk (bubble (arrOf st2) (lo+k) (lo+k - (lo+l))) j
    rw [kb,kb]
    rw [show min (k+1) n=k+1 by omega] at hj
    have v1:∀ p,lo<=p->p < lo+l->Kr rk (arrOf st2) p<=Kr rk (arrOf st2) (lo+k):=fun p p1 p2=>by have:=f1 (p - lo) (by omega); rwa [show lo+(p - lo)=p by omega] at this
    have v2:∀ p,lo+l<=p->p < lo+k->Kr rk (arrOf st2) (lo+k) < Kr rk (arrOf st2) p:=fun p p1 p2=>by have:=f2 (p - lo) (by omega) (by omega); rwa [show lo+(p - lo)=p by omega] at this
    repeat' split
    all_goals first
     | (exfalso; omega)
     | exact bk7 _
     | exact v1 _ (by omega) (by omega)
     | exact Int.le_of_lt (v2 _ (by omega) (by omega))
     | exact u1 _ _ (by omega) (by omega) (by omega)
   ·show Kr rk (bubble (arrOf st2) (lo+k) (lo+k - (lo+l))) i=_
    rw [kb,if_neg (by omega),if_neg (by omega)]
    exact l1 i hi
 ·rintro r st1 ⟨rfl,b1,u1,l1⟩
  rw [show min (max (max q 1) n) n=n by omega] at u1
  exact⟨rfl,b1,u1,l1⟩
 ·refine⟨rfl,b,fun i j hi hij hj=>?_,fun _ _=>rfl⟩
  rcases bp3 j (lo+q) with z | z
  ·exact u i j hi hij z
  ·rw [show i=j by omega]; exact bk7 _
 ·rintro r st1 ⟨rfl,b1,u1,l1⟩
  exact bm0 (h st1 b1 u1 l1)
end
def kH:Bool->Keyed->Array Keyed->Nat->Nat->Nat->StateT SortSt Sem (Option Nat):=sortPriv% PySem.Builtin.gallop
def lQ (lf:Bool) (key:Keyed) (xs:Array Keyed) (bs i:Nat):StateT SortSt Sem (Option Bool):=do
 let z <- elem' xs (bs+i)
 if lf then lt' z key else return (<- lt' key z).map (!·)
theorem aG6 (lf:Bool) (key:Keyed) (xs:Array Keyed) (bs n h:Nat):kH lf key xs bs n h=(do
 let mut la:=0
 let mut of:=1
 let mut l:=0
 let mut g:=0
 let some rt <- lQ lf key xs bs h | return none
 if rt then
  let mx:=n - h
  for _ in [0:n] do
   if of >= mx then break
   let some mr <- lQ lf key xs bs (h+of) | return none
   if !mr then break
   la:=of
   of:=2 * of+1
  l:=h+la+1
  g:=h+min of mx
 else
  let mx:=h+1
  for _ in [0:n] do
   if of >= mx then break
   let some fd <- lQ lf key xs bs (h - of) | return none
   if fd then break
   la:=of
   of:=2 * of+1
  l:=h+1 - min of mx
  g:=h - la
 for _ in [0:n] do
  if l >= g then break
  let m:=l+(g - l) / 2
  let some mr <- lQ lf key xs bs m | return none
  if mr then l:=m+1 else g:=m
 return some g):=rfl
section
variable {rk : Keyed → Int} {κ : SortKind} {st : SortSt} {prog : Program} {w : World} {A : Around} {E : Value → Shared → Prop} {s : Shared} {Ok : Keyed → Prop}
def cD (rk:Keyed->Int) (lf:Bool) (key:Keyed) (xs:Array Keyed) (bs i:Nat):Bool:=if lf then decide (Kr rk xs (bs+i) < rk key) else decide (Kr rk xs (bs+i)<=rk key)
theorem rP (c:cL prog w A E s κ Ok rk) (hk:kindOf st=κ) {lf:Bool}{key:Keyed}{xs:Array Keyed}{bs i:Nat}{Q:Option Bool->SortSt->Prop} (ok:Ok key) (o:bO Ok xs) (hi:bs+i < xs.size)
  (h:Q (some (cD rk lf key xs bs i)) st):wpS (model prog w) A E s (lQ lf key xs bs i) Q st:=by
 unfold lQ
 refine bl3 (cW hi ?_)
 unfold cD at h
 rw [cG hi] at h
 cases lf with
 | true=>
  simp only [if_true] at h ⊢
  exact c _ _ (o _ (bo7 hi)) ok st Q hk h
 | false=>
  simp only [bn3,bt1] at h ⊢
  refine bl3 (c _ _ ok (o _ (bo7 hi)) st _ hk (bm0 ?_))
  have e:(!decide (rk key < rk xs[bs+i]))=decide (rk xs[bs+i]<=rk key):=by
   by_cases z:rk xs[bs+i]<=rk key
   ·rw [bk4 z,bk1 (by omega)]; rfl
   ·rw [bk1 z,bk4 (by omega)]; rfl
  show Q (some (!decide (rk key < rk xs[bs+i]))) st
  rw [e]; exact h
abbrev GS:=Option (Option Nat) × Nat × Nat
def O5 (lf:Bool) (key:Keyed) (xs:Array Keyed) (bs n l g:Nat):StateT SortSt Sem GS:=forIn [0:n] ((none,l,g):GS) fun _ r=>
 if r.2.1 >= r.2.2 then pure (ForInStep.done (none,r.2.1,r.2.2)) else do
  match <- lQ lf key xs bs (r.2.1+(r.2.2 - r.2.1) / 2) with
  | some q=>if q=true then pure (ForInStep.yield (none,r.2.1+(r.2.2 - r.2.1) / 2+1,r.2.2)) else pure (ForInStep.yield (none,r.2.1,r.2.1+(r.2.2 - r.2.1) / 2))
  | _=>pure (ForInStep.done (some none,r.2.1,r.2.2))
theorem O6 (c:cL prog w A E s κ Ok rk) (hk:kindOf st=κ) {lf:Bool}{key:Keyed}{xs:Array Keyed}{bs n l g:Nat}{Q:GS->SortSt->Prop} (ok:Ok key) (o:bO Ok xs) (hz:bs+n<=xs.size)
  (mono:∀ i j,i<=j->j < n->cD rk lf key xs bs j=true->cD rk lf key xs bs i=true) (hlg:l<=g) (hg:g<=n) (h1:∀ i,i < l->cD rk lf key xs bs i=true) (h2:∀ i,g<=i->i < n->cD rk lf key xs bs i=false)
  (hq:∀ k,k<=n->(∀ i,i < k->cD rk lf key xs bs i=true)->(∀ i,k<=i->i < n->cD rk lf key xs bs i=false)->Q (none,k,k) st):wpS (model prog w) A E s (O5 lf key xs bs n l g) Q st:=by
 unfold O5
 refine bt5 (I:=fun x r st'=>st'=st/\∃ l g,r=(none,l,g)/\l<=g/\g<=n/\g - l<=n - x/\(∀ i,i < l->cD rk lf key xs bs i=true)/\∀ i,g<=i->i < n->cD rk lf key xs bs i=false) ?_ ?_ ⟨rfl,l,g,rfl,hlg,hg,by omega,h1,h2⟩
 ·rintro x r st' _ hx ⟨rfl,l,g,rfl,d1,d2,d3,f1,f2⟩
  dsimp only
  by_cases hc:l >= g
  ·rw [if_pos hc]
   have e:g=l:=by omega
   subst e
   exact bm0 (hq g d2 f1 f2)
  ·rw [if_neg hc]
   refine bl3 (rP c hk ok o (by omega) ?_)
   cases z:cD rk lf key xs bs (l+(g - l) / 2) with
   | true=>exact bm0 ⟨rfl,_,_,rfl,by omega,d2,by omega,fun i hi=>mono i (l+(g - l) / 2) (by omega) (by omega) z,f2⟩
   | false=>
    refine bm0 ⟨rfl,_,_,rfl,by omega,by omega,by omega,f1,fun i i1 i2=>?_⟩
    cases y:cD rk lf key xs bs i with
    | false=>rfl
    | true=>rw [mono _ i i1 i2 y] at z; cases z
 ·rintro r st' ⟨rfl,l,g,rfl,d1,d2,d3,f1,f2⟩
  have e:g=l:=by omega
  subst e
  exact hq g d2 f1 f2
theorem nH (c:cL prog w A E s κ Ok rk) (hk:kindOf st=κ) {lf:Bool}{key:Keyed}{xs:Array Keyed}{bs n h:Nat}{Q:Option Nat->SortSt->Prop} (ok:Ok key) (o:bO Ok xs) (hh:h < n) (hz:bs+n<=xs.size) (u:Up rk xs bs (bs+n))
  (hq:∀ k,k<=n->(∀ i,i < k->cD rk lf key xs bs i=true)->(∀ i,k<=i->i < n->cD rk lf key xs bs i=false)->Q (some k) st):wpS (model prog w) A E s (kH lf key xs bs n h) Q st:=by
 have mono:∀ i j,i<=j->j < n->cD rk lf key xs bs j=true->cD rk lf key xs bs i=true:=fun i j hij hj e=>by
  have:=u (bs+i) (bs+j) (by omega) (by omega) (by omega)
  unfold cD at e ⊢
  cases lf with
  | true=>simp only [if_true,bm4] at e ⊢; omega
  | false=>simp only [bn3,bt1,bm4] at e ⊢; omega
 have monf:∀ i j,i<=j->j < n->cD rk lf key xs bs i=false->cD rk lf key xs bs j=false:=fun i j hij hj e=>by
  cases z:cD rk lf key xs bs j with
  | false=>rfl
  | true=>rw [mono i j hij hj z] at e; cases e
 rw [aG6]
 refine bl3 (rP c hk ok o (by omega) ?_)
 dsimp only
 cases z:cD rk lf key xs bs h with
 | true=>
  rw [if_pos rfl]
  refine bl3 (bA7 (bt5 (I:=fun x r st'=>st'=st/\∃ la of,r=(none,la,of)/\la < of/\x < of/\h+la < n/\cD rk lf key xs bs (h+la)=true)
   (Q:=fun r st'=>st'=st/\∃ la of,r=(none,la,of)/\la < of/\h+la < n/\cD rk lf key xs bs (h+la)=true/\(of < n - h->cD rk lf key xs bs (h+of)=false)) ?_ ?_ ⟨rfl,0,1,rfl,by omega,by omega,by omega,z⟩) ?_)
  ·rintro x r st' _ hx ⟨rfl,la,of,rfl,d1,d2,d3,f⟩
   dsimp only
   by_cases hc:of >= n - h
   ·rw [if_pos hc]
    exact bm0 ⟨rfl,la,of,rfl,d1,d3,f,fun y=>absurd y (by omega)⟩
   ·rw [if_neg hc]
    refine bl3 (rP c hk ok o (by omega) ?_)
    cases y:cD rk lf key xs bs (h+of) with
    | true=>exact bm0 ⟨rfl,of,2 * of+1,rfl,by omega,by omega,by omega,y⟩
    | false=>exact bm0 ⟨rfl,la,of,rfl,d1,d3,f,fun _=>y⟩
  ·rintro r st' ⟨rfl,la,of,rfl,d1,d2,d3,f⟩
   exact⟨rfl,la,of,rfl,d1,d3,f,fun y=>absurd y (by omega)⟩
  ·rintro r st' ⟨rfl,la,of,rfl,d1,d3,f,ft⟩
   dsimp only
   refine bl3 (O6 (l:=h+la+1) (g:=h+min of (n - h)) c hk ok o hz mono (by omega) (by omega) (fun i hi=>mono i (h+la) (by omega) d3 f) (fun i i1 i2=>?_) fun k k1 k2 k3=>bm0 (hq k k1 k2 k3))
   rcases bp3 of (n - h) with y | y
   ·exact monf (h+of) i (by omega) i2 (ft y)
   ·exact absurd i1 (by omega)
 | false=>
  rw [if_neg bm6]
  refine bl3 (bA7 (bt5 (I:=fun x r st'=>st'=st/\∃ la of,r=(none,la,of)/\la < of/\x < of/\la<=h/\cD rk lf key xs bs (h - la)=false)
   (Q:=fun r st'=>st'=st/\∃ la of,r=(none,la,of)/\la < of/\la<=h/\cD rk lf key xs bs (h - la)=false/\(of < h+1->cD rk lf key xs bs (h - of)=true)) ?_ ?_ ⟨rfl,0,1,rfl,by omega,by omega,by omega,z⟩) ?_)
  ·rintro x r st' _ hx ⟨rfl,la,of,rfl,d1,d2,d3,f⟩
   dsimp only
   by_cases hc:of >= h+1
   ·rw [if_pos hc]
    exact bm0 ⟨rfl,la,of,rfl,d1,d3,f,fun y=>absurd y (by omega)⟩
   ·rw [if_neg hc]
    refine bl3 (rP c hk ok o (by omega) ?_)
    cases y:cD rk lf key xs bs (h - of) with
    | false=>exact bm0 ⟨rfl,of,2 * of+1,rfl,by omega,by omega,by omega,y⟩
    | true=>exact bm0 ⟨rfl,la,of,rfl,d1,d3,f,fun _=>y⟩
  ·rintro r st' ⟨rfl,la,of,rfl,d1,d2,d3,f⟩
   exact⟨rfl,la,of,rfl,d1,d3,f,fun y=>absurd y (by omega)⟩
  ·rintro r st' ⟨rfl,la,of,rfl,d1,d3,f,ft⟩
   dsimp only
   refine bl3 (O6 (l:=h+1 - min of (h+1)) (g:=h - la) c hk ok o hz mono (by omega) (by omega) (fun i hi=>?_) (fun i i1 i2=>monf (h - la) i i1 i2 f) fun k k1 k2 k3=>bm0 (hq k k1 k2 k3))
   rcases bp3 of (h+1) with y | y
   ·exact mono i (h - of) (by omega) (by omega) (ft y)
   ·exact absurd hi (by omega)
end
def nI:Nat->StateT SortSt Sem Unit:=sortPriv% PySem.Builtin.setMinGallop
def wP:Array Keyed->Array Keyed->StateT SortSt Sem (Array Keyed):=sortPriv% PySem.Builtin.mergeLo
theorem aG7 (g:Nat):nI g=modify (fun st=>SortSt.mk' (kindOf st) (arrOf st) (pendingOf st) g (failedOf st)):=rfl
abbrev LS:=Option (Array Keyed) × Array Keyed × Nat × Nat × Nat × Nat × Nat
abbrev wQ:=Option (Array Keyed) × Array Keyed × Nat × Nat × Nat × Nat
abbrev LO:=Option (Array Keyed) × Array Keyed × Nat × Nat × Nat
def rQ (x y o:Array Keyed) (i j mg p q:Nat):StateT SortSt Sem (ForInStep LS):=do
 let v <- elem' x i
 if (i+1+1 == x.size)=true then pure (.done (some (o.push v ++ y.extract j y.size ++ x.extract (i+1) x.size),o.push v,i+1,j,mg,p,q))
 else if (decide (p < 7) && decide (q < 7))=true then pure (.done (none,o.push v,i+1,j,mg,p,q)) else pure (.yield (none,o.push v,i+1,j,mg,p,q))
def rR (x y o:Array Keyed) (i j mg p q:Nat):StateT SortSt Sem (ForInStep LS):=do
 let v <- elem' y j
 if (j+1 == y.size)=true then pure (.done (some (o.push v ++ x.extract i x.size ++ y.extract (j+1) y.size),o.push v,i,j+1,mg,p,q)) else do
  let u <- elem' x i
  match <- kH true u y (j+1) (y.size - (j+1)) 0 with
  | some k=>
   if k > 0 then
    if (j+1+k == y.size)=true then pure (.done (some (o.push v ++ y.extract (j+1) (j+1+k) ++ x.extract i x.size ++ y.extract (j+1+k) y.size),o.push v ++ y.extract (j+1) (j+1+k),i,j+1+k,mg,p,k))
    else rQ x y (o.push v ++ y.extract (j+1) (j+1+k)) i (j+1+k) mg p k
   else rQ x y (o.push v) i (j+1) mg p k
  | _=>pure (.done (some (o.push v ++ x.extract i x.size ++ y.extract (j+1) y.size),o.push v,i,j+1,mg,p,q))
def rS (x y o:Array Keyed) (i j mg p q:Nat):StateT SortSt Sem (ForInStep LS):=do
 nI mg
 let v <- elem' y j
 match <- kH false v x i (x.size - i) 0 with
 | some k=>
  if k > 0 then
   if (i+k+1 == x.size)=true then pure (.done (some (o ++ x.extract i (i+k) ++ y.extract j y.size ++ x.extract (i+k) x.size),o ++ x.extract i (i+k),i+k,j,mg,k,q))
   else if (i+k == x.size)=true then pure (.done (some (o ++ x.extract i (i+k) ++ x.extract (i+k) x.size ++ y.extract j y.size),o ++ x.extract i (i+k),i+k,j,mg,k,q))
   else rR x y (o ++ x.extract i (i+k)) (i+k) j mg k q
  else rR x y o i j mg k q
 | _=>pure (.done (some (o ++ x.extract i x.size ++ y.extract j y.size),o,i,j,mg,p,q))
def wR (x y o:Array Keyed) (i j mg p q:Nat):StateT SortSt Sem LS:=forIn [0:x.size+y.size] ((none,o,i,j,mg,p,q):LS) fun _ r=>
 if r.2.2.2.2.1 > 1 then rS x y r.2.1 r.2.2.1 r.2.2.2.1 (r.2.2.2.2.1 - 1) r.2.2.2.2.2.1 r.2.2.2.2.2.2 else rS x y r.2.1 r.2.2.1 r.2.2.2.1 r.2.2.2.2.1 r.2.2.2.2.2.1 r.2.2.2.2.2.2
def wS (x y o:Array Keyed) (i j mg:Nat):StateT SortSt Sem wQ:=forIn [0:x.size+y.size] ((none,o,i,j,0,0):wQ) fun _ r=>do
 let v <- elem' y r.2.2.2.1
 let u <- elem' x r.2.2.1
 match <- lt' v u with
 | some q=>
  if q=true then do
   let v <- elem' y r.2.2.2.1
   if (r.2.2.2.1+1 == y.size)=true then pure (.done (some (r.2.1.push v ++ x.extract r.2.2.1 x.size ++ y.extract (r.2.2.2.1+1) y.size),r.2.1.push v,r.2.2.1,r.2.2.2.1+1,0,r.2.2.2.2.2+1))
   else if r.2.2.2.2.2+1 >= mg then pure (.done (none,r.2.1.push v,r.2.2.1,r.2.2.2.1+1,0,r.2.2.2.2.2+1)) else pure (.yield (none,r.2.1.push v,r.2.2.1,r.2.2.2.1+1,0,r.2.2.2.2.2+1))
  else do
   let u <- elem' x r.2.2.1
   if (r.2.2.1+1+1 == x.size)=true then pure (.done (some (r.2.1.push u ++ y.extract r.2.2.2.1 y.size ++ x.extract (r.2.2.1+1) x.size),r.2.1.push u,r.2.2.1+1,r.2.2.2.1,r.2.2.2.2.1+1,0))
   else if r.2.2.2.2.1+1 >= mg then pure (.done (none,r.2.1.push u,r.2.2.1+1,r.2.2.2.1,r.2.2.2.2.1+1,0)) else pure (.yield (none,r.2.1.push u,r.2.2.1+1,r.2.2.2.1,r.2.2.2.2.1+1,0))
 | _=>pure (.done (some (r.2.1 ++ x.extract r.2.2.1 x.size ++ y.extract r.2.2.2.1 y.size),r.2.1,r.2.2.1,r.2.2.2.1,r.2.2.2.2.1,r.2.2.2.2.2))
def O7 (x y o:Array Keyed) (i j mg:Nat):StateT SortSt Sem LO:=forIn [0:x.size+y.size] ((none,o,i,j,mg):LO) fun _ r=>do
 let u <- wS x y r.2.1 r.2.2.1 r.2.2.2.1 r.2.2.2.2
 match u.1 with
 | some z=>pure (.done (some z,u.2.1,u.2.2.1,u.2.2.2.1,r.2.2.2.2))
 | none=>do
  liftM (rule "list.sort.gallop")
  let v <- wR x y u.2.1 u.2.2.1 u.2.2.2.1 (r.2.2.2.2+1) u.2.2.2.2.1 u.2.2.2.2.2
  match v.1 with
  | some z=>pure (.done (some z,v.2.1,v.2.2.1,v.2.2.2.1,v.2.2.2.2.1))
  | none=>do
   nI (v.2.2.2.2.1+1)
   pure (.yield (none,v.2.1,v.2.2.1,v.2.2.2.1,v.2.2.2.2.1+1))
theorem aG8 (x y:Array Keyed):wP x y=(do
 liftM (rule "list.sort.merge-lo")
 let v <- elem' y 0
 if (1 == y.size)=true then pure (#[v] ++ x.extract 0 x.size ++ y.extract 1 y.size)
 else if (0+1 == x.size)=true then pure (#[v] ++ y.extract 1 y.size ++ x.extract 0 x.size)
 else do
  let z <- get
  let r <- O7 x y #[v] 0 1 (gallopOf z)
  match r.1 with
  | some z=>pure z
  | none=>unsupported "internal:list.sort.merge-bound"):=by kernel_rfl
section
variable (rk : Keyed → Int)
def Sd (l:List Keyed):Prop:=l.Pairwise fun a b=>rk a<=rk b
structure MI (xs ys o:List Keyed) (i j:Nat):Prop where
 pm:o.Perm (xs.take i ++ ys.take j)
 sx:Sd rk (o ++ xs.drop i)
 sy:Sd rk (o ++ ys.drop j)
end
variable {rk : Keyed → Int} {xs ys o : List Keyed} {i j : Nat}
theorem Sd.ins {o a b d:List Keyed} (h1:Sd rk (o ++ a)) (h2:Sd rk (o ++ (b ++ d))) (h:∀ u ∈ b,∀ t ∈ a,rk u<=rk t):Sd rk ((o ++ b) ++ a):=by
 unfold Sd at *
 rw [bm1]
 obtain ⟨p1,p2,p3⟩:=bo0.mp h1
 obtain ⟨q1,q2,q3⟩:=bo0.mp h2
 obtain ⟨r1,r2,r3⟩:=bo0.mp q2
 refine bo0.mpr ⟨p1,bo0.mpr ⟨r1,p2,h⟩,fun u hu t ht=>?_⟩
 rcases bn5.mp ht with z | z
 ·exact q3 u hu t (bn0 _ z)
 ·exact p3 u hu t z
theorem MI.ofy (m:MI rk xs ys o i j) (k:Nat) (h:∀ u ∈ (ys.drop j).take k,∀ t ∈ xs.drop i,rk u<=rk t):MI rk xs ys (o ++ (ys.drop j).take k) i (j+k):=by
 have e:(ys.drop j).take k ++ ys.drop (j+k)=ys.drop j:=by rw [<- List.drop_drop]; exact bn6 k _
 refine⟨?_,Sd.ins m.sx (d:=ys.drop (j+k)) (by rw [e]; exact m.sy) h,by rw [bm1,e]; exact m.sy⟩
 rw [List.take_add,<- bm1]
 exact m.pm.append_right _
theorem MI.ofx (m:MI rk xs ys o i j) (k:Nat) (h:∀ u ∈ (xs.drop i).take k,∀ t ∈ ys.drop j,rk u<=rk t):MI rk xs ys (o ++ (xs.drop i).take k) (i+k) j:=by
 have e:(xs.drop i).take k ++ xs.drop (i+k)=xs.drop i:=by rw [<- List.drop_drop]; exact bn6 k _
 refine⟨?_,by rw [bm1,e]; exact m.sx,Sd.ins m.sy (d:=xs.drop (i+k)) (by rw [e]; exact m.sx) h⟩
 rw [List.take_add]
 refine (m.pm.append_right _).trans ?_
 rw [bm1,bm1]
 exact (bs0).append_left _
theorem MI.fin (m:MI rk xs ys o i j) (h:xs.length<=i ∨ ys.length<=j):(o ++ xs.drop i ++ ys.drop j).Perm (xs ++ ys)/\Sd rk (o ++ xs.drop i ++ ys.drop j):=by
 refine⟨?_,?_⟩
 ·rw [bm1]
  refine (m.pm.append_right _).trans ?_
  have e1:xs=xs.take i ++ xs.drop i:=(bn6 i xs).symm
  have e2:ys=ys.take j ++ ys.drop j:=(bn6 j ys).symm
  conv=>rhs; rw [e1,e2]
  rw [bm1,bm1]
  refine bz9 _ ?_
  rw [<- bm1,<- bm1]
  exact (bs0).append_right _
 ·rcases h with h | h
  ·rw [List.drop_eq_nil_of_le h,bo5]; exact m.sy
  ·rw [List.drop_eq_nil_of_le h,bo5]; exact m.sx
theorem MI.lst (m:MI rk xs ys o i j) (h:∀ u ∈ ys,∀ t ∈ xs.drop i,rk u<=rk t):(o ++ ys.drop j ++ xs.drop i).Perm (xs ++ ys)/\Sd rk (o ++ ys.drop j ++ xs.drop i):=by
 have m2:=m.ofy ys.length fun u hu t ht=>h u (List.mem_of_mem_drop (List.mem_of_mem_take hu)) t ht
 have e:(ys.drop j).take ys.length=ys.drop j:=br4 (by simp)
 rw [e] at m2
 have f:=m2.fin (.inr (by omega))
 rw [List.drop_eq_nil_of_le (as:=ys) (i:=j+ys.length) (by omega),bo5] at f
 exact f
theorem O8 {x:Array Keyed}{i k:Nat}{u:Keyed} (h:u ∈ (x.toList.drop i).take k):∃ t,t < k/\i+t < x.size/\rk u=Kr rk x (i+t):=by
 obtain ⟨t,ht,e⟩:=bs1 h
 have h1:t < k/\i+t < x.size:=by simp at ht; omega
 refine⟨t,h1.1,h1.2,?_⟩
 rw [cG h1.2,<- e]
 simp
theorem p9 {x:Array Keyed}{i:Nat}{u:Keyed} (h:u ∈ x.toList.drop i):∃ t,i+t < x.size/\rk u=Kr rk x (i+t):=by
 obtain ⟨t,ht,e⟩:=bs1 h
 have h1:i+t < x.size:=by simp at ht; omega
 refine⟨t,h1,?_⟩
 rw [cG h1,<- e]
 simp
theorem Sd.up {x:Array Keyed} (h:Sd rk x.toList) (lo hi:Nat) (hh:hi<=x.size):Up rk x lo hi:=fun i j _ hij hj=>by
 rw [cG (by omega:i < x.size),cG (by omega:j < x.size)]
 rcases bz6 hij with z | z
 ·subst z; exact bk7 _
 ·have:=bq8.mp h i j (by simp; omega) (by simp; omega) z
  simpa using this
theorem O9 (x:Array Keyed) (i k:Nat):(x.extract i (i+k)).toList=(x.toList.drop i).take k:=by
 simp [List.extract]
theorem rT (x:Array Keyed) (i:Nat):(x.extract i x.size).toList=x.toList.drop i:=by
 simp [List.extract]
 exact br4 (by simp)
theorem lR {x:Array Keyed}{i:Nat} (h:i < x.size) : [x[i]]=(x.toList.drop i).take 1:=by
 rw [bx5 (by simpa using h)]; simp
structure Gq (st st':SortSt):Prop where
 kd:kindOf st'=kindOf st
 ar:arrOf st'=arrOf st
 pd:pendingOf st'=pendingOf st
 ok:failedOf st'=failedOf st
theorem Gq.refl (st:SortSt):Gq st st:=⟨rfl,rfl,rfl,rfl⟩
section
variable {κ : SortKind} {st : SortSt} {prog : Program} {w : World} {A : Around} {E : Value → Shared → Prop} {s : Shared} {Ok : Keyed → Prop}
theorem rV {st0:SortSt}{g:Nat}{Q:Unit->SortSt->Prop} (q:Gq st0 st) (h:∀ st',Gq st0 st'->Q () st'):wpS (model prog w) A E s (nI g) Q st:=by
 rw [aG7]; exact wpS_modify (h _ ⟨q.kd,q.ar,q.pd,q.ok⟩)
def e8 (rk:Keyed->Int) (x y r:Array Keyed):Prop:=r.toList.Perm (x.toList ++ y.toList)/\Sd rk r.toList
theorem MI.y1 {x y o:Array Keyed} (m:MI rk x.toList y.toList o.toList i j) (hj:j < y.size) (h:∀ t,i+t < x.size->rk y[j]<=Kr rk x (i+t)):MI rk x.toList y.toList (o.push y[j]).toList i (j+1):=by
 have:=m.ofy 1 fun u hu t ht=>?_
 ·rw [<- lR hj] at this; simpa using this
 ·rw [<- lR hj,bk9] at hu
  subst hu
  obtain ⟨q,q1,q2⟩:=p9 (rk:=rk) ht
  rw [q2]; exact h q q1
theorem MI.x1 {x y o:Array Keyed} (m:MI rk x.toList y.toList o.toList i j) (hi:i < x.size) (h:∀ t,j+t < y.size->rk x[i]<=Kr rk y (j+t)):MI rk x.toList y.toList (o.push x[i]).toList (i+1) j:=by
 have:=m.ofx 1 fun u hu t ht=>?_
 ·rw [<- lR hi] at this; simpa using this
 ·rw [<- lR hi,bk9] at hu
  subst hu
  obtain ⟨q,q1,q2⟩:=p9 (rk:=rk) ht
  rw [q2]; exact h q q1
theorem MI.yk {x y o:Array Keyed} (m:MI rk x.toList y.toList o.toList i j) (k:Nat) (h:∀ p t,p < k->j+p < y.size->i+t < x.size->Kr rk y (j+p)<=Kr rk x (i+t)):MI rk x.toList y.toList (o ++ y.extract j (j+k)).toList i (j+k):=by
 have:=m.ofy k fun u hu t ht=>?_
 ·rw [<- O9] at this; rw [bs2]; exact this
 ·obtain ⟨p,p1,p2,p3⟩:=O8 (rk:=rk) hu
  obtain ⟨q,q1,q2⟩:=p9 (rk:=rk) ht
  rw [q2,p3]; exact h p q p1 p2 q1
theorem MI.xk {x y o:Array Keyed} (m:MI rk x.toList y.toList o.toList i j) (k:Nat) (h:∀ p t,p < k->i+p < x.size->j+t < y.size->Kr rk x (i+p)<=Kr rk y (j+t)):MI rk x.toList y.toList (o ++ x.extract i (i+k)).toList (i+k) j:=by
 have:=m.ofx k fun u hu t ht=>?_
 ·rw [<- O9] at this; rw [bs2]; exact this
 ·obtain ⟨p,p1,p2,p3⟩:=O8 (rk:=rk) hu
  obtain ⟨q,q1,q2⟩:=p9 (rk:=rk) ht
  rw [q2,p3]; exact h p q p1 p2 q1
theorem nJ {key:Keyed}{xs:Array Keyed}{bs i:Nat}:cD rk false key xs bs i=decide (Kr rk xs (bs+i)<=rk key):=rfl
theorem nL {key:Keyed}{xs:Array Keyed}{bs i:Nat}:cD rk true key xs bs i=decide (Kr rk xs (bs+i) < rk key):=rfl
def GI (rk:Keyed->Int) (x y:Array Keyed) (lb:Nat) (st:SortSt) (c:LS) (st':SortSt):Prop:=Gq st st'/\∃ o i j mg p q,c=(none,o,i,j,mg,p,q)/\MI rk x.toList y.toList o.toList i j/\i+1 < x.size/\j < y.size/\lb<=i+j
def GQ (rk:Keyed->Int) (x y:Array Keyed) (lb:Nat) (st:SortSt) (c:LS) (st':SortSt):Prop:=Gq st st'/\((∃ r o i j mg p q,c=(some r,o,i,j,mg,p,q)/\e8 rk x y r) ∨ ∃ o i j mg p q,c=(none,o,i,j,mg,p,q)/\MI rk x.toList y.toList o.toList i j/\i+1 < x.size/\j < y.size/\lb<=i+j)
def GR (rk:Keyed->Int) (x y:Array Keyed) (lb:Nat) (st:SortSt) (r:ForInStep LS) (st':SortSt):Prop:=match r with | .done c=>GQ rk x y lb st c st' | .yield c=>GI rk x y lb st c st'
theorem MI.done {x y o:Array Keyed} (m:MI rk x.toList y.toList o.toList i j) (hh:x.size<=i ∨ y.size<=j):e8 rk x y (o ++ x.extract i x.size ++ y.extract j y.size):=by
 unfold e8
 rw [bs2,bs2,rT,rT]
 exact m.fin (by simpa using hh)
theorem MI.last {x y o:Array Keyed} (m:MI rk x.toList y.toList o.toList i j) (x0:0 < x.size) (hl:∀ u ∈ y.toList,rk u<=rk x[x.size - 1]) (hh:i+1=x.size):e8 rk x y (o ++ y.extract j y.size ++ x.extract i x.size):=by
 unfold e8
 rw [bs2,bs2,rT,rT]
 refine m.lst fun u hu t ht=>?_
 obtain ⟨q,q1,q2⟩:=p9 (rk:=rk) ht
 have e:i+q=x.size - 1:=by omega
 rw [q2,e,cG (by omega)]
 exact hl u hu
theorem P0 {st0:SortSt}{x y o:Array Keyed}{mg p q lb:Nat} (x0:0 < x.size) (hl:∀ u ∈ y.toList,rk u<=rk x[x.size - 1]) (g:Gq st0 st) (m:MI rk x.toList y.toList o.toList i j) (hi:i+1 < x.size) (hj:j < y.size) (hb:lb<=i+j)
  (hm:∀ t,j+t < y.size->rk x[i]<=Kr rk y (j+t)):wpS (model prog w) A E s (rQ x y o i j mg p q) (GR rk x y lb st0) st:=by
 unfold rQ
 have hi':i < x.size:=by omega
 have m':=m.x1 hi' hm
 refine bl3 (cW hi' ?_)
 by_cases he:(i+1+1 == x.size)=true
 ·rw [if_pos he]
  have he:i+1+1=x.size:=by simpa using he
  exact bm0 ⟨g,.inl ⟨_,_,_,_,_,_,_,rfl,m'.last x0 hl he⟩⟩
 ·rw [if_neg he]
  have he:i+1+1 ≠ x.size:=by simpa using he
  split
  ·exact bm0 ⟨g,.inr ⟨_,_,_,_,_,_,rfl,m',by omega,hj,by omega⟩⟩
  ·exact bm0 ⟨g,_,_,_,_,_,_,rfl,m',by omega,hj,by omega⟩
theorem P3 (c:cL prog w A E s κ Ok rk) {st0:SortSt} (hk:kindOf st0=κ) {x y o:Array Keyed}{mg p q lb:Nat} (ox:bO Ok x) (oy:bO Ok y) (sx:Sd rk x.toList) (sy:Sd rk y.toList) (x0:0 < x.size) (hl:∀ u ∈ y.toList,rk u<=rk x[x.size - 1]) (g:Gq st0 st) (m:MI rk x.toList y.toList o.toList i j) (hi:i+1 < x.size) (hj:j < y.size) (hb:lb<=i+j)
  (hm:∀ t,i+t < x.size->rk y[j]<=Kr rk x (i+t)):wpS (model prog w) A E s (rR x y o i j mg p q) (GR rk x y lb st0) st:=by
 unfold rR
 have hi':i < x.size:=by omega
 have m':=m.y1 hj hm
 refine bl3 (cW hj ?_)
 by_cases he:(j+1 == y.size)=true
 ·rw [if_pos he]
  have he:j+1=y.size:=by simpa using he
  exact bm0 ⟨g,.inl ⟨_,_,_,_,_,_,_,rfl,m'.done (.inr (by omega))⟩⟩
 ·rw [if_neg he]
  have he:j+1 ≠ y.size:=by simpa using he
  refine bl3 (cW hi' (bl3 (nH c (g.kd.trans hk) (ox _ (bo7 hi')) oy (by omega) (by omega) (sy.up _ _ (by omega)) fun k k1 k2 k3=>?_)))
  dsimp only
  have ux:=sx.up 0 _ (bl1 x.size)
  have mk:=m'.yk k fun p t hp _ ht=>by
   have a1:=k2 p hp
   rw [nL,bm4] at a1
   have a2:=ux i (i+t) (by omega) (by omega) ht
   rw [cG hi'] at a2
   omega
  have km:∀ t,j+1+k+t < y.size->rk x[i]<=Kr rk y (j+1+k+t):=fun t ht=>by
   have a1:=k3 (k+t) (by omega) (by omega)
   rw [nL,bu3,<- Nat.add_assoc] at a1
   omega
  by_cases hk0:k > 0
  ·rw [if_pos hk0]
   by_cases hf:(j+1+k == y.size)=true
   ·rw [if_pos hf]
    have hf:j+1+k=y.size:=by simpa using hf
    exact bm0 ⟨g,.inl ⟨_,_,_,_,_,_,_,rfl,mk.done (.inr (by omega))⟩⟩
   ·rw [if_neg hf]
    have hf:j+1+k ≠ y.size:=by simpa using hf
    exact P0 x0 hl g mk hi (by omega) (by omega) km
  ·rw [if_neg hk0]
   have e0:k=0:=by omega
   subst e0
   exact P0 x0 hl g m' hi (by omega) (by omega) km
theorem P4 (c:cL prog w A E s κ Ok rk) {st0:SortSt} (hk:kindOf st0=κ) {x y o:Array Keyed}{mg p q lb:Nat} (ox:bO Ok x) (oy:bO Ok y) (sx:Sd rk x.toList) (sy:Sd rk y.toList) (x0:0 < x.size) (hl:∀ u ∈ y.toList,rk u<=rk x[x.size - 1]) (g:Gq st0 st) (m:MI rk x.toList y.toList o.toList i j) (hi:i+1 < x.size) (hj:j < y.size) (hb:lb<=i+j) :
  wpS (model prog w) A E s (rS x y o i j mg p q) (GR rk x y lb st0) st:=by
 unfold rS
 refine bl3 (rV g fun st4 q4=>bl3 (cW hj (bl3 (nH c (q4.kd.trans hk) (oy _ (bo7 hj)) ox (by omega) (by omega) (sx.up _ _ (by omega)) fun k k1 k2 k3=>?_))))
 dsimp only
 have uy:=sy.up 0 _ (bl1 y.size)
 have mk:=m.xk k fun p t hp _ ht=>by
  have a1:=k2 p hp
  rw [nJ,bm4] at a1
  have a2:=uy j (j+t) (by omega) (by omega) ht
  rw [cG hj] at a2
  omega
 have km:∀ t,i+k+t < x.size->rk y[j]<=Kr rk x (i+k+t):=fun t ht=>by
  have a1:=k3 (k+t) (by omega) (by omega)
  rw [nJ,bu3,<- Nat.add_assoc] at a1
  omega
 by_cases hk0:k > 0
 ·rw [if_pos hk0]
  by_cases he:(i+k+1 == x.size)=true
  ·rw [if_pos he]
   exact bm0 ⟨q4,.inl ⟨_,_,_,_,_,_,_,rfl,mk.last x0 hl (by simpa using he)⟩⟩
  ·rw [if_neg he]
   have he:i+k+1 ≠ x.size:=by simpa using he
   by_cases hf:(i+k == x.size)=true
   ·rw [if_pos hf]
    have hf:i+k=x.size:=by simpa using hf
    exact bm0 ⟨q4,.inl ⟨_,_,_,_,_,_,_,rfl,mk.done (.inl (by omega))⟩⟩
   ·rw [if_neg hf]
    have hf:i+k ≠ x.size:=by simpa using hf
    exact P3 c hk ox oy sx sy x0 hl q4 mk (by omega) hj (by omega) km
 ·rw [if_neg hk0]
  have e0:k=0:=by omega
  subst e0
  exact P3 c hk ox oy sx sy x0 hl q4 m hi hj hb km
theorem aG9 (c:cL prog w A E s κ Ok rk) {st0:SortSt} (hk:kindOf st0=κ) {x y o:Array Keyed}{mg p q lb:Nat} (ox:bO Ok x) (oy:bO Ok y) (sx:Sd rk x.toList) (sy:Sd rk y.toList) (x0:0 < x.size) (hl:∀ u ∈ y.toList,rk u<=rk x[x.size - 1]) (g:Gq st0 st) (m:MI rk x.toList y.toList o.toList i j) (hi:i+1 < x.size) (hj:j < y.size) (hb:lb<=i+j) :
  wpS (model prog w) A E s (wR x y o i j mg p q) (GQ rk x y lb st0) st:=by
 unfold wR
 refine bt5 (I:=fun _=>GI rk x y lb st0) ?_ ?_ ⟨g,o,i,j,_,p,q,rfl,m,hi,hj,hb⟩
 ·rintro t c3 st3 _ _ ⟨q3,o,i,j,mg,p,q,rfl,m,hi,hj,pr3⟩
  dsimp only
  split
  ·exact bA7 (P4 c hk ox oy sx sy x0 hl q3 m hi hj pr3) fun r _ hr=>by cases r <;> exact hr
  ·exact bA7 (P4 c hk ox oy sx sy x0 hl q3 m hi hj pr3) fun r _ hr=>by cases r <;> exact hr
 ·rintro c3 st3 ⟨q3,o,i,j,mg,p,q,rfl,m,hi,hj,pr3⟩
  exact⟨q3,.inr ⟨_,_,_,_,_,_,rfl,m,hi,hj,pr3⟩⟩
theorem aH0 (c:cL prog w A E s κ Ok rk) {st0:SortSt} (hk:kindOf st0=κ) {x y o:Array Keyed}{mg:Nat}{Q:wQ->SortSt->Prop} (ox:bO Ok x) (oy:bO Ok y) (sx:Sd rk x.toList) (sy:Sd rk y.toList) (x0:0 < x.size) (hl:∀ u ∈ y.toList,rk u<=rk x[x.size - 1]) (g:Gq st0 st) (m:MI rk x.toList y.toList o.toList i j) (hi:i+1 < x.size) (hj:j < y.size)
  (h1:∀ r o' i' j' p q st',Gq st0 st'->e8 rk x y r->Q (some r,o',i',j',p,q) st')
  (h2:∀ o' i' j' p q st',Gq st0 st'->MI rk x.toList y.toList o'.toList i' j'->i'+1 < x.size->j' < y.size->i+j+1<=i'+j'->Q (none,o',i',j',p,q) st') :
  wpS (model prog w) A E s (wS x y o i j mg) Q st:=by
 have ux:Up rk x 0 x.size:=sx.up 0 _ (bl1 _)
 have uy:Up rk y 0 y.size:=sy.up 0 _ (bl1 _)
 unfold wS
 refine bt5 (I:=fun t c st'=>Gq st0 st'/\∃ o i' j' p q,c=(none,o,i',j',p,q)/\MI rk x.toList y.toList o.toList i' j'/\i'+1 < x.size/\j' < y.size/\i+j+t<=i'+j') ?_ ?_ ⟨g,o,i,j,0,0,rfl,m,hi,hj,by omega⟩
 ·rintro t c2 st2 _ ht ⟨q2,o,i',j',p,q,rfl,m,hi,hj,pr2⟩
  dsimp only
  have hi':i' < x.size:=by omega
  refine bl3 (cW hj (bl3 (cW hi' (bl3 (c _ _ (oy _ (bo7 hj)) (ox _ (bo7 hi')) st2 _ (q2.kd.trans hk) ?_)))))
  by_cases hc:rk y[j'] < rk x[i']
  ·rw [bk4 hc]
   dsimp only
   rw [if_pos rfl]
   have m':=m.y1 hj fun t ht=>by
    have:=ux i' (i'+t) (by omega) (by omega) ht
    rw [cG hi'] at this
    omega
   refine bl3 (cW hj ?_)
   by_cases he:(j'+1 == y.size)=true
   ·rw [if_pos he]
    have he:j'+1=y.size:=by simpa using he
    exact bm0 (h1 _ _ _ _ _ _ _ q2 (m'.done (.inr (by omega))))
   ·rw [if_neg he]
    have he:j'+1 ≠ y.size:=by simpa using he
    split
    ·exact bm0 (h2 _ _ _ _ _ _ q2 m' hi (by omega) (by omega))
    ·exact bm0 ⟨q2,_,_,_,_,_,rfl,m',hi,by omega,by omega⟩
  ·rw [bk1 hc]
   dsimp only
   rw [if_neg bm6]
   have m':=m.x1 hi' fun t ht=>by
    have:=uy j' (j'+t) (by omega) (by omega) ht
    rw [cG hj] at this
    omega
   refine bl3 (cW hi' ?_)
   by_cases he:(i'+1+1 == x.size)=true
   ·rw [if_pos he]
    exact bm0 (h1 _ _ _ _ _ _ _ q2 (m'.last x0 hl (by simpa using he)))
   ·rw [if_neg he]
    have he:i'+1+1 ≠ x.size:=by simpa using he
    split
    ·exact bm0 (h2 _ _ _ _ _ _ q2 m' (by omega) hj (by omega))
    ·exact bm0 ⟨q2,_,_,_,_,_,rfl,m',by omega,hj,by omega⟩
 ·rintro c2 st2 ⟨q2,o,i',j',p,q,rfl,m,hi,hj,pr2⟩
  exact h2 _ _ _ _ _ _ q2 m hi hj (by omega)
theorem aH1 (c:cL prog w A E s κ Ok rk) (hk:kindOf st=κ) {x y:Array Keyed}{Q:Array Keyed->SortSt->Prop} (ox:bO Ok x) (oy:bO Ok y) (sx:Sd rk x.toList) (sy:Sd rk y.toList) (x0:0 < x.size) (y0:0 < y.size)
  (hf:∀ t ∈ x.toList,rk y[0]<=rk t) (hl:∀ u ∈ y.toList,rk u<=rk x[x.size - 1])
  (h:∀ r st',Gq st st'->e8 rk x y r->Q r st'):wpS (model prog w) A E s (wP x y) Q st:=by
 rw [aG8]
 refine bl3 (wpS_lift (by6 ⟨rfl,bl3 (cW y0 ?_)⟩))
 have m0:MI rk x.toList y.toList (#[y[0]]:Array Keyed).toList 0 1:=by
  have mm:MI rk x.toList y.toList [] 0 0:=⟨by simp,sx,sy⟩
  have:=mm.ofy 1 fun u hu t ht=>?_
  ·rw [<- lR y0] at this; exact this
  ·rw [<- lR y0,bk9] at hu
   subst hu
   exact hf t ht
 by_cases e1:(1 == y.size)=true
 ·rw [if_pos e1]
  have e1:1=y.size:=by simpa using e1
  exact bm0 (h _ st (Gq.refl st) (m0.done (.inr (by omega))))
 ·rw [if_neg e1]
  have e1:1 ≠ y.size:=by simpa using e1
  by_cases e2:(0+1 == x.size)=true
  ·rw [if_pos e2]
   exact bm0 (h _ st (Gq.refl st) (m0.last x0 hl (by simpa using e2)))
  ·rw [if_neg e2]
   have e2:0+1 ≠ x.size:=by simpa using e2
   refine bl3 (wpS_get ?_)
   unfold O7
   refine bl3 (bA7 (bt5
    (I:=fun n c st'=>Gq st st'/\∃ o i j mg,c=(none,o,i,j,mg)/\MI rk x.toList y.toList o.toList i j/\i+1 < x.size/\j < y.size/\n+1<=i+j)
    (Q:=fun c st'=>Gq st st'/\∃ r o i j mg,c=(some r,o,i,j,mg)/\e8 rk x y r) ?_ ?_ ⟨Gq.refl st,_,0,1,_,rfl,m0,by omega,by omega,by omega⟩) ?_)
   ·rintro n c1 st1 _ hn ⟨q1,o,i,j,mg,rfl,m,hi,hj,pr⟩
    dsimp only
    refine bl3 (aH0 c hk ox oy sx sy x0 hl q1 m hi hj (fun r o' i' j' p q st' g md=>bm0 ⟨g,r,_,_,_,_,rfl,md⟩) fun o' i' j' p q st' g m' hi' hj' pr'=>?_)
    refine bl3 (wpS_lift (by6 ⟨rfl,?_⟩))
    refine bl3 (bA7 (aG9 c hk ox oy sx sy x0 hl g m' hi' hj' pr') ?_)
    rintro c3 st3 ⟨q3,⟨r,o,i3,j3,mg,p,q,rfl,md⟩ | ⟨o,i3,j3,mg,p,q,rfl,m,hi,hj,pr3⟩⟩
    ·exact bm0 ⟨q3,r,_,_,_,_,rfl,md⟩
    ·exact bl3 (rV q3 fun st4 q4=>bm0 ⟨q4,o,i3,j3,_,rfl,m,hi,hj,by omega⟩)
   ·rintro c1 st1 ⟨q1,o,i,j,mg,rfl,m,hi,hj,pr⟩
    exact absurd pr (by omega)
   ·rintro c1 st1 ⟨q1,r,o,i,j,mg,rfl,md⟩
    exact bm0 (h r _ q1 md)
end
def wT:Array Keyed->Array Keyed->StateT SortSt Sem (Array Keyed):=sortPriv% PySem.Builtin.mergeHi
abbrev LH:=Option (Array Keyed) × Nat × Nat × Array Keyed × Nat × Nat × Nat
abbrev wU:=Option (Array Keyed) × Nat × Nat × Array Keyed × Nat × Nat
abbrev LP:=Option (Array Keyed) × Nat × Nat × Array Keyed × Nat
def rW (x y o:Array Keyed) (i j mg p q:Nat):StateT SortSt Sem (ForInStep LH):=do
 let v <- elem' x (i - 1)
 if (i - 1 == 0)=true then pure (.done (some (x.extract 0 (i - 1) ++ y.extract 0 j ++ (o.push v).reverse),i - 1,j,o.push v,mg,p,q))
 else if (decide (p < 7) && decide (q < 7))=true then pure (.done (none,i - 1,j,o.push v,mg,p,q)) else pure (.yield (none,i - 1,j,o.push v,mg,p,q))
def rX (x y o:Array Keyed) (i j mg p q:Nat):StateT SortSt Sem (ForInStep LH):=do
 let v <- elem' y (j - 1)
 if (j - 1 == 1)=true then pure (.done (some (y.extract 0 (j - 1) ++ x.extract 0 i ++ (o.push v).reverse),i,j - 1,o.push v,mg,p,q)) else do
  let u <- elem' x (i - 1)
  match <- kH true u y 0 (j - 1) (j - 1 - 1) with
  | some z=>
   if j - 1 - z > 0 then
    if (z == 1)=true then pure (.done (some (y.extract 0 z ++ x.extract 0 i ++ (o.push v ++ (y.extract z (j - 1)).reverse).reverse),i,z,o.push v ++ (y.extract z (j - 1)).reverse,mg,p,j - 1 - z))
    else if (z == 0)=true then pure (.done (some (x.extract 0 i ++ y.extract 0 z ++ (o.push v ++ (y.extract z (j - 1)).reverse).reverse),i,z,o.push v ++ (y.extract z (j - 1)).reverse,mg,p,j - 1 - z))
    else rW x y (o.push v ++ (y.extract z (j - 1)).reverse) i z mg p (j - 1 - z)
   else rW x y (o.push v) i (j - 1) mg p (j - 1 - z)
  | _=>pure (.done (some (x.extract 0 i ++ y.extract 0 (j - 1) ++ (o.push v).reverse),i,j - 1,o.push v,mg,p,q))
def rY (x y o:Array Keyed) (i j mg p q:Nat):StateT SortSt Sem (ForInStep LH):=do
 nI mg
 let v <- elem' y (j - 1)
 match <- kH false v x 0 i (i - 1) with
 | some z=>
  if i - z > 0 then
   if (z == 0)=true then pure (.done (some (x.extract 0 z ++ y.extract 0 j ++ (o ++ (x.extract z i).reverse).reverse),z,j,o ++ (x.extract z i).reverse,mg,i - z,q))
   else rX x y (o ++ (x.extract z i).reverse) z j mg (i - z) q
  else rX x y o i j mg (i - z) q
 | _=>pure (.done (some (x.extract 0 i ++ y.extract 0 j ++ o.reverse),i,j,o,mg,p,q))
def wV (x y o:Array Keyed) (i j mg p q:Nat):StateT SortSt Sem LH:=forIn [0:x.size+y.size] ((none,i,j,o,mg,p,q):LH) fun _ r=>
 if r.2.2.2.2.1 > 1 then rY x y r.2.2.2.1 r.2.1 r.2.2.1 (r.2.2.2.2.1 - 1) r.2.2.2.2.2.1 r.2.2.2.2.2.2 else rY x y r.2.2.2.1 r.2.1 r.2.2.1 r.2.2.2.2.1 r.2.2.2.2.2.1 r.2.2.2.2.2.2
def wW (x y o:Array Keyed) (i j mg:Nat):StateT SortSt Sem wU:=forIn [0:x.size+y.size] ((none,i,j,o,0,0):wU) fun _ r=>do
 let v <- elem' y (r.2.2.1 - 1)
 let u <- elem' x (r.2.1 - 1)
 match <- lt' v u with
 | some q=>
  if q=true then do
   let u <- elem' x (r.2.1 - 1)
   if (r.2.1 - 1 == 0)=true then pure (.done (some (x.extract 0 (r.2.1 - 1) ++ y.extract 0 r.2.2.1 ++ (r.2.2.2.1.push u).reverse),r.2.1 - 1,r.2.2.1,r.2.2.2.1.push u,r.2.2.2.2.1+1,0))
   else if r.2.2.2.2.1+1 >= mg then pure (.done (none,r.2.1 - 1,r.2.2.1,r.2.2.2.1.push u,r.2.2.2.2.1+1,0)) else pure (.yield (none,r.2.1 - 1,r.2.2.1,r.2.2.2.1.push u,r.2.2.2.2.1+1,0))
  else do
   let v <- elem' y (r.2.2.1 - 1)
   if (r.2.2.1 - 1 == 1)=true then pure (.done (some (y.extract 0 (r.2.2.1 - 1) ++ x.extract 0 r.2.1 ++ (r.2.2.2.1.push v).reverse),r.2.1,r.2.2.1 - 1,r.2.2.2.1.push v,0,r.2.2.2.2.2+1))
   else if r.2.2.2.2.2+1 >= mg then pure (.done (none,r.2.1,r.2.2.1 - 1,r.2.2.2.1.push v,0,r.2.2.2.2.2+1)) else pure (.yield (none,r.2.1,r.2.2.1 - 1,r.2.2.2.1.push v,0,r.2.2.2.2.2+1))
 | _=>pure (.done (some (x.extract 0 r.2.1 ++ y.extract 0 r.2.2.1 ++ r.2.2.2.1.reverse),r.2.1,r.2.2.1,r.2.2.2.1,r.2.2.2.2.1,r.2.2.2.2.2))
def P5 (x y o:Array Keyed) (i j mg:Nat):StateT SortSt Sem LP:=forIn [0:x.size+y.size] ((none,i,j,o,mg):LP) fun _ r=>do
 let u <- wW x y r.2.2.2.1 r.2.1 r.2.2.1 r.2.2.2.2
 match u.1 with
 | some z=>pure (.done (some z,u.2.1,u.2.2.1,u.2.2.2.1,r.2.2.2.2))
 | none=>do
  liftM (rule "list.sort.gallop")
  let v <- wV x y u.2.2.2.1 u.2.1 u.2.2.1 (r.2.2.2.2+1) u.2.2.2.2.1 u.2.2.2.2.2
  match v.1 with
  | some z=>pure (.done (some z,v.2.1,v.2.2.1,v.2.2.2.1,v.2.2.2.2.1))
  | none=>do
   nI (v.2.2.2.2.1+1)
   pure (.yield (none,v.2.1,v.2.2.1,v.2.2.2.1,v.2.2.2.2.1+1))
theorem aH2 (x y:Array Keyed):wT x y=(do
 liftM (rule "list.sort.merge-hi")
 let v <- elem' x (x.size - 1)
 if (x.size - 1 == 0)=true then pure (x.extract 0 (x.size - 1) ++ y.extract 0 y.size ++ (#[v]:Array Keyed).reverse)
 else if (y.size == 1)=true then pure (y.extract 0 y.size ++ x.extract 0 (x.size - 1) ++ (#[v]:Array Keyed).reverse)
 else do
  let z <- get
  let r <- P5 x y #[v] (x.size - 1) y.size (gallopOf z)
  match r.1 with
  | some z=>pure z
  | none=>unsupported "internal:list.sort.merge-bound"):=by kernel_rfl
structure MH (rk:Keyed->Int) (xs ys o:List Keyed) (i j:Nat):Prop where
 pm:o.Perm (xs.drop i ++ ys.drop j)
 sx:Sd rk (xs.take i ++ o)
 sy:Sd rk (ys.take j ++ o)
variable {rk : Keyed → Int} {xs ys o : List Keyed} {i j : Nat}
theorem Sd.insR {o a b d:List Keyed} (h1:Sd rk (a ++ o)) (h2:Sd rk ((d ++ b) ++ o)) (h:∀ t ∈ a,∀ u ∈ b,rk t<=rk u):Sd rk (a ++ (b ++ o)):=by
 unfold Sd at *
 obtain ⟨p1,p2,p3⟩:=bo0.mp h1
 obtain ⟨q1,q2,q3⟩:=bo0.mp h2
 obtain ⟨r1,r2,r3⟩:=bo0.mp q1
 refine bo0.mpr ⟨p1,bo0.mpr ⟨r2,p2,fun u hu t ht=>q3 u (bn4 _ hu) t ht⟩,fun u hu t ht=>?_⟩
 rcases bn5.mp ht with z | z
 ·exact h u hu t z
 ·exact p3 u hu t z
theorem rZ (l:List Keyed) {z j:Nat} (h:z<=j):l.take z ++ (l.take j).drop z=l.take j:=by
 have e:l.take z=(l.take j).take z:=by rw [List.take_take,Nat.min_eq_left h]
 rw [e]; exact bn6 z _
theorem wX (l:List Keyed) {z j:Nat} (h:z<=j):(l.take j).drop z ++ l.drop j=l.drop z:=by
 rw [bB5,show l.drop j=(l.drop z).drop (j - z) by rw [List.drop_drop,Nat.add_sub_cancel' h]]
 exact bn6 _ _
theorem MH.ofy (m:MH rk xs ys o i j) {z:Nat} (hz:z<=j) (h:∀ t ∈ xs.take i,∀ u ∈ (ys.take j).drop z,rk t<=rk u):MH rk xs ys ((ys.take j).drop z ++ o) i z:=by
 refine⟨?_,Sd.insR m.sx (d:=ys.take z) (by rw [rZ _ hz]; exact m.sy) h,by rw [<- bm1,rZ _ hz]; exact m.sy⟩
 rw [<- wX ys hz]
 refine (m.pm.append_left _).trans ?_
 rw [<- bm1,<- bm1]
 exact (bs0).append_right _
theorem MH.ofx (m:MH rk xs ys o i j) {z:Nat} (hz:z<=i) (h:∀ t ∈ ys.take j,∀ u ∈ (xs.take i).drop z,rk t<=rk u):MH rk xs ys ((xs.take i).drop z ++ o) z j:=by
 refine⟨?_,by rw [<- bm1,rZ _ hz]; exact m.sx,Sd.insR m.sy (d:=xs.take z) (by rw [rZ _ hz]; exact m.sx) h⟩
 rw [<- wX xs hz,bm1]
 exact m.pm.append_left _
theorem MH.fin (m:MH rk xs ys o i j) (h:i=0 ∨ j=0):(xs.take i ++ ys.take j ++ o).Perm (xs ++ ys)/\Sd rk (xs.take i ++ ys.take j ++ o):=by
 refine⟨?_,?_⟩
 ·have e1:xs=xs.take i ++ xs.drop i:=(bn6 i xs).symm
  have e2:ys=ys.take j ++ ys.drop j:=(bn6 j ys).symm
  conv=>rhs; rw [e1,e2]
  rw [bm1,bm1]
  refine bz9 _ ((m.pm.append_left _).trans ?_)
  rw [<- bm1,<- bm1]
  exact (bs0).append_right _
 ·rcases h with h | h
  ·subst h; simpa using m.sy
  ·subst h; simpa using m.sx
theorem MH.fst (m:MH rk xs ys o i j) (h:∀ t ∈ ys.take j,∀ u ∈ xs,rk t<=rk u):(ys.take j ++ xs.take i ++ o).Perm (xs ++ ys)/\Sd rk (ys.take j ++ xs.take i ++ o):=by
 have m2:=m.ofx (bu5 i) fun t ht u hu=>h t ht u (List.mem_of_mem_take (List.mem_of_mem_drop hu))
 have f:=m2.fin (.inl rfl)
 simpa using f
theorem pA {x:Array Keyed}{i:Nat}{u:Keyed} (h:u ∈ x.toList.take i):∃ t,t < i/\t < x.size/\rk u=Kr rk x t:=by
 obtain ⟨t,ht,e⟩:=bs1 h
 have h1:t < i/\t < x.size:=by simp at ht; omega
 refine⟨t,h1.1,h1.2,?_⟩
 rw [cG h1.2,<- e]
 simp
theorem pB {x:Array Keyed}{z i:Nat}{u:Keyed} (h:u ∈ (x.toList.take i).drop z):∃ t,z<=t/\t < i/\t < x.size/\rk u=Kr rk x t:=by
 obtain ⟨t,ht,e⟩:=bs1 h
 have h1:z+t < i/\z+t < x.size:=by simp at ht; omega
 refine⟨z+t,by omega,h1.1,h1.2,?_⟩
 rw [cG h1.2,<- e]
 simp
theorem lS (x:Array Keyed) (z i:Nat):(x.extract z i).toList=(x.toList.take i).drop z:=by
 rw [bB5]; simp [List.extract]
theorem sA (x:Array Keyed) (i:Nat):(x.extract 0 i).toList=x.toList.take i:=by
 simp [List.extract]
theorem pD {x:Array Keyed}{i:Nat} (h:i < x.size) : [x[i]]=(x.toList.take (i+1)).drop i:=by
 rw [bB5,lR h,show i+1 - i=1 by omega]
section
variable {κ : SortKind} {st : SortSt} {prog : Program} {w : World} {A : Around} {E : Value → Shared → Prop} {s : Shared} {Ok : Keyed → Prop}
theorem MH.y1 {x y o:Array Keyed} (m:MH rk x.toList y.toList o.toList.reverse i (j+1)) (hj:j < y.size) (h:∀ t,t < i->t < x.size->Kr rk x t<=rk y[j]):MH rk x.toList y.toList (o.push y[j]).toList.reverse i j:=by
 have:=m.ofy (Nat.le_succ j) fun t ht u hu=>?_
 ·rw [<- pD hj] at this; simpa using this
 ·rw [<- pD hj,bk9] at hu
  subst hu
  obtain ⟨q,q1,q2,q3⟩:=pA (rk:=rk) ht
  rw [q3]; exact h q q1 q2
theorem MH.x1 {x y o:Array Keyed} (m:MH rk x.toList y.toList o.toList.reverse (i+1) j) (hi:i < x.size) (h:∀ t,t < j->t < y.size->Kr rk y t<=rk x[i]):MH rk x.toList y.toList (o.push x[i]).toList.reverse i j:=by
 have:=m.ofx (Nat.le_succ i) fun t ht u hu=>?_
 ·rw [<- pD hi] at this; simpa using this
 ·rw [<- pD hi,bk9] at hu
  subst hu
  obtain ⟨q,q1,q2,q3⟩:=pA (rk:=rk) ht
  rw [q3]; exact h q q1 q2
theorem MH.yk {x y o:Array Keyed} (m:MH rk x.toList y.toList o.toList.reverse i j) {z:Nat} (hz:z<=j) (h:∀ t p,t < i->t < x.size->z<=p->p < j->p < y.size->Kr rk x t<=Kr rk y p):MH rk x.toList y.toList (o ++ (y.extract z j).reverse).toList.reverse i z:=by
 have:=m.ofy hz fun t ht u hu=>?_
 ·rw [<- lS] at this; simpa using this
 ·obtain ⟨q,q1,q2,q3⟩:=pA (rk:=rk) ht
  obtain ⟨p,p1,p2,p3,p4⟩:=pB (rk:=rk) hu
  rw [q3,p4]; exact h q p q1 q2 p1 p2 p3
theorem MH.xk {x y o:Array Keyed} (m:MH rk x.toList y.toList o.toList.reverse i j) {z:Nat} (hz:z<=i) (h:∀ t p,t < j->t < y.size->z<=p->p < i->p < x.size->Kr rk y t<=Kr rk x p):MH rk x.toList y.toList (o ++ (x.extract z i).reverse).toList.reverse z j:=by
 have:=m.ofx hz fun t ht u hu=>?_
 ·rw [<- lS] at this; simpa using this
 ·obtain ⟨q,q1,q2,q3⟩:=pA (rk:=rk) ht
  obtain ⟨p,p1,p2,p3,p4⟩:=pB (rk:=rk) hu
  rw [q3,p4]; exact h q p q1 q2 p1 p2 p3
theorem MH.done {x y o:Array Keyed} (m:MH rk x.toList y.toList o.toList.reverse i j) (hh:i=0 ∨ j=0):e8 rk x y (x.extract 0 i ++ y.extract 0 j ++ o.reverse):=by
 unfold e8
 rw [bs2,bs2,sA,sA,Array.toList_reverse]
 exact m.fin hh
theorem MH.frst {x y o:Array Keyed} (m:MH rk x.toList y.toList o.toList.reverse i j) (y0:0 < y.size) (hf:∀ t ∈ x.toList,rk y[0]<=rk t) (hh:j=1):e8 rk x y (y.extract 0 j ++ x.extract 0 i ++ o.reverse):=by
 unfold e8
 rw [bs2,bs2,sA,sA,Array.toList_reverse]
 refine m.fst fun t ht u hu=>?_
 subst hh
 obtain ⟨q,q1,q2,q3⟩:=pA (rk:=rk) ht
 have e:q=0:=by omega
 subst e
 rw [q3,cG y0]
 exact hf u hu
structure HB (rk:Keyed->Int) (x y:Array Keyed) (lb i j:Nat) (o:Array Keyed):Prop where
 m:MH rk x.toList y.toList o.toList.reverse i j
 i0:0 < i
 i1:i < x.size
 j0:1 < j
 j1:j<=y.size
 pr:i+j+lb<=x.size+y.size
def HI (rk:Keyed->Int) (x y:Array Keyed) (lb:Nat) (st:SortSt) (c:LH) (st':SortSt):Prop:=Gq st st'/\∃ i j o mg p q,c=(none,i,j,o,mg,p,q)/\HB rk x y lb i j o
def HQ (rk:Keyed->Int) (x y:Array Keyed) (lb:Nat) (st:SortSt) (c:LH) (st':SortSt):Prop:=Gq st st'/\((∃ r i j o mg p q,c=(some r,i,j,o,mg,p,q)/\e8 rk x y r) ∨ ∃ i j o mg p q,c=(none,i,j,o,mg,p,q)/\HB rk x y lb i j o)
def HR (rk:Keyed->Int) (x y:Array Keyed) (lb:Nat) (st:SortSt) (r:ForInStep LH) (st':SortSt):Prop:=match r with | .done c=>HQ rk x y lb st c st' | .yield c=>HI rk x y lb st c st'
theorem P6 {st0:SortSt}{x y o:Array Keyed}{i j mg p q lb:Nat} (g:Gq st0 st) (b:HB rk x y lb (i+1) j o) (hm:∀ (hi:i < x.size) t,t < j->t < y.size->Kr rk y t<=rk x[i]):wpS (model prog w) A E s (rW x y o (i+1) j mg p q) (HR rk x y lb st0) st:=by
 unfold rW
 obtain ⟨m,i0,i1,j0,j1,pr⟩:=b
 have hi':i < x.size:=by omega
 have m':=m.x1 hi' (hm hi')
 simp only [Nat.add_sub_cancel]
 refine bl3 (cW hi' ?_)
 by_cases he:(i == 0)=true
 ·rw [if_pos he]
  have he:i=0:=by simpa using he
  exact bm0 ⟨g,.inl ⟨_,_,_,_,_,_,_,rfl,m'.done (.inl he)⟩⟩
 ·rw [if_neg he]
  have he:i ≠ 0:=by simpa using he
  split
  ·exact bm0 ⟨g,.inr ⟨_,_,_,_,_,_,rfl,m',by omega,by omega,j0,j1,by omega⟩⟩
  ·exact bm0 ⟨g,_,_,_,_,_,_,rfl,m',by omega,by omega,j0,j1,by omega⟩
theorem P7 (c:cL prog w A E s κ Ok rk) {st0:SortSt} (hk:kindOf st0=κ) {x y o:Array Keyed}{i j mg p q lb:Nat} (ox:bO Ok x) (oy:bO Ok y) (sx:Sd rk x.toList) (sy:Sd rk y.toList) (y0:0 < y.size) (hf:∀ t ∈ x.toList,rk y[0]<=rk t) (g:Gq st0 st) (b:HB rk x y lb (i+1) (j+1) o)
  (hm:∀ (hj:j < y.size) t,t < i+1->t < x.size->Kr rk x t<=rk y[j]):wpS (model prog w) A E s (rX x y o (i+1) (j+1) mg p q) (HR rk x y lb st0) st:=by
 unfold rX
 obtain ⟨m,i0,i1,j0,j1,pr⟩:=b
 have hi':i < x.size:=by omega
 have hj:j < y.size:=by omega
 have m':=m.y1 hj (hm hj)
 simp only [Nat.add_sub_cancel]
 refine bl3 (cW hj ?_)
 by_cases he:(j == 1)=true
 ·rw [if_pos he]
  have he:j=1:=by simpa using he
  exact bm0 ⟨g,.inl ⟨_,_,_,_,_,_,_,rfl,m'.frst y0 hf he⟩⟩
 ·rw [if_neg he]
  have he:j ≠ 1:=by simpa using he
  refine bl3 (cW hi' (bl3 (nH c (g.kd.trans hk) (ox _ (bo7 hi')) oy (by omega) (by omega) (sy.up _ _ (by omega)) fun z k1 k2 k3=>?_)))
  dsimp only
  have ux:=sx.up 0 _ (bl1 x.size)
  have mk:=m'.yk k1 fun t p ht ht' hp hp' _=>by
   have a1:=k3 p hp hp'
   rw [nL,bu3,Nat.zero_add] at a1
   have a2:=ux t i (by omega) (by omega) hi'
   rw [cG (i:=i) hi'] at a2
   omega
  have km:∀ (hi:i < x.size) t,t < z->t < y.size->Kr rk y t<=rk x[i]:=fun _ t ht _=>by
   have a1:=k2 t ht
   rw [nL,bm4,Nat.zero_add] at a1
   omega
  by_cases hk0:j - z > 0
  ·rw [if_pos hk0]
   by_cases h1:(z == 1)=true
   ·rw [if_pos h1]
    have h1:z=1:=by simpa using h1
    exact bm0 ⟨g,.inl ⟨_,_,_,_,_,_,_,rfl,mk.frst y0 hf h1⟩⟩
   ·rw [if_neg h1]
    have h1:z ≠ 1:=by simpa using h1
    by_cases h0:(z == 0)=true
    ·rw [if_pos h0]
     have h0:z=0:=by simpa using h0
     exact bm0 ⟨g,.inl ⟨_,_,_,_,_,_,_,rfl,mk.done (.inr h0)⟩⟩
    ·rw [if_neg h0]
     have h0:z ≠ 0:=by simpa using h0
     exact P6 g ⟨mk,by omega,i1,by omega,by omega,by omega⟩ km
  ·rw [if_neg hk0]
   have e0:z=j:=by omega
   subst e0
   exact P6 g ⟨m',by omega,i1,by omega,by omega,by omega⟩ km
theorem P8 (c:cL prog w A E s κ Ok rk) {st0:SortSt} (hk:kindOf st0=κ) {x y o:Array Keyed}{i j mg p q lb:Nat} (ox:bO Ok x) (oy:bO Ok y) (sx:Sd rk x.toList) (sy:Sd rk y.toList) (y0:0 < y.size) (hf:∀ t ∈ x.toList,rk y[0]<=rk t) (g:Gq st0 st) (b:HB rk x y lb i (j+1) o) :
  wpS (model prog w) A E s (rY x y o i (j+1) mg p q) (HR rk x y lb st0) st:=by
 unfold rY
 obtain ⟨m,i0,i1,j0,j1,pr⟩:=b
 have hj:j < y.size:=by omega
 simp only [Nat.add_sub_cancel]
 refine bl3 (rV g fun st4 q4=>bl3 (cW hj (bl3 (nH c (q4.kd.trans hk) (oy _ (bo7 hj)) ox (by omega) (by omega) (sx.up _ _ (by omega)) fun z k1 k2 k3=>?_))))
 dsimp only
 have uy:=sy.up 0 _ (bl1 y.size)
 have mk:=m.xk k1 fun t p ht ht' hp hp' _=>by
  have a1:=k3 p hp hp'
  rw [nJ,bu3,Nat.zero_add] at a1
  have a2:=uy t j (by omega) (by omega) hj
  rw [cG (i:=j) hj] at a2
  omega
 have km:∀ (hj:j < y.size) t,t < z->t < x.size->Kr rk x t<=rk y[j]:=fun _ t ht _=>by
  have a1:=k2 t ht
  rw [nJ,bm4,Nat.zero_add] at a1
  exact a1
 by_cases hk0:i - z > 0
 ·rw [if_pos hk0]
  by_cases he:(z == 0)=true
  ·rw [if_pos he]
   exact bm0 ⟨q4,.inl ⟨_,_,_,_,_,_,_,rfl,mk.done (.inl (by simpa using he))⟩⟩
  ·rw [if_neg he]
   have he:z ≠ 0:=by simpa using he
   obtain ⟨z2,rfl⟩:∃ z2,z=z2+1:=⟨z - 1,by omega⟩
   exact P7 c hk ox oy sx sy y0 hf q4 ⟨mk,by omega,by omega,j0,j1,by omega⟩ km
 ·rw [if_neg hk0]
  have e0:z=i:=by omega
  subst e0
  obtain ⟨z2,rfl⟩:∃ z2,z=z2+1:=⟨z - 1,by omega⟩
  exact P7 c hk ox oy sx sy y0 hf q4 ⟨m,i0,i1,j0,j1,pr⟩ km
theorem aH3 (c:cL prog w A E s κ Ok rk) {st0:SortSt} (hk:kindOf st0=κ) {x y o:Array Keyed}{i j mg p q lb:Nat} (ox:bO Ok x) (oy:bO Ok y) (sx:Sd rk x.toList) (sy:Sd rk y.toList) (y0:0 < y.size) (hf:∀ t ∈ x.toList,rk y[0]<=rk t) (g:Gq st0 st) (b:HB rk x y lb i j o) :
  wpS (model prog w) A E s (wV x y o i j mg p q) (HQ rk x y lb st0) st:=by
 unfold wV
 refine bt5 (I:=fun _=>HI rk x y lb st0) ?_ ?_ ⟨g,i,j,o,_,p,q,rfl,b⟩
 ·rintro t c3 st3 _ _ ⟨q3,i,j,o,mg,p,q,rfl,b3⟩
  obtain ⟨j3,rfl⟩:∃ j3,j=j3+1:=⟨j - 1,by have:=b3.j0; omega⟩
  dsimp only
  split
  ·exact bA7 (P8 c hk ox oy sx sy y0 hf q3 b3) fun r _ hr=>by cases r <;> exact hr
  ·exact bA7 (P8 c hk ox oy sx sy y0 hf q3 b3) fun r _ hr=>by cases r <;> exact hr
 ·rintro c3 st3 ⟨q3,i,j,o,mg,p,q,rfl,b3⟩
  exact⟨q3,.inr ⟨_,_,_,_,_,_,rfl,b3⟩⟩
theorem aH4 (c:cL prog w A E s κ Ok rk) {st0:SortSt} (hk:kindOf st0=κ) {x y o:Array Keyed}{i j mg n:Nat}{Q:wU->SortSt->Prop} (ox:bO Ok x) (oy:bO Ok y) (sx:Sd rk x.toList) (sy:Sd rk y.toList) (y0:0 < y.size) (hf:∀ t ∈ x.toList,rk y[0]<=rk t) (g:Gq st0 st) (b:HB rk x y n i j o)
  (h1:∀ r i' j' o' p q st',Gq st0 st'->e8 rk x y r->Q (some r,i',j',o',p,q) st') (h2:∀ i' j' o' p q st',Gq st0 st'->HB rk x y (n+1) i' j' o'->Q (none,i',j',o',p,q) st') :
  wpS (model prog w) A E s (wW x y o i j mg) Q st:=by
 have ux:Up rk x 0 x.size:=sx.up 0 _ (bl1 _)
 have uy:Up rk y 0 y.size:=sy.up 0 _ (bl1 _)
 unfold wW
 refine bt5 (I:=fun t c st'=>Gq st0 st'/\∃ i j o p q,c=(none,i,j,o,p,q)/\HB rk x y (n+t) i j o) ?_ ?_ ⟨g,i,j,o,0,0,rfl,b⟩
 ·rintro t c2 st2 _ ht ⟨q2,i',j',o,p,q,rfl,m,i0,i1,j0,j1,pr⟩
  obtain ⟨i2,rfl⟩:∃ i2,i'=i2+1:=⟨i' - 1,by omega⟩
  obtain ⟨j2,rfl⟩:∃ j2,j'=j2+1:=⟨j' - 1,by omega⟩
  simp only [Nat.add_sub_cancel]
  have hi:i2 < x.size:=by omega
  have hj:j2 < y.size:=by omega
  refine bl3 (cW hj (bl3 (cW hi (bl3 (c _ _ (oy _ (bo7 hj)) (ox _ (bo7 hi)) st2 _ (q2.kd.trans hk) ?_)))))
  by_cases hc:rk y[j2] < rk x[i2]
  ·rw [bk4 hc]
   dsimp only
   rw [if_pos rfl]
   have m':=m.x1 hi fun t ht _=>by
    have:=uy t j2 (by omega) (by omega) hj
    rw [cG hj] at this
    omega
   refine bl3 (cW hi ?_)
   by_cases he:(i2 == 0)=true
   ·rw [if_pos he]
    exact bm0 (h1 _ _ _ _ _ _ _ q2 (m'.done (.inl (by simpa using he))))
   ·rw [if_neg he]
    have he:i2 ≠ 0:=by simpa using he
    split
    ·exact bm0 (h2 _ _ _ _ _ _ q2 ⟨m',by omega,by omega,j0,j1,by omega⟩)
    ·exact bm0 ⟨q2,_,_,_,_,_,rfl,m',by omega,by omega,j0,j1,by omega⟩
  ·rw [bk1 hc]
   dsimp only
   rw [if_neg bm6]
   have m':=m.y1 hj fun t ht _=>by
    have:=ux t i2 (by omega) (by omega) hi
    rw [cG hi] at this
    omega
   refine bl3 (cW hj ?_)
   by_cases he:(j2 == 1)=true
   ·rw [if_pos he]
    exact bm0 (h1 _ _ _ _ _ _ _ q2 (m'.frst y0 hf (by simpa using he)))
   ·rw [if_neg he]
    have he:j2 ≠ 1:=by simpa using he
    split
    ·exact bm0 (h2 _ _ _ _ _ _ q2 ⟨m',i0,i1,by omega,by omega,by omega⟩)
    ·exact bm0 ⟨q2,_,_,_,_,_,rfl,m',i0,i1,by omega,by omega,by omega⟩
 ·rintro c2 st2 ⟨q2,i',j',o,p,q,rfl,m,i0,i1,j0,j1,pr⟩
  exact h2 _ _ _ _ _ _ q2 ⟨m,i0,i1,j0,j1,by omega⟩
theorem aH5 (c:cL prog w A E s κ Ok rk) (hk:kindOf st=κ) {x y:Array Keyed}{Q:Array Keyed->SortSt->Prop} (ox:bO Ok x) (oy:bO Ok y) (sx:Sd rk x.toList) (sy:Sd rk y.toList) (x0:0 < x.size) (y0:0 < y.size)
  (hf:∀ t ∈ x.toList,rk y[0]<=rk t) (hl:∀ u ∈ y.toList,rk u<=rk x[x.size - 1])
  (h:∀ r st',Gq st st'->e8 rk x y r->Q r st'):wpS (model prog w) A E s (wT x y) Q st:=by
 rw [aH2]
 refine bl3 (wpS_lift (by6 ⟨rfl,bl3 (cW (by omega:x.size - 1 < x.size) ?_)⟩))
 have m0:MH rk x.toList y.toList (#[x[x.size - 1]]:Array Keyed).toList.reverse (x.size - 1) y.size:=by
  have mm:MH rk x.toList y.toList [] x.size y.size:=⟨by simp,by rw [br4 (by simp),bo5]; exact sx,by rw [br4 (by simp),bo5]; exact sy⟩
  have e:=pD (x:=x) (i:=x.size - 1) (by omega)
  rw [show x.size - 1+1=x.size by omega] at e
  have:=mm.ofx (Nat.sub_le x.size 1) fun t ht u hu=>?_
  ·rw [<- e] at this; simpa using this
  ·rw [<- e,bk9] at hu
   subst hu
   exact hl t (List.mem_of_mem_take ht)
 by_cases e1:(x.size - 1 == 0)=true
 ·rw [if_pos e1]
  exact bm0 (h _ st (Gq.refl st) (m0.done (.inl (by simpa using e1))))
 ·rw [if_neg e1]
  have e1:x.size - 1 ≠ 0:=by simpa using e1
  by_cases e2:(y.size == 1)=true
  ·rw [if_pos e2]
   exact bm0 (h _ st (Gq.refl st) (m0.frst y0 hf (by simpa using e2)))
  ·rw [if_neg e2]
   have e2:y.size ≠ 1:=by simpa using e2
   refine bl3 (wpS_get ?_)
   unfold P5
   refine bl3 (bA7 (bt5
    (I:=fun n c st'=>Gq st st'/\∃ i j o mg,c=(none,i,j,o,mg)/\HB rk x y (n+1) i j o)
    (Q:=fun c st'=>Gq st st'/\∃ r i j o mg,c=(some r,i,j,o,mg)/\e8 rk x y r) ?_ ?_ ⟨Gq.refl st,_,_,_,_,rfl,m0,by omega,by omega,by omega,by omega,by omega⟩) ?_)
   ·rintro n c1 st1 _ hn ⟨q1,i,j,o,mg,rfl,b⟩
    dsimp only
    refine bl3 (aH4 c hk ox oy sx sy y0 hf q1 b (fun r o' i' j' p q st' g md=>bm0 ⟨g,r,_,_,_,_,rfl,md⟩) fun i' j' o' p q st' g b'=>?_)
    refine bl3 (wpS_lift (by6 ⟨rfl,?_⟩))
    refine bl3 (bA7 (aH3 c hk ox oy sx sy y0 hf g b') ?_)
    rintro c3 st3 ⟨q3,⟨r,i3,j3,o,mg,p,q,rfl,md⟩ | ⟨i3,j3,o,mg,p,q,rfl,b3⟩⟩
    ·exact bm0 ⟨q3,r,_,_,_,_,rfl,md⟩
    ·exact bl3 (rV q3 fun st4 q4=>bm0 ⟨q4,i3,j3,o,_,rfl,b3⟩)
   ·rintro c1 st1 ⟨q1,i,j,o,mg,rfl,b⟩
    have:=b.pr
    exact absurd this (by omega)
   ·rintro c1 st1 ⟨q1,r,i,j,o,mg,rfl,md⟩
    exact bm0 (h r _ q1 md)
end
theorem aH6 (i:Nat):mergeAt' i=(do
 let z <- get
 let (some (sa,na,pw),some (sb,nb,_)):=((pendingOf z)[i]?,(pendingOf z)[i+1]?) | unsupported "internal:list.sort.pending"
 set (SortSt.mk' (kindOf z) (arrOf z) (((pendingOf z).setIfInBounds i (sa,na+nb,pw)).eraseIdxIfInBounds (i+1)) (gallopOf z) (failedOf z))
 let some k <- kH false (<- elem' (arrOf z) sb) (arrOf z) sa na 0 | return false
 let (sa,na):=(sa+k,na - k)
 if na == 0 then return true
 let some nb <- kH true (<- elem' (arrOf z) (sa+na - 1)) (arrOf z) sb nb (nb - 1) | return false
 if nb == 0 then return true
 let x:=(arrOf z).extract sa sb
 let y:=(arrOf z).extract sb (sb+nb)
 let m <- if na<=nb then wP x y else wT x y
 modify fun z=>setArr z (m.toList.zipIdx.foldl (fun a (p,j)=>a.setIfInBounds (sa+j) p) (arrOf z))
 return (failedOf (<- get)).isNone):=rfl
variable {rk : Keyed → Int}
theorem aH7 {σ:Type}{M:Model}{A:Around}{E:Value->Shared->Prop}{s:Shared}{a b:σ}{Q:PUnit->σ->Prop} (h:Q ⟨⟩ a):wpS M A E s (set a:StateT σ Sem PUnit) Q b:=by
 unfold wpS; rw [StateT.run_set]; exact bk2 ⟨rfl,h⟩
theorem P9 (o:Nat):∀ (m:List Keyed) (n:Nat) (a:Array Keyed) (t:Nat),o+n+m.length<=a.size->
  ((m.zipIdx n).foldl (fun a (p,j)=>a.setIfInBounds (o+j) p) a)[t]? = if o+n<=t/\t < o+n+m.length then m[t - (o+n)]? else a[t]?
 | [],n,a,t,_=>by
  show a[t]? = _
  rw [if_neg (fun z=>Nat.not_lt_of_ge z.1 z.2)]
 | p :: m,n,a,t,h=>by
  rw [List.zipIdx_cons,List.foldl_cons]
  have h':o+(n+1)+m.length<=(a.setIfInBounds (o+n) p).size:=by rw [Array.size_setIfInBounds]; simp at h; omega
  have ih:=P9 o m (n+1) (a.setIfInBounds (o+n) p) t h'
  refine ih.trans ?_
  have hs:o+n < a.size:=by simp at h; omega
  rw [Array.getElem?_setIfInBounds]
  by_cases e:o+n=t
  ·subst e
   rw [if_neg (by omega),if_pos rfl,if_pos hs,if_pos (by simp),Nat.sub_self]; rfl
  ·rw [if_neg e]
   by_cases c:o+n<=t/\t < o+n+(p :: m).length
   ·rw [if_pos c,if_pos (by simp at c; omega)]
    rw [show t - (o+n)=(t - (o+(n+1)))+1 by omega]; rfl
   ·rw [if_neg c,if_neg (by simp at c ⊢; omega)]
theorem Q0 {a:Array Keyed}{lo hi:Nat} (u:Up rk a lo hi) (hh:hi<=a.size):Sd rk (a.extract lo hi).toList:=by
 unfold Sd
 rw [bq8]
 intro i j hi' hj hij
 have h2:lo+j < hi:=by simp at hj; omega
 have:=u (lo+i) (lo+j) (by omega) (by omega) h2
 rw [cG (by omega:lo+i < a.size),cG (by omega:lo+j < a.size)] at this
 simpa using this
theorem Q2 {a:Array Keyed}{lo mid hi:Nat} (u:Up rk a lo mid) (v:Up rk a mid hi) (h0:lo < mid) (h1:mid < hi) (h:Kr rk a (mid - 1)<=Kr rk a mid):Up rk a lo hi:=fun i j hi' hij hj=>by
 rcases bp3 j mid with z | z
 ·exact u i j hi' hij z
 ·rcases bp3 i mid with y | y
  ·have a1:=u i (mid - 1) hi' (by omega) (by omega)
   have a2:=v mid j (bl1 _) z hj
   omega
  ·exact v i j y hij hj
theorem Q3 {a:Array Keyed}{lo hi t:Nat} (h:t < hi - lo) (hh:hi<=a.size):Kr rk (a.extract lo hi) t=Kr rk a (lo+t):=by
 refine lP ?_
 rw [Array.getElem?_extract_of_lt (by omega)]
 exact (getElem?_pos a (lo+t) (by omega)).symm
section
variable {κ : SortKind} {a0 : Array Keyed} {pd : Array (Nat × Nat × Nat)} {st : SortSt} {prog : Program} {w : World} {A : Around} {E : Value → Shared → Prop} {s : Shared} {Ok : Keyed → Prop}
theorem aH8 {a m:Array Keyed}{p x e:Nat} (hpx:p<=x) (hxe:x<=e) (he:e<=a.size) (md:e8 rk (a.extract p x) (a.extract x e) m) :
  let r:=m.toList.zipIdx.foldl (fun a (q,j)=>a.setIfInBounds (p+j) q) a
  r.Perm a/\(∀ t,(t < p ∨ e<=t)->Kr rk r t=Kr rk a t)/\(∀ t t',p<=t->t<=t'->t' < e->Kr rk r t<=Kr rk r t')/\∀ t,p<=t->t < e->∃ t',p<=t'/\t' < e/\Kr rk r t=Kr rk a t':=by
 intro r
 have ml:m.toList.length=e - p:=by
  rw [md.1.length_eq]; simp; omega
 have g:∀ t,r[t]? = if p<=t/\t < e then m[t - p]? else a[t]?:=fun t=>by
  have:=P9 p m.toList 0 a t (by omega)
  rw [show r=(m.toList.zipIdx 0).foldl (fun a (q,j)=>a.setIfInBounds (p+j) q) a from rfl,this]
  simp only [Nat.add_zero,ml,show p+(e - p)=e by omega,bu0]
 have ex:(a.extract p x).toList ++ (a.extract x e).toList=(a.toList.take e).drop p:=by
  rw [lS,lS,bB5,bB5,bB5]
  rw [show x=p+(x - p) by omega,<- List.drop_drop,show p+(x - p) - p=x - p by omega,show e - (p+(x - p))=(e - p) - (x - p) by omega]
  have:=bn6 (x - p) ((a.toList.drop p).take (e - p))
  rw [List.take_take,bB5,Nat.min_eq_left (by omega)] at this
  exact this
 have rl:r.toList=a.toList.take p ++ (m.toList ++ a.toList.drop e):=by
  apply List.ext_getElem?
  intro t
  rw [bu0,g]
  rcases bp3 t p with z | z
  ·rw [if_neg (by omega),bv6 (by simp; omega),List.getElem?_take_of_lt z,bu0]
  ·rw [bw9 (by simp; omega)]
   have lp:(a.toList.take p).length=p:=by simp; omega
   rw [lp]
   rcases bp3 t e with y | y
   ·rw [if_pos ⟨z,y⟩,bv6 (by omega),bu0]
   ·rw [if_neg (by omega),bw9 (by omega),ml,List.getElem?_drop,bu0]
    congr 1; omega
 have mp:m.toList.Perm ((a.toList.take e).drop p):=ex ▸ md.1
 refine⟨?_,fun t ht=>lP (by rw [g,if_neg (by omega)]),fun t t' h1 h2 h3=>?_,fun t h1 h2=>?_⟩
 ·refine Array.perm_iff_toList_perm.mpr ?_
  rw [rl]
  have:a.toList=a.toList.take p ++ ((a.toList.take e).drop p ++ a.toList.drop e):=by
   rw [wX _ (by omega:p<=e)]; exact (bn6 p _).symm
  conv=>rhs; rw [this]
  exact (mp.append_right _).append_left _
 ·have e1:Kr rk r t=Kr rk m (t - p):=lP (by rw [g,if_pos (by omega)])
  have e2:Kr rk r t'=Kr rk m (t' - p):=lP (by rw [g,if_pos (by omega)])
  rw [e1,e2]
  have ms:m.size=e - p:=by rw [<- ml]; simp
  exact md.2.up 0 m.size (bl1 _) (t - p) (t' - p) (by omega) (by omega) (by omega)
 ·have e1:Kr rk r t=Kr rk m (t - p):=lP (by rw [g,if_pos (by omega)])
  have ms:m.size=e - p:=by rw [<- ml]; simp
  have hm:t - p < m.size:=by omega
  have mm:m[t - p] ∈ (a.toList.take e).drop p:=mp.mem_iff.mp (by simp)
  obtain ⟨t',q1,q2,q3,q4⟩:=pB (rk:=rk) mm
  exact⟨t',q1,q2,by rw [e1,cG hm]; exact q4⟩
theorem aH9 (c:cL prog w A E s κ Ok rk) (o:bO Ok a0) (b:SB κ a0 pd st) {i sa na pw sb nb pw':Nat}{Q:Bool->SortSt->Prop} (e1:pd[i]? = some (sa,na,pw)) (e2:pd[i+1]? = some (sb,nb,pw')) (hs:sb=sa+na) (n0:0 < na) (m0:0 < nb) (hz:sb+nb<=a0.size)
  (u:Up rk (arrOf st) sa sb) (v:Up rk (arrOf st) sb (sb+nb))
  (h:∀ st',SB κ a0 ((pd.setIfInBounds i (sa,na+nb,pw)).eraseIdxIfInBounds (i+1)) st'->Up rk (arrOf st') sa (sb+nb)->(∀ t,(t < sa ∨ sb+nb<=t)->Kr rk (arrOf st') t=Kr rk (arrOf st) t)->Q true st'):wpS (model prog w) A E s (mergeAt' i) Q st:=by
 have sz:=b.sz
 rw [aH6]
 refine bl3 (wpS_get ?_)
 rw [b.pd,e1,e2]
 dsimp only
 refine bl3 (aH7 ?_)
 generalize hst:SortSt.mk' (kindOf st) (arrOf st) ((pd.setIfInBounds i (sa,na+nb,pw)).eraseIdxIfInBounds (i+1)) (gallopOf st) (failedOf st)=st1
 have b1:SB κ a0 ((pd.setIfInBounds i (sa,na+nb,pw)).eraseIdxIfInBounds (i+1)) st1:=by rw [<- hst]; exact⟨b.pm,b.kd,b.ok,rfl⟩
 have ar:arrOf st1=arrOf st:=by rw [<- hst]
 have oa:=b.all o
 have hsb:sb < (arrOf st).size:=by omega
 refine bl3 (cW hsb (bl3 (nH c b1.kd (oa _ (bo7 hsb)) oa n0 (by omega) (hs ▸ u) fun k k1 k2 k3=>?_)))
 dsimp only
 have k2':∀ t,sa<=t->t < sa+k->Kr rk (arrOf st) t<=Kr rk (arrOf st) sb:=fun t t1 t2=>by
  have:=k2 (t - sa) (by omega)
  rw [nJ,bm4,show sa+(t - sa)=t by omega] at this
  rw [cG hsb]; exact this
 have k3':∀ t,sa+k<=t->t < sb->Kr rk (arrOf st) sb < Kr rk (arrOf st) t:=fun t t1 t2=>by
  have:=k3 (t - sa) (by omega) (by omega)
  rw [nJ,bu3,show sa+(t - sa)=t by omega] at this
  rw [cG hsb]; omega
 by_cases ek:(na - k == 0)=true
 ·rw [if_pos ek]
  have ek:na - k=0:=by simpa using ek
  refine bm0 (h st1 b1 ?_ fun t _=>by rw [ar])
  rw [ar]
  exact Q2 u v (by omega) (by omega) (k2' (sb - 1) (by omega) (by omega))
 ·rw [if_neg ek]
  have ek:na - k ≠ 0:=by simpa using ek
  have el:sa+k+(na - k) - 1=sb - 1:=by omega
  rw [el]
  have hsl:sb - 1 < (arrOf st).size:=by omega
  refine bl3 (cW hsl (bl3 (nH c b1.kd (oa _ (bo7 hsl)) oa (by omega) (by omega) v fun l l1 l2 l3=>?_)))
  dsimp only
  have l2':∀ t,sb<=t->t < sb+l->Kr rk (arrOf st) t < Kr rk (arrOf st) (sb - 1):=fun t t1 t2=>by
   have:=l2 (t - sb) (by omega)
   rw [nL,bm4,show sb+(t - sb)=t by omega] at this
   rw [cG hsl]; exact this
  have l3':∀ t,sb+l<=t->t < sb+nb->Kr rk (arrOf st) (sb - 1)<=Kr rk (arrOf st) t:=fun t t1 t2=>by
   have:=l3 (t - sb) (by omega) (by omega)
   rw [nL,bu3,show sb+(t - sb)=t by omega] at this
   rw [cG hsl]; omega
  by_cases en:(l == 0)=true
  ·rw [if_pos en]
   have en:l=0:=by simpa using en
   subst en
   refine bm0 (h st1 b1 ?_ fun t _=>by rw [ar])
   rw [ar]
   exact Q2 u v (by omega) (by omega) (l3' sb (by omega) (by omega))
  ·rw [if_neg en]
   have en:l ≠ 0:=by simpa using en
   have sub:∀ p e,bO Ok ((arrOf st).extract p e):=fun p e z hz=>oa z (by
    have:z ∈ ((arrOf st).extract p e).toList:=Array.mem_toList_iff.mpr hz
    rw [lS] at this
    exact Array.mem_toList_iff.mp (List.mem_of_mem_take (List.mem_of_mem_drop this)))
   have sx:Sd rk ((arrOf st).extract (sa+k) sb).toList:=Q0 (fun i j h1 h2 h3=>u i j (by omega) h2 h3) (by omega)
   have sy:Sd rk ((arrOf st).extract sb (sb+l)).toList:=Q0 (fun i j h1 h2 h3=>v i j h1 h2 (by omega)) (by omega)
   have x0:0 < ((arrOf st).extract (sa+k) sb).size:=by simp; omega
   have y0:0 < ((arrOf st).extract sb (sb+l)).size:=by simp; omega
   have hf:∀ t ∈ ((arrOf st).extract (sa+k) sb).toList,rk ((arrOf st).extract sb (sb+l))[0]<=rk t:=fun t ht=>by
    rw [lS] at ht
    obtain ⟨t',q1,q2,q3,q4⟩:=pB (rk:=rk) ht
    rw [q4,<- cG (rk:=rk) y0,Q3 (by omega) (by omega)]
    exact Int.le_of_lt (k3' t' q1 q2)
   have hl:∀ t ∈ ((arrOf st).extract sb (sb+l)).toList,rk t<=rk ((arrOf st).extract (sa+k) sb)[((arrOf st).extract (sa+k) sb).size - 1]:=fun t ht=>by
    rw [lS] at ht
    obtain ⟨t',q1,q2,q3,q4⟩:=pB (rk:=rk) ht
    have e:((arrOf st).extract (sa+k) sb).size=sb - (sa+k):=by simp; omega
    rw [q4,<- cG (rk:=rk) (by omega),Q3 (by omega) (by omega),e,show sa+k+(sb - (sa+k) - 1)=sb - 1 by omega]
    exact Int.le_of_lt (l2' t' q1 q2)
   have fin:∀ (m:Array Keyed) (st2:SortSt),Gq st1 st2->e8 rk ((arrOf st).extract (sa+k) sb) ((arrOf st).extract sb (sb+l)) m->
     wpS (model prog w) A E s (do modify (fun z=>setArr z (m.toList.zipIdx.foldl (fun a (p,j)=>a.setIfInBounds (sa+k+j) p) (arrOf z))); return (failedOf (<- get)).isNone) Q st2:=fun m st2 g md=>by
    have b2:SB κ a0 ((pd.setIfInBounds i (sa,na+nb,pw)).eraseIdxIfInBounds (i+1)) st2:=⟨by rw [g.ar]; exact b1.pm,g.kd.trans b1.kd,g.ok.trans b1.ok,g.pd.trans b1.pd⟩
    have a2:arrOf st2=arrOf st:=g.ar.trans ar
    obtain ⟨r1,r2,r3,r4⟩:=aH8 (by omega) (by omega) (by omega) md
    generalize hr:m.toList.zipIdx.foldl (fun a (q,j)=>a.setIfInBounds (sa+k+j) q) (arrOf st)=r at r1 r2 r3 r4
    refine bl3 (wpS_modify (bl3 (wpS_get (bm0 ?_))))
    have b3:=b2.put (xs:=m.toList.zipIdx.foldl (fun a (q,j)=>a.setIfInBounds (sa+k+j) q) (arrOf st2)) (by rw [a2,hr]; exact r1)
    have er:arrOf (setArr st2 (m.toList.zipIdx.foldl (fun a (q,j)=>a.setIfInBounds (sa+k+j) q) (arrOf st2)))=r:=by rw [<- hr,a2]
    have tr:(failedOf (setArr st2 (m.toList.zipIdx.foldl (fun a (q,j)=>a.setIfInBounds (sa+k+j) q) (arrOf st2)))).isNone=true:=by rw [b3.ok]; rfl
    rw [tr]
    refine h _ b3 (fun i j hi hij hj=>?_) fun t ht=>?_
    ·rw [er]
     have bl:∀ t,sa<=t->t < sa+k->∀ t',sa+k<=t'->t' < sb+l->Kr rk (arrOf st) t<=Kr rk (arrOf st) t':=fun t t1 t2 t' t3 t4=>by
      rcases bp3 t' sb with z | z
      ·exact u t t' t1 (by omega) z
      ·have a1:=k2' t t1 t2
       have a2:=v sb t' (bl1 _) z (by omega)
       omega
     have br:∀ t,sb+l<=t->t < sb+nb->∀ t',sa+k<=t'->t' < sb+l->Kr rk (arrOf st) t'<=Kr rk (arrOf st) t:=fun t t1 t2 t' t3 t4=>by
      rcases bp3 t' sb with z | z
      ·have a1:=u t' (sb - 1) (by omega) (by omega) (by omega)
       have a2:=l3' t t1 t2
       omega
      ·exact v t' t z (by omega) t2
     have blr:∀ t,sa<=t->t < sa+k->∀ t',sb+l<=t'->t' < sb+nb->Kr rk (arrOf st) t<=Kr rk (arrOf st) t':=fun t t1 t2 t' t3 t4=>by
      have a1:=bl t t1 t2 (sb - 1) (by omega) (by omega)
      have a2:=l3' t' t3 t4
      omega
     rcases bp3 i (sa+k) with z | z
     ·rw [r2 i (.inl z)]
      rcases bp3 j (sa+k) with y | y
      ·rw [r2 j (.inl y)]; exact u i j hi hij (by omega)
      ·rcases bp3 j (sb+l) with x | x
       ·obtain ⟨t',q1,q2,q3⟩:=r4 j y x
        rw [q3]; exact bl i hi z t' q1 q2
       ·rw [r2 j (.inr x)]; exact blr i hi z j x hj
     ·rcases bp3 j (sb+l) with x | x
      ·exact r3 i j z hij x
      ·rw [r2 j (.inr x)]
       rcases bp3 i (sb+l) with y | y
       ·obtain ⟨t',q1,q2,q3⟩:=r4 i z y
        rw [q3]; exact br j x hj t' q1 q2
       ·rw [r2 i (.inr y)]; exact v i j (by omega) hij hj
    ·rw [er]; exact r2 t (by omega)
   by_cases hle:na - k<=l
   ·rw [if_pos hle]
    exact bl3 (aH1 c b1.kd (sub _ _) (sub _ _) sx sy x0 y0 hf hl fun m st2 g md=>fin m st2 g md)
   ·rw [if_neg hle]
    exact bl3 (aH5 c b1.kd (sub _ _) (sub _ _) sx sy x0 y0 hf hl fun m st2 g md=>fin m st2 g md)
end
def Ch:Nat->List (Nat × Nat)->Nat->Prop
 | a,[],b=>a=b
 | a,(p,n) :: r,b=>p=a/\0 < n/\Ch (a+n) r b
theorem Ch.split:∀ {l l':List (Nat × Nat)}{a b:Nat},Ch a (l ++ l') b->∃ m,Ch a l m/\Ch m l' b
 | [],_,a,_,h=>⟨a,rfl,h⟩
 | (p,n) :: l,l',a,b,h=>by
  obtain ⟨h1,h2,h3⟩:=h
  obtain ⟨m,q1,q2⟩:=Ch.split h3
  exact⟨m,⟨h1,h2,q1⟩,q2⟩
theorem Ch.join:∀ {l l':List (Nat × Nat)}{a m b:Nat},Ch a l m->Ch m l' b->Ch a (l ++ l') b
 | [],_,a,m,_,h,h'=>by cases (show a=m from h); exact h'
 | (p,n) :: l,l',a,m,b,h,h'=>⟨h.1,h.2.1,Ch.join h.2.2 h'⟩
theorem Ch.len:∀ {l:List (Nat × Nat)}{a b:Nat},Ch a l b->a+l.length<=b
 | [],a,b,h=>by cases (show a=b from h); simp
 | (p,n) :: l,a,b,h=>by
  have:=Ch.len h.2.2
  have:=h.2.1
  simp; omega
theorem Ch.mem:∀ {l:List (Nat × Nat)}{a b:Nat}{r:Nat × Nat},Ch a l b->r ∈ l->a<=r.1/\r.1+r.2<=b/\0 < r.2
 | (p,n) :: l,a,b,r,h,hr=>by
  obtain ⟨h1,h2,h3⟩:=h
  have hb:=Ch.len h3
  rcases bk6.mp hr with e | e
  ·subst e
   have h1:p=a:=h1
   refine⟨?_,?_,h2⟩
   ·show a<=p; omega
   ·show p+n<=b; omega
  ·have:=Ch.mem h3 e
   exact⟨by omega,this.2.1,this.2.2⟩
def sk (pd:Array (Nat × Nat × Nat)):List (Nat × Nat):=pd.toList.map fun r=>(r.1,r.2.1)
theorem sB (pd:Array (Nat × Nat × Nat)):(sk pd).length=pd.size:=by simp [sk]
structure Rn (rk:Keyed->Int) (a:Array Keyed) (l:List (Nat × Nat)) (lo:Nat):Prop where
 ch:Ch 0 l lo
 up:∀ r ∈ l,Up rk a r.1 (r.1+r.2)
variable {rk : Keyed → Int} {κ : SortKind} {a0 : Array Keyed} {pd : Array (Nat × Nat × Nat)} {st : SortSt} {prog : Program} {w : World} {A : Around} {E : Value → Shared → Prop} {s : Shared} {Ok : Keyed → Prop}
theorem Rn.same {a b:Array Keyed}{l:List (Nat × Nat)}{lo:Nat} (h:Rn rk a l lo) (e:∀ t,t < lo->Kr rk b t=Kr rk a t):Rn rk b l lo:=⟨h.ch,fun r hr i j hi hij hj=>by
 have:=(h.ch.mem hr).2.1
 rw [e i (by omega),e j (by omega)]
 exact h.up r hr i j hi hij hj⟩
theorem Q4 (c:cL prog w A E s κ Ok rk) (o:bO Ok a0) (b:SB κ a0 pd st) {i lo:Nat}{Q:Bool->SortSt->Prop} (hi:i+1 < pd.size) (hz:lo<=a0.size) (rn:Rn rk (arrOf st) (sk pd) lo)
  (h:∀ pd' st',SB κ a0 pd' st'->pd'.size+1=pd.size->Rn rk (arrOf st') (sk pd') lo->(∀ t,lo<=t->Kr rk (arrOf st') t=Kr rk (arrOf st) t)->Q true st'):wpS (model prog w) A E s (mergeAt' i) Q st:=by
 obtain ⟨⟨sa,na,pw⟩,e1⟩:∃ r,pd[i]? = some r:=⟨pd[i],getElem?_pos pd i (by omega)⟩
 obtain ⟨⟨sb,nb,pw'⟩,e2⟩:∃ r,pd[i+1]? = some r:=⟨pd[i+1],getElem?_pos pd (i+1) hi⟩
 have d1:pd.toList=pd.toList.take i ++ (sa,na,pw) :: (sb,nb,pw') :: pd.toList.drop (i+2):=by
  have hl:i < pd.toList.length:=by simp; omega
  have hl2:i+1 < pd.toList.length:=by simpa using hi
  have g1:pd.toList[i]=(sa,na,pw):=by rw [getElem?_pos pd i (by omega)] at e1; simpa using e1
  have g2:pd.toList[i+1]=(sb,nb,pw'):=by rw [getElem?_pos pd (i+1) hi] at e2; simpa using e2
  have:=bn6 i pd.toList
  rw [bx5 hl,bx5 hl2,g1,g2] at this
  exact this.symm
 have li:(pd.toList.take i).length=i:=by simp; omega
 have d2:((pd.setIfInBounds i (sa,na+nb,pw)).eraseIdxIfInBounds (i+1)).toList=pd.toList.take i ++ (sa,na+nb,pw) :: pd.toList.drop (i+2):=by
  have e:((pd.setIfInBounds i (sa,na+nb,pw)).eraseIdxIfInBounds (i+1)).toList=(pd.toList.set i (sa,na+nb,pw)).eraseIdx (i+1):=by
   unfold Array.eraseIdxIfInBounds
   rw [dif_pos (by rw [Array.size_setIfInBounds]; exact hi),Array.toList_eraseIdx,Array.toList_setIfInBounds]
  rw [e]
  conv=>lhs; rw [d1]
  rw [List.set_append_right _ _ (by omega),li,Nat.sub_self,List.set_cons_zero,List.eraseIdx_append_of_length_le (by omega),li,show i+1 - i=1 by omega]
  rfl
 have k1:sk pd=(pd.toList.take i).map (fun r=>(r.1,r.2.1)) ++ (sa,na) :: (sb,nb) :: (pd.toList.drop (i+2)).map (fun r=>(r.1,r.2.1)):=by
  unfold sk; conv=>lhs; rw [d1]
  simp
 have k2:sk ((pd.setIfInBounds i (sa,na+nb,pw)).eraseIdxIfInBounds (i+1))=(pd.toList.take i).map (fun r=>(r.1,r.2.1)) ++ (sa,na+nb) :: (pd.toList.drop (i+2)).map (fun r=>(r.1,r.2.1)):=by
  unfold sk; rw [d2]
  simp
 have ch:=rn.ch
 rw [k1] at ch
 obtain ⟨m,c1,c2⟩:=ch.split
 obtain ⟨f1,f2,f3,f4,f5⟩:=c2
 have f1:sa=m:=f1
 have f3:sb=m+na:=f3
 have up:=rn.up
 rw [k1] at up
 have lo2:=f5.len
 refine aH9 c o b e1 e2 (by omega) f2 f4 (by omega) (by have:=up (sa,na) (by simp); rw [f3,<- f1]; exact this) (up (sb,nb) (by simp)) fun st' b' u' fr=>h _ st' b' ?_ ⟨?_,?_⟩ fun t ht=>fr t (by omega)
 ·rw [<- sB,<- sB,k1,k2]; simp; omega
 ·rw [k2]
  refine c1.join ⟨f1,by omega,?_⟩
  rw [<- Nat.add_assoc]; exact f5
 ·intro r hr
  rw [k2] at hr
  rcases bn5.mp hr with z | z
  ·intro p q h1 h2 h3
   have:=(c1.mem z).2.1
   rw [fr p (by omega),fr q (by omega)]
   exact up r (bn0 _ z) p q h1 h2 h3
  ·rcases bk6.mp z with z | z
   ·subst z
    show Up rk (arrOf st') sa (sa+(na+nb))
    rw [show sa+(na+nb)=sb+nb by omega]; exact u'
   ·intro p q h1 h2 h3
    have:=(f5.mem z).1
    rw [fr p (by omega),fr q (by omega)]
    exact up r (bn4 _ (bl2 _ (bl2 _ z))) p q h1 h2 h3
abbrev RS:=Option Unit × Nat
def Q5 (sz pw:Nat):StateT SortSt Sem (Option Unit × Unit):=forIn [0:sz] ((none,()):Option Unit × Unit) fun _ _=>do
 let z <- get
 match (if (pendingOf z).size > 1 then (pendingOf z)[(pendingOf z).size - 2]? else none) with
 | some (_,_,o)=>if o<=pw then pure (.done (none,())) else do
   let q <- mergeAt' ((pendingOf z).size - 2)
   if (!q)=true then pure (.done (some (),())) else pure (.yield (none,()))
 | _=>pure (.done (none,()))
def jn (sz lo n:Nat):StateT SortSt Sem (ForInStep RS):=do
 let z <- get
 match (pendingOf z).back? with
 | some (s1,n1,_)=>do
  let r <- Q5 sz (power' sz (2 * s1+n1) (2 * s1+n1+n1+n) sz)
  match r.1 with
  | some u=>pure (.done (some u,lo))
  | none=>do
   modify fun s=>setPending s ((pendingOf s).modify ((pendingOf s).size - 1) fun x=>(x.1,x.2.1,power' sz (2 * s1+n1) (2 * s1+n1+n1+n) sz))
   modify fun s=>setPending s ((pendingOf s).push (lo,n,0))
   pure (.yield (none,lo+n))
 | _=>do
  modify fun s=>setPending s ((pendingOf s).push (lo,n,0))
  pure (.yield (none,lo+n))
def Q6 (sz mr lo:Nat):StateT SortSt Sem (ForInStep RS):=if lo >= sz then pure (.done (none,lo)) else do
 match <- countRun' lo (sz - lo) with
 | some n=>
  if n < mr then
   liftM (rule "list.sort.binary-insertion")
   let q <- binarySort' lo (min (sz - lo) mr) n
   if (!q)=true then pure (.done (some (),lo)) else jn sz lo (min (sz - lo) mr)
  else jn sz lo n
 | _=>pure (.done (some (),lo))
def Q7 (sz:Nat):StateT SortSt Sem (Option Unit × Unit):=forIn [0:sz] ((none,()):Option Unit × Unit) fun _ _=>do
 let z <- get
 if (pendingOf z).size<=1 then pure (.done (none,())) else do
  let q <- mergeAt' (if ((if (pendingOf z).size - 2 > 0 then (pendingOf z)[(pendingOf z).size - 2 - 1]?.map (·.2.1) else none).any (· < ((pendingOf z)[(pendingOf z).size - 2+1]?.elim 0 (·.2.1))))=true then (pendingOf z).size - 2 - 1 else (pendingOf z).size - 2)
  if (!q)=true then pure (.done (some (),())) else pure (.yield (none,()))
theorem aI0:sortRuns'=(do
 let z <- get
 let r <- (forIn [0:(arrOf z).size] ((none,0):RS) fun _ r=>Q6 (arrOf z).size (minRun' (arrOf z).size (arrOf z).size 0) r.2)
 match r.1 with
 | some u=>pure u
 | none=>do
  let q <- Q7 (arrOf z).size
  match q.1 with
  | some u=>pure u
  | none=>pure ()):=by kernel_rfl
theorem Q8 {lo nn:Nat} (n1:0 < nn) {pd:Array (Nat × Nat × Nat)}{a:Array Keyed} (r:Rn rk a (sk pd) lo) (u:Up rk a lo (lo+nn)):Rn rk a (sk (pd.push (lo,nn,0))) (lo+nn):=by
 have e:sk (pd.push (lo,nn,0))=sk pd ++ [(lo,nn)]:=by simp [sk]
 refine⟨by rw [e]; exact r.ch.join ⟨rfl,n1,rfl⟩,fun q hq=>?_⟩
 rw [e] at hq
 rcases bn5.mp hq with z | z
 ·exact r.up q z
 ·rw [bk9] at z
  subst z
  exact u
theorem Q9 (c:cL prog w A E s κ Ok rk) (o:bO Ok a0) (b:SB κ a0 pd st) {lo n:Nat}{Q:ForInStep RS->SortSt->Prop} (n1:1<=n) (n2:lo+n<=a0.size) (rn:Rn rk (arrOf st) (sk pd) lo) (u:Up rk (arrOf st) lo (lo+n))
  (h:∀ pd' st',SB κ a0 pd' st'->Rn rk (arrOf st') (sk pd') (lo+n)->Q (.yield (none,lo+n)) st'):wpS (model prog w) A E s (jn a0.size lo n) Q st:=by
 unfold jn
 refine bl3 (wpS_get ?_)
 rw [b.pd]
 cases hb:pd.back? with
 | none=>exact bl3 (wpS_modify (bm0 (h (pd.push (lo,n,0)) _ ⟨b.pm,b.kd,b.ok,by show (pendingOf st).push _=_; rw [b.pd]⟩ (Q8 n1 rn u))))
 | some q=>
  obtain ⟨s1,m1,q3⟩:=q
  dsimp only
  generalize power' a0.size (2 * s1+m1) (2 * s1+m1+m1+n) a0.size=pw
  unfold Q5
  refine bl3 (bA7 (bt5
   (I:=fun _ r st'=>r=(none,())/\∃ pd,SB κ a0 pd st'/\Rn rk (arrOf st') (sk pd) lo/\Up rk (arrOf st') lo (lo+n))
   (Q:=fun r st'=>r=(none,())/\∃ pd,SB κ a0 pd st'/\Rn rk (arrOf st') (sk pd) lo/\Up rk (arrOf st') lo (lo+n)) ?_ (fun _ _ z=>z) ⟨rfl,pd,b,rn,u⟩) ?_)
  ·rintro t r st4 _ ht ⟨rfl,pd4,b4,r4,u4⟩
   refine bl3 (wpS_get ?_)
   rw [b4.pd]
   cases ho:(if pd4.size > 1 then pd4[pd4.size - 2]? else none) with
   | none=>exact bm0 ⟨rfl,pd4,b4,r4,u4⟩
   | some z=>
    obtain ⟨z1,z2,z3⟩:=z
    have h1:pd4.size > 1:=by
     by_cases y:pd4.size > 1
     ·exact y
     ·rw [if_neg y] at ho; cases ho
    dsimp only
    by_cases hp:z3<=pw
    ·rw [if_pos hp]
     exact bm0 ⟨rfl,pd4,b4,r4,u4⟩
    ·rw [if_neg hp]
     refine bl3 (Q4 c o b4 (by omega) (by omega) r4 fun pd5 st5 b5 _ r5 f5=>?_)
     exact bm0 ⟨rfl,pd5,b5,r5,fun i j hi hij hj=>by rw [f5 i hi,f5 j (by omega)]; exact u4 i j hi hij hj⟩
  ·rintro r st4 ⟨rfl,pd4,b4,r4,u4⟩
   refine bl3 (wpS_modify (bl3 (wpS_modify (bm0 ?_))))
   have e:sk (pd4.modify (pd4.size - 1) fun x=>(x.1,x.2.1,pw))=sk pd4:=by
    unfold sk
    rw [Array.toList_modify]
    apply List.ext_getElem?
    intro t
    rw [bl9,bl9,List.getElem?_modify]
    cases pd4.toList[t]? with
    | none=>simp
    | some v=>by_cases y:pd4.size - 1=t <;> simp [y]
   refine h ((pd4.modify (pd4.size - 1) fun x=>(x.1,x.2.1,pw)).push (lo,n,0)) _ ⟨b4.pm,b4.kd,b4.ok,?_⟩ (Q8 n1 (by rw [e]; exact r4) u4)
   show ((pendingOf st4).modify ((pendingOf st4).size - 1) fun x=>(x.1,x.2.1,pw)).push _=_
   rw [b4.pd]
theorem aI1 (c:cL prog w A E s κ Ok rk) (o:bO Ok a0) (b:SB κ a0 #[] st) {Q:Unit->SortSt->Prop} (h2:1<=a0.size)
  (h:∀ st',(arrOf st').Perm a0->failedOf st'=none->Up rk (arrOf st') 0 a0.size->Q () st'):wpS (model prog w) A E s sortRuns' Q st:=by
 rw [aI0]
 refine bl3 (wpS_get ?_)
 rw [b.sz]
 generalize minRun' a0.size a0.size 0=mr
 refine bl3 (bA7 (bt5
  (I:=fun x r st'=>∃ lo pd,r=(none,lo)/\x<=lo/\lo<=a0.size/\SB κ a0 pd st'/\Rn rk (arrOf st') (sk pd) lo)
  (Q:=fun r st'=>∃ pd,r=(none,a0.size)/\SB κ a0 pd st'/\Rn rk (arrOf st') (sk pd) a0.size) ?_ ?_ ⟨0,#[],rfl,bl1 _,bu5 _,b,⟨rfl,fun r hr=>absurd hr (by simp [sk])⟩⟩) ?_)
 ·rintro x r st1 _ hx ⟨lo,pd,rfl,xl,lz,b1,rn⟩
  unfold Q6
  dsimp only
  by_cases hd:lo >= a0.size
  ·rw [if_pos hd]
   have e:lo=a0.size:=by omega
   subst e
   exact bm0 ⟨pd,rfl,b1,rn⟩
  ·rw [if_neg hd]
   refine bl3 (aG4 c o b1 (by omega) (by omega) fun n st2 b2 n1 n2 u2 l2=>?_)
   have rn2:=rn.same l2
   dsimp only
   by_cases hmr:n < mr
   ·rw [if_pos hmr]
    refine bl3 (wpS_lift (by6 ⟨rfl,?_⟩))
    refine bl3 (aG5 c o b2 (by omega) (by omega) u2 fun st3 b3 u3 l3=>?_)
    rw [if_neg (by decide)]
    exact Q9 c o b3 (by omega) (by omega) (rn2.same l3) u3 fun pd' st' b' r'=>⟨_,pd',rfl,by omega,by omega,b',r'⟩
   ·rw [if_neg hmr]
    exact Q9 c o b2 n1 (by omega) rn2 u2 fun pd' st' b' r'=>⟨lo+n,pd',rfl,by omega,by omega,b',r'⟩
 ·rintro r st1 ⟨lo,pd,rfl,xl,lz,b1,rn⟩
  have e:lo=a0.size:=by omega
  subst e
  exact⟨pd,rfl,b1,rn⟩
 ·rintro r st1 ⟨pd,rfl,b1,rn⟩
  dsimp only
  unfold Q7
  refine bl3 (bA7 (bt5
   (I:=fun t r st'=>r=(none,())/\∃ pd,SB κ a0 pd st'/\Rn rk (arrOf st') (sk pd) a0.size/\(pd.size+t<=a0.size ∨ pd.size<=1))
   (Q:=fun r st'=>r=(none,())/\∃ pd,SB κ a0 pd st'/\Rn rk (arrOf st') (sk pd) a0.size/\pd.size<=1) ?_ ?_ ⟨rfl,pd,b1,rn,.inl (by have:=rn.ch.len; rw [sB] at this; omega)⟩) ?_)
  ·rintro t r st2 _ ht ⟨rfl,pd,b2,rn2,pr⟩
   refine bl3 (wpS_get ?_)
   rw [b2.pd]
   by_cases h1:pd.size<=1
   ·rw [if_pos h1]
    exact bm0 ⟨rfl,pd,b2,rn2,h1⟩
   ·rw [if_neg h1]
    refine bl3 (Q4 c o b2 ?_ (bl1 _) rn2 fun pd' st3 b3 sz3 rn3 _=>?_)
    ·split <;> split <;> omega
    ·exact bm0 ⟨rfl,pd',b3,rn3,by omega⟩
  ·rintro r st2 ⟨rfl,pd,b2,rn2,pr⟩
   exact⟨rfl,pd,b2,rn2,by omega⟩
  ·rintro r st2 ⟨rfl,pd,b2,rn2,pr⟩
   refine bm0 (h st2 b2.pm b2.ok ?_)
   have ch:=rn2.ch
   have up:=rn2.up
   rw [<- sB] at pr
   cases e:sk pd with
   | nil=>rw [e] at ch; exact absurd (show 0=a0.size from ch) (by omega)
   | cons r l=>
    rw [e] at ch up pr
    have el:l = []:=List.eq_nil_of_length_eq_zero (by have:=pr; rw [bp1] at this; omega)
    subst el
    obtain ⟨p,n⟩:=r
    obtain ⟨q1,q2,q3⟩:=ch
    have q1:p=0:=q1
    have q3:0+n=a0.size:=q3
    subst q1
    have:=up (0,n) (by simp)
    rw [<- q3]; exact this
end SO
namespace L2
open PySem PySem.Spec PyProof.Rows SO
abbrev dL (h:Heap) (a:Addr) (vs:List Value):Heap:=((h.update a (Obj.mapSeq fun _=>#[])).push (seqObj "tuple" vs.toArray 0)).push (seqObj "list" #[] 0)
abbrev gC (h:Heap) (vs:List Value):Heap:=((h.push (seqObj "list" #[] 0)).update h.objs.size (Obj.mapSeq (· ++ vs.toArray))).push (seqObj "list" vs.toArray 0)
theorem aI2 {h:Heap}{vs:List Value}{b:Addr}{o:Obj} (e:h.get? b=some o):(gC h vs).get? b=some o:=by
 have l:=bl5 e
 refine bk0 _ ?_
 rw [Heap.get?_update_ne _ _ _ _ (bn9 l)]
 exact bk0 _ e
theorem R0 {h:Heap}{vs:List Value}{a b:Addr}{o:Obj} (hb:b ≠ a) (e:h.get? b=some o):(dL h a vs).get? b=some o:=by
 refine bk0 _ (bk0 _ ?_)
 rw [Heap.get?_update_ne _ _ _ _ hb]; exact e
theorem R3 {prog:Program}{w:World}{A:Around}{E:Value->Shared->Prop}{s:Shared}{a:Addr}{vs:List Value}{n:Nat}{P:PySem.Fin->Shared->Prop}{κ:SortKind}{Ok:Keyed->Prop}{rk:Keyed->Int}
  (e:s.heap.get? a=some (seqObj "list" vs.toArray n)) (h2:2<=vs.length) (big:vs.length<=sizeLine)
  (hk:∀ Q:SortKind->Shared->Prop,Q κ { s with heap:=dL s.heap a vs }->wpAny (model prog w) A (keyKind' vs.toArray) Q E { s with heap:=dL s.heap a vs })
  (c:cL prog w A E { s with heap:=dL s.heap a vs } κ Ok rk) (o:∀ v ∈ vs,Ok (v,v))
  (q:∀ out:List Value,out.Perm vs->out.Pairwise (fun u v=>rk (u,u)<=rk (v,v))->P (.done (.ret .none)) { s with heap:=sortedHeap s.heap a vs out.toArray }):wpAny (model prog w) A (Builtin.«list.sort» ⟨[.ref a],[]⟩) P E s:=by
 have la:=bl5 e
 have cc : ¬ vs.toArray.size < 2:=by simpa using h2
 obtain ⟨k,ek⟩:∃ k,(s.heap.update a (Obj.mapSeq fun _=>#[])).get? a=some (seqObj "list" #[] k):=⟨_,get?_update_seq e fun _=>#[]⟩
 have there:(dL s.heap a vs).get? a=some (seqObj "list" #[] k):=bk0 _ (bk0 _ ek)
 rw [list_sort_plain]
 apply bj8
 apply listItems_at e rfl
 apply bj8
 refine listUpdate_at e rfl ?_ (by simpa using big) (bu5 _)
 apply bj8
 apply seqEpoch_at ek rfl
 apply bj8
 refine wpAny_newTuple ?_ big
 apply bj8
 refine wpAny_newList ?_ (bu5 _)
 apply br7
 simp only [cc,bt1]
 apply bj8
 refine hk _ ?_
 have zl:(vs.toArray.zip vs.toArray).toList=vs.zip vs:=by simp
 apply bj8
 refine br6 (aI1 (a0:=vs.toArray.zip vs.toArray) (Q:=fun _ st'=>(arrOf st').Perm (vs.toArray.zip vs.toArray)/\failedOf st'=none/\Up rk (arrOf st') 0 (vs.toArray.zip vs.toArray).size) c (fun x hx=>?_) ⟨Array.Perm.refl _,rfl,rfl,rfl⟩ (by simp; omega) fun st' a1 a2 a3=>⟨a1,a2,a3⟩) ?_ fun _ _ z=>z
 ·have hx':x ∈ vs.zip vs:=by rw [<- zl]; exact Array.mem_toList_iff.mpr hx
  obtain ⟨y1,y2⟩:=mem_zip_self hx'
  have:=o x.1 y2
  have ex:x=(x.1,x.1):=bv7 rfl y1.symm
  rw [ex]; exact this
 ·rintro ⟨⟨⟩,st'⟩ s' ⟨rfl,pm,ok,up⟩
  have lp:(arrOf st').toList.Perm (vs.zip vs):=by rw [<- zl]; exact Array.perm_iff_toList_perm.mp pm
  have out:(arrOf st').map (·.2)=((arrOf st').toList.map (·.2)).toArray:=by apply Array.toList_inj.mp; rw [Array.toList_map]
  have op:((arrOf st').toList.map (·.2)).Perm vs:=by
   have:=lp.map (·.2)
   rw [qT] at this; exact this
  have sz:(arrOf st').size=vs.length:=by rw [pm.size_eq]; simp
  dsimp only
  apply bj8
  apply seqEpoch_at there rfl
  apply bj8
  refine listUpdate_at there rfl ?_ (bu5 _) (by rw [Array.size_map,sz]; exact Nat.le_succ_of_le big)
  rw [ok]
  simp only [bne_self_eq_false,bn3,bt1]
  refine bk2 ?_
  have hq:=q _ op ?_
  ·rw [<- out] at hq; exact hq
  ·rw [bu2,bq8]
   intro i j hi hj hij
   have hi':i < (arrOf st').size:=by simpa using hi
   have hj':j < (arrOf st').size:=by simpa using hj
   have h1:=up i j (bu5 _) (bw8 hij) (by simp; omega)
   rw [cG hi',cG hj'] at h1
   have dg:∀ x ∈ (arrOf st').toList,(x.2,x.2)=x:=fun x hx=>bv7 (mem_zip_self (lp.mem_iff.mp hx)).1.symm rfl
   rw [dg _ (bw3 hi),dg _ (bw3 hj)]
   simpa using h1
theorem aI3 {prog:Program}{w:World}{A:Around}{E:Value->Shared->Prop}{s:Shared}{l:Addr}{vs:List Value}{Q:Value->Shared->Prop}{κ:SortKind}{Ok:Keyed->Prop}{rk:Keyed->Int}
  (hl:s.heap.IsList l vs.toArray) (h2:2<=vs.length) (big:vs.length<=sizeLine)
  (hk:∀ (A:Around) (E:Value->Shared->Prop) (Q:SortKind->Shared->Prop),Q κ { s with heap:=dL (gC s.heap vs) (s.heap.objs.size+1) vs }->wpAny (model prog w) A (keyKind' vs.toArray) Q E { s with heap:=dL (gC s.heap vs) (s.heap.objs.size+1) vs })
  (c:∀ (A:Around) (E:Value->Shared->Prop),cL prog w A E { s with heap:=dL (gC s.heap vs) (s.heap.objs.size+1) vs } κ Ok rk) (o:∀ v ∈ vs,Ok (v,v))
  (q:∀ out:List Value,out.Perm vs->out.Pairwise (fun u v=>rk (u,u)<=rk (v,v))->Q (.ref (s.heap.objs.size+1)) { s with heap:=sortedAll s.heap vs out.toArray }):wpAny (model prog w) A (call (.builtin "sorted") [.ref l]) Q E s:=by
 apply Calls.call_function_entry kind_sorted plain_sorted entry_sorted (args_sorted1 _)
 simp only [Builtin.«sorted»]
 apply bj8 (m:=checkCount "sorted" 1 1 _)
 apply bk2
 apply bj8
 refine collect_list hl ?_ big
 apply bj8
 refine wpAny_newList ?_ big
 have one:((s.heap.push (seqObj "list" #[] 0)).update s.heap.objs.size (Obj.mapSeq (· ++ vs.toArray))).objs.size=s.heap.objs.size+1:=(Heap.size_update _ _ _).trans (size_push' _ _)
 have at1:(gC s.heap vs).get? (s.heap.objs.size+1)=some (seqObj "list" vs.toArray 0):=one ▸ bl7 _ rfl
 change wpAny _ _ _ _ _ { s with heap:=gC s.heap vs }
 rw [one]
 apply bj8
 apply br7
 refine br0 slot_list_sort ⟨_,at1,rfl⟩ entry_list_sort ?_ (args_list_sort _)
 exact R3 (s:={ s with heap:=gC s.heap vs }) at1 h2 big (hk _ _) (c _ _) o fun out a1 a2=>⟨_,rfl,bk2 ⟨_,rfl,q out a1 a2⟩⟩
def sD (h:Heap) (B:Int) (x:Keyed):Int:=match x.1 with
 | .ref b=>match h.get? b with
  | some ob=>match ob.data with
   | .seq us _=>numOf (us.getD 0 .none) * B+numOf (us.getD 1 .none)
   | _=>0
  | none=>0
 | _=>0
structure jR (h:Heap) (M:Int) (v:Value) (p q:Int):Prop where
 at_:∃ b ob us n,v = .ref b/\h.get? b=some ob/\ob.cls = .type "tuple"/\ob.data = .seq (List.toArray us) n/\IntsAre us [p,q]
 lo : -M<=q
 hi:q<=M
theorem jR.rk {h:Heap}{M B:Int}{x:Keyed}{p q:Int} (z:jR h M x.1 p q):sD h B x=p * B+q:=by
 obtain ⟨b,ob,us,n,e1,e2,_,e4,e5⟩:=z.at_
 cases e5 with
 | cons _ t e6=>cases e6 with
  | cons _ u e7=>cases e7; unfold sD; rw [e1]; dsimp only; rw [e2]; dsimp only; rw [e4]; rfl
theorem R4 {p q p' q' M:Int} (h1 : -M<=q) (h2:q<=M) (h3 : -M<=q') (h4:q'<=M):HT.aR [p,q] [p',q']=decide (p * (2 * M+1)+q < p' * (2 * M+1)+q'):=by
 rw [HT.gX]
 have mm:∀ {a b:Int},a < b->a * (2 * M+1)+(2 * M+1)<=b * (2 * M+1):=fun {a b} z=>by
  have:=bv1 (show a+1<=b by omega) (show 0<=2 * M+1 by omega)
  rw [Int.add_mul,Int.one_mul] at this
  exact this
 by_cases e:p=p'
 ·subst e
  rw [if_pos rfl,HT.gX]
  by_cases e2:q=q'
  ·subst e2
   rw [if_pos rfl,HT.qN,bk1 (by omega)]
  ·rw [if_neg e2]
   by_cases l:q < q'
   ·rw [bk4 l,bk4 (by omega)]
   ·rw [bk1 l,bk1 (by omega)]
 ·rw [if_neg e]
  by_cases l:p < p'
  ·have:=mm l
   rw [bk4 l,bk4 (by omega)]
  ·have:=mm (show p' < p by omega)
   rw [bk1 l,bk1 (by omega)]
theorem aI4 {prog:Program}{w:World}{A:Around}{E:Value->Shared->Prop}{s:Shared}{M:Int}:cL prog w A E s (tuples' true) (fun x=>∃ p q,jR s.heap M x.1 p q) (sD s.heap (2 * M+1)):=by
 rintro x y ⟨p,q,z⟩ ⟨p',q',z'⟩ st Q hk hq
 rw [z.rk,z'.rk] at hq
 rw [<- R4 z.lo z.hi z'.lo z'.hi] at hq
 obtain ⟨b,ob,us,n,e1,e2,e3,e4,e5⟩:=z.at_
 obtain ⟨b',ob',us',n',e1',e2',e3',e4',e5'⟩:=z'.at_
 rw [lt'_eq]
 refine bl3 (wpS_get ?_)
 rw [hk,e1,e1']
 refine bl3 (wpS_lift (bB1 (PySem.W.kat_lt e2 e4 e2' e4' ?_)))
 have:=vH (prog:=prog) (w:=w) (A:=A) (s:=s) (Q:=fun a s'=>s'=s/\wpS (model prog w) A E s (pure (some a)) Q st) 0 e5 e5' ⟨rfl,bm0 hq⟩
 simpa using this
theorem aI5 {vs vs':List Value} (h:vs.Perm vs'):∀ {xs:List V},aS xs vs->∃ xs',xs'.Perm xs/\aS xs' vs':=by
 induction h with
 | nil=>intro xs r; exact⟨xs,bx1 _,r⟩
 | cons v _ ih=>
  intro xs r
  cases r with
  | cons r t=>
   obtain ⟨xs',p,r'⟩:=ih t
   exact⟨_ :: xs',p.cons _,.cons r r'⟩
 | swap u v l=>
  intro xs r
  cases r with
  | cons r t=>cases t with
   | cons r2 t2=>exact⟨_,bB6 _ _ _,.cons r2 (.cons r t2)⟩
 | trans _ _ ih1 ih2=>
  intro xs r
  obtain ⟨x1,p1,r1⟩:=ih1 r
  obtain ⟨x2,p2,r2⟩:=ih2 r1
  exact⟨x2,p2.trans p1,r2⟩
theorem R5 {α:Type} (f:α->Int):∀ l:List α,∃ M:Int,∀ y ∈ l,-M<=f y/\f y<=M
 | []=>⟨0,fun _ h=>nomatch h⟩
 | x :: l=>by
  obtain ⟨M,h⟩:=R5 f l
  refine⟨max M (max (f x) (- f x)),fun y hy=>?_⟩
  rcases bk6.mp hy with e | e
  ·subst e; omega
  ·have:=h y e; omega
def R6 (K:PySem.W.Frag):List V->Hp->VK->Prop:=fun xs H Q=>∃ (a:Addr) (ys:List V) (key:V->List Int),xs = [.ref a]/\aT K H a ys/\ys.length<=4096/\(∀ y ∈ ys,∃ b,y = .ref b/\aU K H b ((key y).map V.int)/\(key y).length=2)/\
 ∀ l (zs:List V),H l=none->zs.Perm ys->zs.Pairwise (fun u v=>HT.aR (key v) (key u)=false)->Q (.ref l) (upd H l (.lst zs))
theorem aI6 {X:Cx}:cO X (.builtin "sorted") (R6 X.K):=by
 intro pins s σ H xs us Q I r h
 obtain ⟨a,ys,key,rfl,hs,hz4,hk,q⟩:=h
 obtain ⟨u,rfl,ru⟩:=gU r
 cases ru
 obtain ⟨its,rv,p,hz⟩:=I.list hs
 have hl:=rv.length
 have hn:s.heap.objs.size<=s.heap.objs.size+1:=Nat.le_succ _
 by_cases h2:its.length < 2
 ·refine ax7 p.isList h2 ?_
  obtain ⟨e,he⟩:=sortedAll_at s.heap its its.toArray
  refine⟨.ref (s.heap.objs.size+1),upd H (s.heap.objs.size+1) (.lst ys),I.laid (t':=s.toks) (fun _ _=>sortedAll_old) hn ⟨hz,its,e,rv,he⟩,rfl,q _ ys (I.hok.fresh hn) (bx1 _) ?_⟩
  match ys,hl with
  | [],_=>exact by1
  | [_],_=>exact bp4 _ _
  | _ :: _ :: _,hl=>simp at hl; omega
 ·obtain ⟨M,hM⟩:=R5 (fun y=>(key y).getD 1 0) ys
  have pv:∀ {y:V}{v:Value},aV y v->y ∈ ys->∃ pp qq,key y = [pp,qq]/\jR (dL (gC s.heap its) (s.heap.objs.size+1) its) M v pp qq:=fun {y v} ry hy=>by
   obtain ⟨b,rfl,sq,l2⟩:=hk y hy
   cases ry
   obtain ⟨us,ru,⟨ob,e1,c1,n1,d1⟩,_⟩:=I.tuple sq
   have ia:=jC ru
   have mm:=hM _ hy
   match hkk:key (V.ref b),l2 with
   | [pp,qq],_=>
    rw [hkk] at ia mm
    exact⟨pp,qq,rfl,⟨b,ob,us,n1,rfl,R0 (bn9 (Nat.lt_succ_of_lt (bl5 e1))) (aI2 e1),c1,d1,ia⟩,mm.1,mm.2⟩
  have pvs:∀ {xs:List V}{vs:List Value},aS xs vs->(∀ y ∈ xs,y ∈ ys)->∀ v ∈ vs,∃ pp qq,jR (dL (gC s.heap its) (s.heap.objs.size+1) its) M v pp qq:=by
   intro xs vs r
   induction r with
   | nil=>intro _ v hv; cases hv
   | cons rx rt ih=>
    intro hh v hv
    rcases bk6.mp hv with z | z
    ·subst z
     obtain ⟨pp,qq,_,z⟩:=pv rx (hh _ bl6)
     exact⟨pp,qq,z⟩
    ·exact ih (fun y hy=>hh y (bl2 _ hy)) v z
  have firsts:∀ {vs:List Value},(∀ v ∈ vs,∃ pp qq,jR (dL (gC s.heap its) (s.heap.objs.size+1) its) M v pp qq)->∃ fs:List Value,PySem.W.KatTups (dL (gC s.heap its) (s.heap.objs.size+1) its) vs fs/\fs.length=vs.length/\∀ v ∈ fs,∃ i t,v=Value.int i t:=by
   intro vs
   induction vs with
   | nil=>intro _; exact⟨[],PySem.W.KatTups.nil,rfl,fun _ z=>nomatch z⟩
   | cons v vs ih=>
    intro hh
    obtain ⟨fs,t1,t2,t3⟩:=ih fun y hy=>hh y (bl2 _ hy)
    obtain ⟨pp,qq,z⟩:=hh v bl6
    obtain ⟨b,ob,us,n,rfl,e2,e3,e4,e5⟩:=z.at_
    cases e5 with
    | cons _ t e6=>exact⟨Value.int pp t :: fs,PySem.W.KatTups.cons e2 e3 e4 (by simp) t1,by simp [t2],fun v hv=>(bk6.mp hv).elim (fun z=>⟨pp,t,z⟩) (t3 v)⟩
  have allp:=pvs rv fun _ h=>h
  obtain ⟨fs,t1,t2,t3⟩:=firsts allp
  refine aI3 (κ:=tuples' true) (Ok:=fun x=>∃ pp qq,jR (dL (gC s.heap its) (s.heap.objs.size+1) its) M x.1 pp qq) (rk:=sD (dL (gC s.heap its) (s.heap.objs.size+1) its) (2 * M+1)) p.isList (by omega) (by rw [<- hl]; exact hz)
   (fun A E Q hQ=>?_) (fun A E=>aI4 (s:={ s with heap:=dL (gC s.heap its) (s.heap.objs.size+1) its })) (fun v hv=>allp v hv) fun out pm so=>?_
  ·refine PySem.W.kat_kind (T:=.type "int") t1 (by omega) (fun v hv=>?_) (by decide) ?_
   ·obtain ⟨i,t,rfl⟩:=t3 v hv
    exact PySem.W.Looks.now
   ·have eT:(Value.type "int" != Value.type "tuple")=true:=by decide
    rw [eT]; exact hQ
  ·obtain ⟨zs,pz,rz⟩:=aI5 pm.symm rv
   obtain ⟨e,he⟩:=sortedAll_at s.heap its out.toArray
   refine⟨.ref (s.heap.objs.size+1),upd H (s.heap.objs.size+1) (.lst zs),I.laid (t':=s.toks) (fun _ _=>sortedAll_old) hn ⟨by rw [pz.length_eq]; exact hz,out,e,rz,he⟩,rfl,q _ zs (I.hok.fresh hn) pz ?_⟩
   have lz:=rz.length
   rw [bq8]
   intro i j hi hj hij
   have s1:=bq8.mp so i j (by omega) (by omega) hij
   have gi:=vE i hi rz
   have gj:=vE j hj rz
   simp only [bm3,bk5 hi,bk5 hj,bk5 (show i < out.length by omega),bk5 (show j < out.length by omega),Option.getD_some] at gi gj
   obtain ⟨pi,qi,ki,vi⟩:=pv gi (pz.mem_iff.mp (bw3 hi))
   obtain ⟨pj,qj,kj,vj⟩:=pv gj (pz.mem_iff.mp (bw3 hj))
   rw [jR.rk (x:=(out[i],out[i])) vi,jR.rk (x:=(out[j],out[j])) vj] at s1
   rw [ki,kj,R4 vj.lo vj.hi vi.lo vi.hi]
   exact bk1 (by omega)
end L2
namespace L2
open PySem PySem.Spec PyProof.Rows
theorem c9.at {P:Program}{w:World}{H:Hp}{h:Heap}{a:Addr}{o:HO} (x:c9 P w H h a o):∃ ob,h.get? a=some ob:=by
 cases o with
 | lst xs=>obtain ⟨_,_,_,_,e⟩:=x; exact⟨_,e⟩
 | tup xs=>obtain ⟨_,_,_,⟨_,e,_⟩,_⟩:=x; exact⟨_,e⟩
 | dK kvs=>obtain ⟨_,_,_,_,_,_,_,e,_⟩:=x; exact⟨_,e⟩
 | dT kvs=>obtain ⟨_,_,_,_,_,_,_,e,_⟩:=x; exact⟨_,e⟩
 | set S n=>obtain ⟨_,_,_,_,e,_⟩:=x; exact⟨_,e⟩
 | ins C dx fs=>obtain ⟨_,_,_,e,_⟩:=x; exact⟨_,e⟩
 | own y=>exact x
 | xd fs=>obtain ⟨_,⟨_,_,_,e,_⟩,_⟩:=x; exact⟨_,e⟩
 | rng lo hi=>obtain ⟨_,_,_,e⟩:=x; exact⟨_,e⟩
 | frz ob u=>obtain ⟨e,_⟩:=x; exact⟨_,e⟩
 | tbl ps=>exact⟨_,x⟩
 | met f y=>exact⟨_,x⟩
 | ext φ=>exact x.2.1
structure lT (P:Program) (w:World) (outer:List Env) (H:Hp) (s:Shared) (H':Hp) (B:Heap) (a C:Addr) (s':Shared):Prop where
 os:s'.os=s.os
 bare:AllBare s'.gens
 un:Un (bQ outer) [] H H' s.heap s'.heap
 hok:bZ P w H' s'.heap
 fly:∃ a0,Heap.FlyingW B outer a (.ref C) a0 s'.heap
 b0:∀ b o,s.heap.get? b=some o->b ∉ bQ outer->∃ o',B.get? b=some o'
 b1:∀ b o,s.heap.get? b=some o->H b=none->b ∉ bQ outer->B.get? b=some o
 b2:∀ b u o,H' b=some u->s'.heap.get? b=some o->B.get? b=some o
def e9 (P:Program) (w:World):gV:=fun outer H s E e s'=>∃ (H':Hp) (B:Heap) (a C:Addr),e = .ref a/\lT P w outer H s H' B a C s'/\E (.ref C) none H'
section
variable {P : Program} {w : World} {outer : List Env} {H H' : Hp} {s s' : Shared} {B h2 : Heap} {a C : Addr}
theorem lT.fresh (f:lT P w outer H s H' B a C s'):H' a=none:=by
 cases q:H' a with
 | none=>rfl
 | some u=>
  obtain ⟨ob,e⟩:=(f.hok a u q).at
  have z:=f.b2 a u ob q e
  obtain ⟨_,_,n,_⟩:=f.fly
  rw [n] at z; cases z
theorem lT.hok2 (f:lT P w outer H s H' B a C s') (k:B.StaysIn h2):bZ P w H' h2:=fun b u e=>
 (f.hok b u e).stay (fun c v hc q=>by
  rcases hc with z | z
  ·subst z; exact k _ _ (f.b2 _ _ _ e q)
  ·exact k _ _ (f.b2 _ _ _ z q)) (fun _ q=>q) fun _ _ q=>q
end
section
variable {P : Program} {w : World} {K : PySem.W.Frag} {mg : Str → Option Value} {base : Heap} {N : List Str} {qual : Str} {scope : Scope} {f : Addr} {cd : Value} {A : Around} {outer : List Env} {s₀ : Shared} {H₀ : Hp} {E₀ E₁ : XK}
theorem sE {pins:List (Addr × Obj)}{σ:St}{H:Hp}{s:Shared} (I:a7 (dH (e9 P w) P w K mg base N qual scope f cd A outer s₀ H₀ E₀) pins σ H s) {b:Addr}{o:Obj} (e:s₀.heap.get? b=some o) (n:b ∉ bQ outer) :
  b ∉ bQ (envOfC qual scope s₀.heap.objs.size f cd :: outer):=fun z=>by
 rcases bk6.mp (I.stkSub b z) with y | y
 ·have l:=bl5 e
  have y:b=s₀.heap.objs.size:=y
  exact absurd l (by rw [y]; exact bt0 _)
 ·exact n y
theorem aI7 (hE:∀ c d H',E₁ c d H'->E₀ c d H'):oC (e9 P w) (dH (e9 P w) P w K mg base N qual scope f cd A outer s₀ H₀ E₀) E₁:=by
 intro pins σ H s e s' I hx
 obtain ⟨H',B,a,C,e1,fl,q⟩:=hx
 subst e1
 have I':=I.call' fl.os fl.un fl.hok fl.bare (ch:=[]) (fun b z=>absurd z (by simp))
 obtain ⟨a0,fly⟩:=fl.fly
 refine wpAny_leaves_onW I.ok.frames rfl fly fun h' fly' up=>?_
 have slot:∀ b o,s₀.heap.get? b=some o->b ∈ bQ outer->∃ sl,h'.get? b=some { o with slots:=sl }:=fun b o e hb=>by
  obtain ⟨sl,e1⟩:=I'.base.slot b o e (I.ok.frf b hb) hb (fun z=>nomatch z)
  obtain ⟨_,o2,e2,nf⟩:=I.ok.funs.mem hb
  rw [show (dH (e9 P w) P w K mg base N qual scope f cd A outer s₀ H₀ E₀).s₀=s₀ from rfl,e] at e2
  cases e2
  obtain ⟨sl',e3⟩:=up b _ e1 nf
  exact⟨sl',e3⟩
 have old:∀ b o,s₀.heap.get? b=some o->H₀ b=none->b ∉ bQ outer->B.get? b=some o:=fun b o e n hb=>
  fl.b1 b o (I.base.keep b o e n hb (fun z=>nomatch z)) (I.base.free b o e n (fun z=>nomatch z)) (sE I e hb)
 have old0:∀ b o,s₀.heap.get? b=some o->b ∉ bQ outer->∃ o',B.get? b=some o':=fun b o e hb=>by
  obtain ⟨o1,e1⟩:=I.base.there b o e (fun z=>nomatch z)
  exact fl.b0 b o1 e1 (sE I e hb)
 refine⟨H',B,a,C,rfl,⟨I'.os,I'.bare,⟨fun b o e n hb _=>fly'.1 _ _ (old b o e n hb),fun b o e n hb _=>slot b o e hb,fun b o e n hx=>I'.base.free b o e n hx,fun b o e _=>?_,I'.base.tups,I'.base.frzs,I'.base.tbls⟩,fl.hok2 fly'.1,⟨a0,fly'⟩,old0,old,fun b u o e h=>?_⟩,hE _ _ _ q⟩
 ·by_cases hb:b ∈ bQ outer
  ·obtain ⟨sl,e1⟩:=slot b o e hb
   exact⟨_,e1⟩
  ·obtain ⟨o',e1⟩:=old0 b o e hb
   exact⟨o',fly'.1 _ _ e1⟩
 ·obtain ⟨ob,e1⟩:=(fl.hok b u e).at
  have e2:=fl.b2 b u ob e e1
  have e3:=fly'.1 _ _ e2
  have h:h'.get? b=some o:=h
  rw [h] at e3; cases e3; exact e2
theorem aI8 {pins:List (Addr × Obj)}{σ:St}{H:Hp}{s:Shared}{h':Heap}{e C:Addr}{args:List Value} (I:a7 (dH (e9 P w) P w K mg base N qual scope f cd A outer s₀ H₀ E₀) pins σ H s) (mx:Heap.MadeExcOf s.heap h' e (.ref C) args) (q:E₀ (.ref C) none H) :
  (dH (e9 P w) P w K mg base N qual scope f cd A outer s₀ H₀ E₀).xe (.ref e) { s with heap:=h' }:=by
 have tr:∀ b u,H b=some u->b ∉ bQ (envOfC qual scope s₀.heap.objs.size f cd :: outer):=fun b u z n=>by
  rw [I.stkFree b n] at z; cases z
 have inB:∀ b o,s.heap.get? b=some o->b ∉ bQ (envOfC qual scope s₀.heap.objs.size f cd :: outer)->(PySem.W.hideAll s.heap (bQ (envOfC qual scope s₀.heap.objs.size f cd :: outer))).get? b=some o:=fun b o z n=>PySem.W.hideAll_get _ z n
 refine wpAny_leaves_madeW (base:=PySem.W.hideAll s.heap (bQ (envOfC qual scope s₀.heap.objs.size f cd :: outer))) I.ok.frames rfl (fun b o z=>PySem.W.of_hideAll _ z) (PySem.W.funFrames_hide I.stack fun env he b hb=>List.mem_filterMap.mpr ⟨env,he,hb⟩) mx fun h'' t fly _ _ up=>?_
 have slot:∀ b o,s₀.heap.get? b=some o->b ∈ bQ outer->∃ sl,h''.get? b=some { o with slots:=sl }:=fun b o e hb=>by
  obtain ⟨sl,e1⟩:=I.base.slot b o e (I.ok.frf b hb) hb (fun z=>nomatch z)
  obtain ⟨_,o2,e2,nf⟩:=I.ok.funs.mem hb
  rw [show (dH (e9 P w) P w K mg base N qual scope f cd A outer s₀ H₀ E₀).s₀=s₀ from rfl,e] at e2
  cases e2
  obtain ⟨sl',e3⟩:=up b _ (mx.keeps _ _ e1) nf
  exact⟨sl',e3⟩
 have old:∀ b o,s₀.heap.get? b=some o->H₀ b=none->b ∉ bQ outer->(PySem.W.hideAll s.heap (bQ (envOfC qual scope s₀.heap.objs.size f cd :: outer))).get? b=some o:=fun b o e n hb=>
  inB b o (I.base.keep b o e n hb (fun z=>nomatch z)) (sE I e hb)
 have old0:∀ b o,s₀.heap.get? b=some o->b ∉ bQ outer->∃ o',(PySem.W.hideAll s.heap (bQ (envOfC qual scope s₀.heap.objs.size f cd :: outer))).get? b=some o':=fun b o e hb=>by
  obtain ⟨o1,e1⟩:=I.base.there b o e (fun z=>nomatch z)
  exact⟨o1,inB b o1 e1 (sE I e hb)⟩
 refine⟨H,_,e,C,rfl,⟨I.os,I.bare,⟨fun b o e n hb _=>fly.1 _ _ (old b o e n hb),fun b o e n hb _=>slot b o e hb,fun b o e n hx=>I.base.free b o e n hx,fun b o e _=>?_,I.base.tups,I.base.frzs,I.base.tbls⟩,fun b u z=>?_,⟨_,fly⟩,old0,old,fun b u o z h=>?_⟩,q⟩
 ·by_cases hb:b ∈ bQ outer
  ·obtain ⟨sl,e1⟩:=slot b o e hb
   exact⟨_,e1⟩
  ·obtain ⟨o',e1⟩:=old0 b o e hb
   exact⟨o',fly.1 _ _ e1⟩
 ·refine (I.hok b u z).stay (fun c v hc y=>?_) (fun _ y=>y) fun _ _ y=>y
  rcases hc with z' | z'
  ·subst z'; exact fly.1 _ _ (inB _ _ y (tr _ _ z))
  ·exact fly.1 _ _ (inB _ _ y (tr _ _ z'))
 ·obtain ⟨ob,e1⟩:=(I.hok b u z).at
  have e2:=inB b ob e1 (tr b u z)
  have e3:=fly.1 _ _ e2
  have h:h''.get? b=some o:=h
  rw [h] at e3; cases e3; exact e2
end
structure nM (X:Cx) (E:XK):Prop where
 pass:oC (e9 X.prog X.w) X E
 made:∀ (pins:List (Addr × Obj)) (σ:St) (H:Hp) (s:Shared) (h':Heap) (e C:Addr) (args:List Value),a7 X pins σ H s->Heap.MadeExcOf s.heap h' e (.ref C) args->E (.ref C) none H->X.xe (.ref e) { s with heap:=h' }
 own:PassesOwn (model X.prog X.w) X.A X.env X.xe
theorem aI9 {P:Program}{w:World}{K:PySem.W.Frag}{mg:Str->Option Value}{base:Heap}{N:List Str}{qual:Str}{scope:Scope}{f:Addr}{cd:Value}{A:Around}{outer:List Env}{s₀:Shared}{H₀:Hp}{E₀ E₁:XK} (hE:∀ c d H',E₁ c d H'->E₀ c d H') :
  nM (dH (e9 P w) P w K mg base N qual scope f cd A outer s₀ H₀ E₀) E₁:=
 ⟨aI7 hE,fun _ _ _ _ _ _ _ _ I mx q=>aI8 I mx (hE _ _ _ q),PassesOwn.leaving⟩
def R7 (E:XK) (C:Addr) (t:TA):TS:=fun _ σ H=>t σ H fun vs H1=>vs.length<=sizeLine/\E (.ref C) none H1
theorem aJ0 {X:Cx}{E:XK}{x:Str}{C:Addr}{bm:List Value}{B newId initId:String}{np cpos pos:Pos}{e:Expr}{es:List Expr}{t:TA} (hX:nM X E) (hc:X.calm=true) (O:OwnCls x C bm newId X.mg X.base) (FB:ExcBaseFacts B newId initId bm) (ha:PA X (e :: es) t) (hg:Gl X x)
  (hd:(x == ("__debug__" : Str))=false:=by decide) (he:starEach (e :: es) X.env=(false,eval e X.env) :: starEach es X.env:=by rfl) (hpl:(backTo cpos (starEach es X.env)).any (·.1)=false:=by rfl) :
  PS X (.Raise (some (.Call (.Name x np) (e :: es) [] cpos)) none pos) (R7 E C t):=by
 intro pins s σ H D I h
 obtain ⟨tl,Na,nm,qn,bs,hx,sn,sub,ab,col,dd,k0,k1,k2,k3,k5,mN,hC,hN,hni,T⟩:=O.obj
 refine wpAny_Raise_call_subT (nm:=nm) (q:=qn) (N:=Na) (bs:=bs) (bm:=tl) (hdct:=hx) (sn:=sn) (sub:=sub) (ab:=ab) (col:=col) (dd:=dd) (k0:=k0) (k1:=k1) (k2:=k2) (k3:=k3) (k5:=k5) FB (C:=C) (mN:=mN) (T.hasType FB.hasBase) (I.ok.hd hc) (by rw [he]; show (false || (backTo cpos (starEach es X.env)).any (·.1))=false; rw [hpl]; rfl) hni (o7 I hg O.bound ⟨rfl,?_⟩ hd)
 have h1:=ha cpos pins s σ H _ I h
 rw [he] at h1 ⊢
 refine Calls.evalArgs_plain (br6 h1 (fun us s2 h2=>?_) fun _ _ y=>y)
 obtain ⟨vs,H2,I2,r,hl,q⟩:=h2
 have r:aS vs us:=r
 exact⟨rfl,by show us.length<=sizeLine; rw [<- r.length]; exact hl,I2.bk _ _ hC,hN.keeps I2.bk,T.keeps I2.bk,fun h' e' mx=>hX.made pins σ H2 s2 h' e' C _ I2 mx q⟩
theorem gH.okX {P:Program}{w:World}{K:PySem.W.Frag}{mg:Str->Option Value}{base:Heap}{x qual:Str}{st:Stmt}{f:Addr}{fd:FuncData}{N ps:List Str}{k:Nat}{sp:Sp} (F:gH K x qual st f fd) (S:FnScope N ps (aY st)) (len:∀ vs H Q E,sp vs H Q E->vs.length=ps.length)
  (hbody:∀ (cdv:Value) (A:Around) (outer:List Env) (s:Shared) (H:Hp) (vs:List V) (Q:VK) (E:XK),cE k (A.deeper (envOfC qual (aY st) s.heap.objs.size f cdv))->sp vs H Q E->
   ∃ t,dU (dH (e9 P w) P w K mg base N qual (aY st) f cdv A outer s H E) (eV st) t/\t { nx:=fun _ H'=>Q .non H',rt:=Q } (gW N vs) H):dQ P w K mg base (e9 P w) (k+1) f fd ps sp:=by
 obtain ⟨oc,od,kV,doc,pm,an,cdv,ct,osl,rfl,lk,hcd⟩:=F.ex
 exact A9 lk hcd S len fun A outer s H vs Q E hr hsp=>hbody cdv A outer s H vs Q E hr hsp
section
variable {X : Cx} {pins : List (Addr × Obj)} {σ : St} {H H1 H' : Hp} {s s1 s' : Shared} {B h2 : Heap} {a C : Addr}
theorem R8 {oe:Obj} (I:a7 X pins σ H1 s1) (fl:lT X.prog X.w X.stack H1 s1 H' B a C s') (st:B.StaysIn h2) (up:s'.heap.UpToSlots h2) (he:h2.get? a=some oe) :
  a7 X pins σ (upd H' a (.frz oe (.own a))) { s' with heap:=h2 }:=by
 obtain ⟨a0,fly⟩:=fl.fly
 have na:B.get? a=none:=fly.2.1
 have nf:a ∉ bQ X.stack:=fun z=>by
  obtain ⟨_,o,e,d⟩:=fly.2.2.1.mem z
  obtain ⟨o2,vs,e2,_,d2,_⟩:=fly.first
  rw [e] at e2; cases e2
  exact d vs d2
 have nb:∀ b o,s1.heap.get? b=some o->b ≠ a:=fun b o e z=>by
  subst z
  obtain ⟨o',e'⟩:=fl.b0 _ o e nf
  rw [na] at e'; cases e'
 have nt:∀ b u,H' b=some u->b ≠ a:=fun b u e z=>by
  subst z; rw [fl.fresh] at e; cases e
 have off:∀ b,b ≠ X.env.locals->b ∉ X.fs->b ∉ bQ X.stack:=fun b n1 n2 z=>(bk6.mp (I.stkSub b z)).elim n1 n2
 have slot:∀ b o,s1.heap.get? b=some o->b ∈ bQ X.stack->∃ sl,h2.get? b=some { o with slots:=sl }:=fun b o e hb=>by
  obtain ⟨sl,e1⟩:=fl.un.any e (I.stkFree b hb) (fun z=>nomatch z)
  obtain ⟨_,o2,e2,d⟩:=I.stack.mem hb
  rw [e] at e2; cases e2
  obtain ⟨sl',e3⟩:=up b _ e1 d
  exact⟨sl',e3⟩
 have ns:∀ m,s1.heap.Ns X.env.locals m->h2.Ns X.env.locals m:=fun m hm=>by
  obtain ⟨o,es,ep,e,r⟩:=hm
  obtain ⟨sl,e1⟩:=fl.un.any e I.free (fun z=>nomatch z)
  exact up.ns ⟨_,es,ep,e1,r⟩
 have hok:bZ X.prog X.w (upd H' a (.frz oe (.own a))) h2:=fun b u e=>by
  by_cases hb:b=a
  ·subst hb; rw [cH] at e; cases e; exact⟨he,_,he⟩
  ·rw [aZ hb] at e
   exact (fl.hok2 st b u e).stay (fun _ _ _ q=>q) (fun c q=>by rw [aZ (nt c _ q)]; exact q) fun c xs q=>by rw [aZ (nt c _ q)]; exact q
 have bare:=fl.bare
 have un:=fl.un
 have b0:=fl.b0
 have b1:=fl.b1
 have os:=fl.os
 clear fl fly up
 obtain ⟨hh,g,d,t,os'⟩:=s'
 obtain rfl:os'=s1.os:=os
 show a7 X pins σ _ { s1 with heap:=h2,gens:=g,drawn:=d,toks:=t }
 refine I.step (h':=h2) (g':=g) (d':=d) (t':=t) (ch:=[]) (fun _ z=>nomatch z) (fun b o n1 n2 _ e n=>st _ _ (b1 b o e n (off b n1 n2))) (fun b o n1 hb _ e n=>?_) (fun b o _ e n=>by rw [aZ (nb b o e)]; exact un.free b o e n (fun z=>nomatch z)) (fun b o _ e=>?_)
  (fun b xs q=>by rw [aZ (nt b _ (un.tups b xs q))]; exact un.tups b xs q) (fun b o u q=>by rw [aZ (nt b _ (un.frzs b o u q))]; exact un.frzs b o u q) (fun b ps q=>by
   obtain ⟨more,q'⟩:=un.tbls b ps q
   exact⟨more,by rw [aZ (nt b _ q')]; exact q'⟩) ns hok bare
 ·by_cases hs:b ∈ bQ X.stack
  ·exact slot b o e hs
  ·exact⟨o.slots,st _ _ (b1 b o e n hs)⟩
 ·by_cases hb:b ∈ bQ X.stack
  ·obtain ⟨sl,e1⟩:=slot b o e hb
   exact⟨_,e1⟩
  ·obtain ⟨o',e1⟩:=b0 b o e hb
   exact⟨o',st _ _ e1⟩
abbrev Cx.suite (X:Cx) (a:Addr):Cx:={ X with A:=X.A.mark (some (.ref a)),calm:=false,xe:=fun _ _=>False }
theorem Cx.Ok.suite {X:Cx} (ok:X.Ok) (a:Addr):(X.suite a).Ok:=
 ⟨ok.mod,ok.kind,ok.glob,ok.blt,ok.above,ok.inj,ok.has,ok.cab,fun z=>Bool.noConfusion z,ok.frames,ok.stk,ok.exf,ok.bs,ok.bsz,ok.noex,ok.exfs,ok.funs,ok.frf⟩
theorem a7.suite (I:a7 X pins σ H s) (a:Addr):a7 (X.suite a) pins σ H s:=⟨I.ok.suite a,I.os,I.bare,I.base,I.loc,I.cell,I.free,I.freeC,I.pin,I.hok,I.len⟩
theorem a7.unsuite (I:a7 (X.suite a) pins σ H s) (ok:X.Ok):a7 X pins σ H s:=⟨ok,I.os,I.bare,I.base,I.loc,I.cell,I.free,I.freeC,I.pin,I.hok,I.len⟩
theorem sF {M:Model}{A:Around}{E:Value->Shared->Prop}{i:Nat}{x:Str}{pos:Pos}{Q:Unit->Shared->Prop} (I:a7 X pins σ H s) (hN:X.N.Nodup) (hi:X.N[i]? = some x) (hk:X.env.scope.names.lookup x=some .local)
  (h:∀ s',a7 X pins (σ.set i none) H s'->Q () s'):wpAny M A (do bindName X.env x .none; unbindBehindTheSuite X.env x pos) Q E s:=by
 obtain ⟨m,hn,hl⟩:=id I.loc
 obtain ⟨oL,_,_,hoL,_⟩:=id hn
 have ab:∀ b o,X.s₀.heap.get? b=some o->b ≠ X.env.locals:=fun b o e=>bn9 (bl8 (bl5 e) I.ok.above)
 refine wpAny_nameGoes_keeps hk hn (by rw [I.ok.kind]; rfl) fun h' v hn' hs=>?_
 refine h _ ⟨I.ok,I.os,I.bare,⟨fun b o e n hb hx=>(hs.2 b (ab b o e)).trans (I.base.keep b o e n hb hx),fun b o e n hb hx=>?_,I.base.free,fun b o e hx=>?_,I.base.tups,I.base.frzs,I.base.tbls⟩,⟨_,hn',fun j y v' e1 e2 e3=>?_⟩,fun y c e=>?_,I.free,I.freeC,fun p hp=>?_,fun b u e=>?_,by simpa using I.len⟩
 ·obtain ⟨sl,e1⟩:=I.base.slot b o e n hb hx
  exact⟨sl,(hs.2 b (ab b o e)).trans e1⟩
 ·obtain ⟨o',e1⟩:=I.base.there b o e hx
  exact⟨o',(hs.2 b (ab b o e)).trans e1⟩
 ·by_cases hj:j=i
  ·subst hj
   have hjl:j < σ.length:=by rw [I.len]; exact (bl0.mp hi).1
   rw [bt2 hjl] at e2
   cases e2
  ·rw [bm8 (Ne.symm hj)] at e2
   obtain ⟨u',r',q⟩:=hl j y v' e1 e2 e3
   refine⟨u',r',?_⟩
   rcases q with ⟨k,e⟩ | ⟨k,c,e,z⟩
   ·have ny:y ≠ x:=fun z=>hj (tY hN e1 (z ▸ hi))
    exact .inl ⟨k,by simp [ny,e]⟩
   ·exact .inr ⟨k,c,e,z.sameBut hs (I.cne y c e)⟩
 ·obtain ⟨w',z⟩:=I.cell y c e
  exact⟨w',z.sameBut hs (I.cne y c e)⟩
 ·obtain ⟨e,n,ne,nf,d⟩:=I.pin p hp
  exact⟨(hs.2 p.1 ne).trans e,n,ne,nf,d⟩
 ·refine (I.hok b u e).stay (fun c v hc q=>(hs.2 c fun z=>?_).trans q) (fun _ q=>q) fun _ _ q=>q
  subst z
  rcases hc with z | z
  ·subst z; rw [I.free] at e; cases e
  ·rw [I.free] at z; cases z
theorem aJ1 {M:Model}{A:Around}{E:Value->Shared->Prop}{K:PySem.W.Frag}{e C D:Addr}{oe:Obj}{Q:Bool->Shared->Prop} (k:K.In s.heap) (he:s.heap.get? e=some oe) (hc:oe.cls = .ref C) (h1:(PySem.W.clsIn K D).isSome=true) (h2:PySem.W.typeIn K (.ref D)=some (.type "type"))
  (h3:PySem.W.subIn K (.ref D) (.type "BaseException")=some true) (h4:PySem.W.subIn K (.ref C) (.ref D)=some true) (hq:Q true s):wpAny M A (excMatches (.ref e) (.ref D)) Q E s:=by
 obtain ⟨h,g,d,t,os⟩:=s
 have k:K.In h:=k
 have he:h.get? e=some oe:=he
 have l1:PySem.W.Looks M h (isType (.ref D)) true:=by
  unfold PySem.W.clsIn at h1
  split at h1
  ·rename_i c' d' cd' sl' ho
   intro A' Q' E' s' kk q
   unfold isType loadHead
   exact bj8 (wpAny_loadPart (kk _ _ (k _ _ ho)) (bk2 q))
  ·cases h1
 have l2:PySem.W.Looks M h (typeOf (.ref D)) (.type "type"):=PySem.W.looks_typeIn k h2
 have l3:PySem.W.Looks M h (isSubtype (.ref D) (.type "BaseException")) true:=PySem.W.looks_subIn k h3
 have l4:PySem.W.Looks M h (isSubtype (.ref C) (.ref D)) true:=PySem.W.looks_subIn k h4
 have l5:PySem.W.Looks M h (typeOf (.ref e)) (.ref C):=hc ▸ (PySem.W.Looks.ld he).andThen .now
 have l6:PySem.W.Looks M h (isInstance (.ref D) (.type "tuple")) false:=l2.andThen (PySem.W.Looks.of_pure tc_notTuple)
 have l7:PySem.W.Looks M h (isExcClass (.ref D)) true:=by
  unfold isExcClass
  exact l1.andThen (by simpa using l3)
 have f:=tc_notTuple
 unfold excMatches
 repeat (first | exact hq | (with_reducible refine l2.at ?_) | (with_reducible refine l7.at ?_) | (with_reducible refine l1.at ?_) | (with_reducible refine l3.at ?_) | (with_reducible refine l5.at ?_) | (with_reducible refine l4.at ?_) | wp_step)
end
def wY (D:cZ) (i:Nat):cZ:={ nx:=fun σ H=>D.nx (σ.set i none) H,rt:=D.rt,bk:=fun σ H=>D.bk (σ.set i none) H,ct:=fun σ H=>D.ct (σ.set i none) H }
section
variable {X : Cx} {pins : List (Addr × Obj)} {σ : St} {H H1 H' : Hp} {s s1 s' : Shared} {B : Heap} {a C Ch : Addr} {i : Nat} {x n : Str} {np pos hpos : Pos} {b₀ : Stmt} {suite : List Stmt} {ts : TS} {D : cZ} {cM : List ExceptHandler}
structure wZ (K:PySem.W.Frag) (Ch:Addr):Prop where
 c1:(PySem.W.clsIn K Ch).isSome=true
 c2:PySem.W.typeIn K (.ref Ch)=some (.type "type")
 c3:PySem.W.subIn K (.ref Ch) (.type "BaseException")=some true
theorem aJ2 (I:a7 X pins σ H1 s1) (fl:lT X.prog X.w X.stack H1 s1 H' B a C s') (hstk:X.stack=X.env :: X.outer/\X.env.frame=some X.env.locals) (hg:Gl X x) (hm:X.mg x=some (.ref Ch)) (ct:wZ X.K Ch) (sub:PySem.W.subIn X.K (.ref C) (.ref Ch)=some true)
  (hN:X.N.Nodup) (hi:X.N[i]? = some n) (hl:X.env.scope.names.lookup n=some .local) (hs:dU (X.suite a) (b₀ :: suite) ts) (q:∀ oe:Obj,oe.cls = .ref C->ts (wY D i) (σ.set i (some (.ref a))) (upd H' a (.frz oe (.own a)))) (hd:(x == ("__debug__" : Str))=false) :
  wpAny (model X.prog X.w) X.A (noteFrame (.ref a) X.env) (fun _ s₂=>wpAny (model X.prog X.w) X.A (setFlight (.ref a) none) (fun _ s₃=>wpAny (model X.prog X.w) X.A (handleBy (.ref a) X.env (.ExceptHandler (some (.Name x np)) (some n) (b₀ :: suite) hpos :: cM)) (SP X pins D) X.xe s₃) X.xe s₂) X.xe s':=by
 obtain ⟨a0,fly⟩:=fl.fly
 rw [hstk.1] at fly
 refine wpAny_looks_onW (outer:=X.outer) (L:=X.env.locals) (by rw [I.ok.frames,hstk.1]) hstk.2 fly fun h4 held up4=>wpAny_landsW held fun h5 fly5 up5=>?_
 obtain ⟨o5,v5,e5,c5,_⟩:=fly5.first
 have I5:=R8 I fl fly5.1 (up4.trans up5) e5
 refine wpAny_handleBy_cons (codeAny_handlers_test (o7 (I5.suite a) hg hm ?_ hd)) (by intro z; cases z)
 refine aJ1 I5.kIn e5 c5 ct.c1 ct.c2 ct.c3 sub ?_
 show codeAny (model X.prog X.w) (X.A.mark (some (.ref a))) (.handlers (.ref a) [.ExceptHandler none (some n) (b₀ :: suite) hpos] X.env) _ _
 refine codeAny_handlers_suite_as (lands_againW fly5 fun h6 fly6 up6=>?_)
 obtain ⟨o6,v6,e6,c6,_⟩:=fly6.first
 have I6:=R8 I fl fly6.1 ((up4.trans up5).trans up6) e6
 refine tZ I6 hN hi (.inl hl) (v:=.ref a) rfl (fun s7 I7=>?_) (.inr hl)
 refine br6 (hs pins s7 _ _ (wY D i) (I7.suite a) (q o6 c6)) (fun f s8 h8=>?_) fun _ _ z=>z.elim
 show wpAny (model X.prog X.w) X.A (do bindName X.env n .none; unbindBehindTheSuite X.env n hpos) (fun _ s9=>SP X pins D f s9) X.xe s8
 cases f with
 | next=>obtain ⟨σ',H',J,q⟩:=h8; exact sF (J.unsuite I.ok) hN hi hl fun s9 J9=>⟨_,_,J9,q⟩
 | brk=>obtain ⟨σ',H',J,q⟩:=h8; exact sF (J.unsuite I.ok) hN hi hl fun s9 J9=>⟨_,_,J9,q⟩
 | cont=>obtain ⟨σ',H',J,q⟩:=h8; exact sF (J.unsuite I.ok) hN hi hl fun s9 J9=>⟨_,_,J9,q⟩
 | ret u=>obtain ⟨v,σ',H',J,r,q⟩:=h8; exact sF (J.unsuite I.ok) hN hi hl fun s9 J9=>⟨v,_,_,J9,r,q⟩
end
abbrev TB:=cZ->XK->St->Hp->Prop
def XB (X:Cx) (pins:List (Addr × Obj)) (σ:St) (Ex:XK):Value->Shared->Prop:=fun e s'=>∃ H1 s1,a7 X pins σ H1 s1/\e9 X.prog X.w X.stack H1 s1 Ex e s'
def PB (X:Cx) (sts:List Stmt) (t:TB):Prop:=
 ∀ (pins:List (Addr × Obj)) (s:Shared) (σ:St) (H:Hp) (D:cZ) (Ex:XK),a7 X pins σ H s->t D Ex σ H->wpAny (model X.prog X.w) X.A (execs sts X.env) (SP X pins D) (XB X pins σ Ex) s
def aJ3 (sp:Sp) (t:TA):TB:=fun D Ex σ H=>t σ H fun vs H1=>sp vs H1 (fun _ H2=>D.nx σ H2) Ex
def aJ4 (c:TT) (t u:TB):TB:=fun D Ex σ H=>c σ H fun b H1=>if b=true then t D Ex σ H1 else u D Ex σ H1
section
variable {X : Cx} {k : Nat} {f Ch : Addr} {fd : FuncData} {ps : List Str} {sp : Sp} {x n : Str} {p cp pos np hpos : Pos} {e c : Expr} {es : List Expr} {t : TA} {tb ub : TB} {tc : TT} {sa sb body : List Stmt} {i : Nat} {b₀ : Stmt} {suite : List Stmt} {ts : TS}
theorem aJ5 (F:dQ X.prog X.w X.K X.mg X.base (e9 X.prog X.w) k f fd ps sp) (hr:cE k X.A) (hg:Gl X x) (hm:X.mg x=some (.ref f)) (hk:PySem.W.keepIn X.K (.ref f)=true) (hb:jB X.K fd ps []) (ha:∀ E,PA (X.wish E) (e :: es) t)
  (hdb:(x == ("__debug__" : Str))=false:=by decide) (he:starEach (e :: es) X.env=(false,eval e X.env) :: starEach es X.env:=by rfl) (hpl:(backTo cp (starEach es X.env)).any (·.1)=false:=by rfl) (hsw:swapsWith (.Call (.Name x p) (e :: es) [] cp) none pos.line X.env=pure false:=by rfl) :
  PB X [.Expr (.Call (.Name x p) (e :: es) [] cp) pos] (aJ3 sp t):=by
 intro pins s σ H D Ex I h
 refine wpAny_execs_cons (wpAny_Expr_any ?_ I.quiet hsw)
 refine wpAny_Call_Name_kw (o7 I hg hm ?_ hdb)
 refine PySem.W.callWith_K (h₀:=X.base) I.ok.mod.kin hk (aL (ha (XB X pins σ Ex) cp pins s σ H _ (I.wish _) h) fun us s1 h1=>⟨?_,?_⟩) he hpl
 ·obtain ⟨_,_,I1,_⟩:=h1
  exact I1.kIn
 ·obtain ⟨vs,H1,I1,r,q⟩:=h1
  have I1:=I1.unwish
  have hl:us.length=ps.length:=by rw [<- r.length]; exact F.len _ _ _ _ q
  have bd:=hb s1 us I1.kIn (by rw [bo5]; exact hl)
  rw [bo5] at bd
  refine wpAny_call (codeAny_mono (F.run X.A X.stack s1 H1 ⟨us,[]⟩ us vs _ Ex hr I1.env0 bd r q) fun rs s' hq=>?_)
  cases rs with
  | error ev=>exact⟨H1,s1,I1,hq⟩
  | ok fl=>
   cases fl with
   | ret u=>
    obtain ⟨v,H2,I2,_,q2⟩:=I1.after hq
    exact bA0 ⟨σ,H2,I2,q2⟩
   | next=>exact False.elim hq
   | brk=>exact False.elim hq
   | cont=>exact False.elim hq
theorem aJ6 (hc:∀ E,PT (X.wish E) c tc) (ha:PB X sa tb) (hb:PB X sb ub):PB X [.If c sa sb pos] (aJ4 tc tb ub):=by
 intro pins s σ H D Ex I h
 refine wpAny_execs_cons (wpAny_If (aL (hc (XB X pins σ Ex) pins s σ H _ (I.wish _) h) fun d s1 h1=>?_))
 obtain ⟨H1,I1,q1⟩:=h1
 have I1:=I1.unwish
 have fin:∀ (fl:Flow) (s2:Shared),SP X pins D fl s2->(match fl with | .next=>wpAny (model X.prog X.w) X.A (execs [] X.env) (SP X pins D) (XB X pins σ Ex) s2 | fl=>SP X pins D fl s2):=fun fl s2 q=>by
  cases fl with
  | next=>exact bA0 q
  | _=>exact q
 cases d with
 | true=>exact aL (ha pins s1 σ H1 D Ex I1 q1) fin
 | false=>exact aL (hb pins s1 σ H1 D Ex I1 q1) fin
def R9 (K:PySem.W.Frag) (Ch:Addr) (i:Nat) (tb:TB) (ts:TS):TS:=fun D σ H=>
 tb D (fun c _ H'=>∀ (a C:Addr) (oe:Obj),c = .ref C->H' a=none->oe.cls = .ref C->PySem.W.subIn K (.ref C) (.ref Ch)=some true/\ts (wY D i) (σ.set i (some (.ref a))) (upd H' a (.frz oe (.own a)))) σ H
theorem aJ7 (hstk:X.stack=X.env :: X.outer/\X.env.frame=some X.env.locals) (hb:PB X body tb) (hg:Gl X x) (hm:X.mg x=some (.ref Ch)) (ct:wZ X.K Ch) (hN:X.N.Nodup) (hi:X.N[i]? = some n) (hl:X.env.scope.names.lookup n=some .local) (hs:∀ a,dU (X.suite a) (b₀ :: suite) ts)
  (hd:(x == ("__debug__" : Str))=false:=by decide):PS X (.Try body [.ExceptHandler (some (.Name x np)) (some n) (b₀ :: suite) hpos] [] [] pos) (R9 X.K Ch i tb ts):=by
 intro pins s σ H D I h
 refine wpAny_Try_except (br6 (hb pins s σ H D _ I h) (fun fl s1 q=>?_) (fun ev s1 q=>?_))
 ·cases fl with
  | next=>exact bA0 q
  | _=>exact q
 ·obtain ⟨H1,s2,I1,H',B,a,C,e1,fl,q⟩:=q
  subst e1
  obtain ⟨a0,fly⟩:=fl.fly
  obtain ⟨o5,_,_,c5,_⟩:=fly.first
  exact aJ2 I1 fl hstk hg hm ct (q a C o5 rfl fl.fresh c5).1 hN hi hl (hs a) (fun oe hc=>(q a C oe rfl fl.fresh hc).2) hd
end
end L2
namespace L2
open PySem PySem.Spec PyProof.Rows PySem.Calls Builtin Builtin.ObjectAttr Builtin.Getset_descriptor
structure iW (K:PySem.W.Frag) (D:Addr):Prop where
 cls:(PySem.W.clsIn K D).isSome=true
 ga:PySem.W.findIn K (.ref D) "__getattribute__" = some (some (.builtin "BaseException.__getattribute__"))
 gt:PySem.W.findIn K (.ref D) "__getattr__" = some none
 fc:PySem.W.findIn K (.ref D) "__class__" = some (some (.builtin "object.__class__"))
 fg:PySem.W.specialIn K (.builtin "object.__class__") "__get__" = some (some (.builtin "getset_descriptor.__get__"))
 ft:PySem.W.takesIn K (.builtin "object.__class__")=some true
 ob:PySem.W.mroIn K D (.type "object")=some true
 be:PySem.W.mroIn K D (.type "BaseException")=some true
def kI (h:Heap) (x D:Addr):Prop:=∃ ox:Obj,h.get? x=some ox/\ox.cls = .ref D
theorem kI.type {h:Heap}{x D:Addr}{M:Model} (I:kI h x D):PySem.W.Looks M h (typeOf (.ref x)) (.ref D):=by
 obtain ⟨ox,e,c⟩:=I
 exact c ▸ (PySem.W.Looks.ld e).andThen .now
section
variable {prog : Program} {w : World} {A : Around} {E : Value → Shared → Prop} {K : PySem.W.Frag} {x D : Addr} {h : Heap} {g : Array GenState} {d : Drawn} {t : Nat} {os : OsState}
theorem aJ8 {M:Model} (F:iW K D) (k:K.In h):PySem.W.Looks M h (find (.ref x) (.ref D) "__class__") (.bind (.builtin "getset_descriptor.__get__") (.builtin "object.__class__")):=by
 have L1:=PySem.W.looks_findIn (M:=M) k F.fc
 have L2:=PySem.W.looks_specialIn (M:=M) k F.fg
 have L3:=PySem.W.looks_takesIn (M:=M) k F.ft
 unfold find
 refine L1.andThen (PySem.W.Looks.andThen (a:=some (Value.builtin "getset_descriptor.__get__")) L2 ?_)
 refine PySem.W.Looks.andThen (a:=some (Value.builtin "getset_descriptor.__get__",Value.builtin "object.__class__")) ?_ (PySem.W.Looks.tag .now)
 unfold dataDescriptor?
 exact L3.andThen .now
theorem aJ9 {tp:Value}{R:Result->Shared->Prop} (F:iW K D) (k:K.In h) (I:kI h x D) (hq:R (.ok (.ret (.ref D))) ⟨h,g,d,t,os⟩):codeAny (model prog w) A (.call (.builtin "getset_descriptor.__get__") ⟨[.builtin "object.__class__",.ref x,tp],[]⟩) R ⟨h,g,d,t,os⟩:=by
 have L0:=I.type (M:=model prog w)
 have L1:=PySem.W.looks_mroIn (M:=model prog w) k F.ob
 refine codeAny_call_builtin PySem.W.KF.slot_gs.plain PySem.W.KF.entry_gs (PySem.W.KF.slot_gs.check _ _ _ _ _ _ _ _ PySem.W.KF.type_class (PySem.W.KF.args_gs _ _ _) ?_)
 unfold Builtin.«getset_descriptor.__get__» descrGet; rw [PySem.W.dga_obj]
 refine bj8 (bk2 ?_); unfold descrGetter descrCheckInstance descrNameAndClass isInstance
 simp only [PySem.W.KF.owner_class]
 repeat lk
 refine⟨Code.quiet_builtin _ (by decide +kernel),bu9 PySem.W.KF.entry_class ?_⟩; unfold Builtin.«object.__class__» shownTypeOf
 repeat lk
 exact hq
theorem aK0 {M:Model}{nameV:Value}{Q:Unit->Shared->Prop} (F:iW K D) (k:K.In h) (I:kI h x D) (hq:Q () ⟨h,g,d,t,os⟩):wpAny M A (checkBuiltinCall "BaseException.__getattribute__" ⟨[.ref x,nameV],[]⟩) Q E ⟨h,g,d,t,os⟩:=by
 have kd:builtinKind "BaseException.__getattribute__" = some .slot:=by decide +kernel
 have sp:splitId "BaseException.__getattribute__" = some ("BaseException","__getattribute__"):=by decide +kernel
 have L:PySem.W.Looks M h (isInstance (.ref x) (.type "BaseException")) true:=(I.type (M:=M)).andThen (PySem.W.looks_mroIn k F.be)
 have ha:=PySem.F.args_bexc_ga (.ref x) nameV
 simp only [checkBuiltinCall,kd,sp]
 refine bj8 (L.at ?_)
 repeat (any_goals (first | assumption | wp_step))
theorem aK1 {tk:Tok}{Q:Fin->Shared->Prop} (F:iW K D) (k:K.In h) (I:kI h x D) (hq:Q (.done (.ret (.ref D))) ⟨h,g,d,t,os⟩):wpAny (model prog w) A (Builtin.«object.__getattribute__» ⟨[.ref x,.str "__class__" tk],[]⟩) Q E ⟨h,g,d,t,os⟩:=by
 have L0:=I.type (M:=model prog w)
 have L1:=aJ8 (M:=model prog w) F k (x:=x)
 refine bj8 (bk2 (bj8 (bk2 (bj8 (L0.at (bj8 (L1.at ?_)))))))
 show wpAny _ _ (holding [_] (call _ _) >>= ret) _ _ _
 exact bj8 (br7 (wpAny_call (aJ9 F k I (bk2 hq))))
theorem aK2 {tk:Tok}{R:Result->Shared->Prop} (F:iW K D) (k:K.In h) (I:kI h x D) (hq:R (.ok (.ret (.ref D))) ⟨h,g,d,t,os⟩):codeAny (model prog w) A (.call (.builtin "BaseException.__getattribute__") ⟨[.ref x,.str "__class__" tk],[]⟩) R ⟨h,g,d,t,os⟩:=
 codeAny_call_builtin PySem.F.excAttr_ValueError.ga.plain PySem.F.entry_bexc_ga (aK0 F k I (aK1 F k I hq))
theorem aK3 {Q:Option Value->Shared->Prop} (F:iW K D) (k:K.In h) (I:kI h x D) (hq:Q (some (.ref D)) ⟨h,g,d,t+1,os⟩):wpAny (model prog w) A (getAttr? (.ref x) "__class__") Q E ⟨h,g,d,t,os⟩:=by
 have L0:=I.type (M:=model prog w)
 have L1:=PySem.W.looks_findIn (M:=model prog w) k F.ga
 have L2:=PySem.W.looks_findIn (M:=model prog w) k F.gt
 have f3:=PySem.F.excAttr_ValueError.ga.bind (.ref x)
 unfold getAttr? getAttrBy? getAttrBy
 refine bj8 (wpAny_mkText (bj8 (bB1 (br7 (bj8 (L0.at (bj8 (L1.at ?_))))))))
 have nx:(onTheHeap (Value.ref D) && Value.builtin "BaseException.__getattribute__" == Value.builtin "object.__getattribute__")=false:=by
  rw [show (Value.builtin "BaseException.__getattribute__" == Value.builtin "object.__getattribute__")=false by decide +kernel,bn8]
 dsimp only
 rw [if_neg (by rw [nx]; decide)]
 unfold getAttrByItsOwn hookBefore
 repeat (any_goals (first | assumption | (with_reducible refine L2.at ?_) | wp_step))
 exact aK2 F k I (PySem.W.handed_on rfl (bk2 hq))
end
theorem aK4 {K:PySem.W.Frag}{x D:Addr} (F:iW K D):PySem.W.KitX K (.ref x) (.ref D) (fun h=>kI h x D) where
 ty:=fun _ _ _ I=>I.type
 it:=fun M h k _=>by
  have z:=F.cls
  unfold PySem.W.clsIn at z
  split at z
  ·rename_i c' d' cd' sl' ho
   intro A' Q' E' s' kk q
   unfold isType loadHead
   exact bj8 (wpAny_loadPart (kk _ _ (k _ _ ho)) (bk2 q))
  ·cases z
 ne:=fun h tp dd its n sl k htp=>by
  have z:=F.cls
  refine Bool.eq_false_iff.mpr fun q=>?_
  obtain rfl:D=tp:=Value.ref.inj (beq_iff_eq.mp q)
  unfold PySem.W.clsIn at z
  split at z
  ·rename_i ho
   have y:=(k _ _ ho).symm.trans htp
   cases y
  ·cases z
 ca:=fun {_ _ _ _ _ s} k I q=>by
  obtain ⟨h,g,d,t,os⟩:=s
  exact aK3 F k I q
end L2
namespace Raw
open PySem PySem.W PySem.Calls PyProof.Rows
theorem jS {α β:Type} (f:α->β):∀ (j:Nat) (l:List α),(l.eraseIdx j).map f=(l.map f).eraseIdx j
 | _,[]=>rfl
 | 0,_ :: _=>rfl
 | j+1,x :: r=>by
  show f x :: (r.eraseIdx j).map f=f x :: (r.map f).eraseIdx j
  rw [jS f j r]
section
variable {prog : Program} {w : World} {K : Type} [DecidableEq K] {knd : HeapKind prog w K} {A : Around} {E : Value → Shared → Prop} {s : Shared} {d a : Addr} {k : K} {xs : List (K × Addr × Value)}
def S0 (knd:HeapKind prog w K) (h:Heap) (d:Addr) (xs:List (K × Addr × Value)) (j:Nat):Prop:=∃ o es ep,h.get? d=some o/\o.ExactDict/\o.data = .dict es ep/\es.toList=(xs.eraseIdx j).map (entryOfKey knd)
theorem aK5 {Q:Option DictEntry->Shared->Prop} (hu:knd.room A) (hkey:knd.is s.heap k a) (hm:s.heap.DictOfH knd d xs) (hz:xs.length<=sizeLine) (is:∃ (j:Nat) (p:Addr × Value),xs[j]? = some (k,p))
  (q:∀ (j:Nat) (p:Addr × Value) h',xs[j]? = some (k,p)->S0 knd h' d xs j->Heap.SameBut d s.heap h'->Q (some (entryOfKey knd (k,p))) { s with heap:=h',toks:=s.toks+knd.draws k }):wpAny (model prog w) A (Builtin.Dict.takeOut d (.ref a)) Q E s:=by
 obtain ⟨o,es,ep,e1,e2,e3,e4,e5,e6⟩:=hm
 obtain ⟨j0,p0,h0⟩:=is
 unfold Builtin.Dict.takeOut
 try with_reducible refine br7 ?_
 apply bj8
 apply knd.pyHash hu hkey
 apply bj8
 refine wpAny_dictFind_heap (s:={ s with toks:=s.toks+knd.draws k }) hu hkey e1 e3 e4 e5 e6 (fun no=>absurd h0 (no j0 p0)) fun j p hj=>?_
 apply bj8
 apply wpAny_dictEntries (s:={ s with toks:=s.toks+knd.draws k }) e1 e3
 rw [entry_at e4 j,hj]
 have sz:=size_of_entries e4
 apply bj8
 refine wpAny_updateDictKeys (hz:=by omega) (s:={ s with toks:=s.toks+knd.draws k }) e1 e3 (bk2 (q j p _ hj ⟨_,_,ep+1,bt9 _ e1 (Obj.isFreed_of_dict (Obj.data_mapDictKeys e3 _)),e2.mapDictKeys _,Obj.data_mapDictKeys e3 _,?_⟩ (bx2 ..)))
 rw [jS,<- e4]
 obtain ⟨l⟩:=es
 simp
end
section
variable {prog : Program} {w : World} {K : Type} [DecidableEq K] (knd : HeapKind prog w K) (d a : Addr)
theorem aK6:MeetsIn prog w (Builtin.«dict.pop» ⟨[.ref d,.ref a],[]⟩) (fun A R s=>knd.room A.in1/\∃ k xs,knd.is s.heap k a/\s.heap.DictOfH knd d xs/\xs.length<=sizeLine/\(∃ (j:Nat) (p:Addr × Value),xs[j]? = some (k,p))/\
  ∀ (j:Nat) (p:Addr × Value) h',xs[j]? = some (k,p)->S0 knd h' d xs j->Heap.SameBut d s.heap h'->R (.ok (.ret p.2)) { s with heap:=h',toks:=s.toks+knd.draws k }):=
 .of_wp fun A R s h=>by
  obtain ⟨hu,k,xs,hk,hm,hz,is,q⟩:=h
  obtain ⟨o,es,ep,e1,e2,e3,e4,e5,e6⟩:=id hm
  have ne:es.isEmpty=false:=by
   obtain ⟨j,p,hj⟩:=is
   have sz:=size_of_entries e4
   have:=(bl0.mp hj).1
   rw [Array.isEmpty_eq_false_iff,ne_eq,<- Array.size_eq_zero_iff]
   omega
  unfold Builtin.«dict.pop»
  apply bj8
  unfold Builtin.Dict.keyAndDefault
  apply bj8
  apply wpAny_notOrdered_dict hm.typeIs
  change wpAny _ _ (pure (d,Value.ref a,none)) _ _ s
  apply bk2
  have kp:(keyPart (Value.ref a)).isSome=false:=rfl
  simp only [kp,bn3,bt1]
  refine bj8 (wpAny_dictEntries e1 e3 (bj8 (bk2 ?_)))
  simp only [ne,bn3,bt1]
  apply bj8
  refine aK5 hu hk hm hz is fun j p h' hj c sb=>?_
  simp only [Option.isNone_some,bn3,bt1]
  exact bj8 (bx3 (bk2 ⟨p.2,rfl,q j p h' hj c sb⟩))
end
end Raw
namespace L2
open PySem PySem.Spec PyProof.Rows
theorem Paired.erase {α β:Type}{F:α->β->Prop}:∀ (j:Nat) {l:List α}{m:List β},Paired F l m->Paired F (l.eraseIdx j) (m.eraseIdx j)
 | _,_,_,.nil=>.nil
 | 0,_,_,.cons _ t=>t
 | j+1,_,_,.cons r t=>.cons r (Paired.erase j t)
theorem S2 {α β:Type}{F:α->β->Prop}:∀ {l:List α}{m:List β}{i:Nat}{y:β},Paired F l m->m[i]? = some y->∃ x,l[i]? = some x/\F x y
 | _,_,_,_,.nil,e=>by simp at e
 | _,_,0,_,.cons r _,e=>by simp at e; subst e; exact⟨_,rfl,r⟩
 | _,_,i+1,y,.cons _ t,e=>by
  rw [bo2] at e
  obtain ⟨x,h1,h2⟩:=S2 t e
  exact⟨x,by rw [bo2]; exact h1,h2⟩
theorem S3 {α β:Type}{F:α->β->Prop}:∀ {l:List α}{m:List β}{i:Nat}{x:α},Paired F l m->l[i]? = some x->∃ y,m[i]? = some y/\F x y
 | _,_,_,_,.nil,e=>by simp at e
 | _,_,0,_,.cons r _,e=>by simp at e; subst e; exact⟨_,rfl,r⟩
 | _,_,i+1,x,.cons _ t,e=>by
  rw [bo2] at e
  obtain ⟨y,h1,h2⟩:=S3 t e
  exact⟨y,by rw [bo2]; exact h1,h2⟩
section
variable {X : Cx} {pins : List (Addr × Obj)} {σ : St} {H : Hp} {s : Shared} {a b : Addr} {kvs : List (List aM × V)} {k : List aM} {A : Around} {E : Value → Shared → Prop}
theorem aK7 {Q:Value->Shared->Prop} (hu:A.units+1 < cLine) (I:a7 X pins σ H s) (e:H a=some (.dT kvs)) (eb:H b=some (.tup (k.map kV))) (is:∃ j:Nat,(kvs.map (·.1))[j]? = some k)
  (h:∀ (j:Nat) v w' s',(kvs.map (·.1))[j]? = some k->a7 X pins σ (upd H a (.dT (kvs.eraseIdx j))) s'->aV v w'->Q w' s'):wpAny (model X.prog X.w) A (call (.builtin "dict.pop") [.ref a,.ref b]) Q E s:=by
 obtain ⟨z,hd,xs,rel,dd⟩:=E4 I.hok e
 have hz:xs.length<=sizeLine:=by rw [<- Paired.length rel]; exact z
 refine call_meetsIn PySem.F.slot_dict_pop dd.typeIs PySem.F.entry_dict_pop (PySem.F.args_dict_pop_2 _ _) (Raw.aK6 (tupleKind (eQ X.prog X.w)) a b) ⟨tupleKind_room_in1 hu,k,xs,mP I.hok eb,dd,hz,?_,fun j p h' hj c sb=>?_⟩
 ·obtain ⟨j,hj⟩:=is
  rw [bl9] at hj
  cases ej:kvs[j]? with
  | none=>rw [ej] at hj; cases hj
  | some kv=>
   rw [ej] at hj
   cases hj
   obtain ⟨y,hy,r⟩:=S3 rel ej
   exact⟨j,y.2,by rw [hy]; exact congrArg some (bv7 r.1.symm rfl)⟩
 ·obtain ⟨kv,hkv,r⟩:=S2 rel hj
  obtain ⟨o,es,ep,h1,h2,h3,h4⟩:=c
  have nd:((xs.eraseIdx j).map (·.1)).Nodup:=by
   obtain ⟨_,_,_,_,_,_,_,_,nd⟩:=dd
   exact nd.sublist ((List.eraseIdx_sublist xs j).map _)
  refine h j kv.2 p.2 _ (by rw [bl9,hkv]; exact congrArg some r.1) ?_ r.2.2
  refine uW I (by rw [e]; exact bB7) sb ⟨o,h1⟩ ⟨bo3 (List.length_eraseIdx_le kvs j) z,hd,_,KT.keeps (Paired.erase j rel) fun c ys ec=>?_,o,es,ep,h1,h2,h3,h4,nd⟩
  rw [aZ (yZ ec e (fun z=>nomatch z))]
  exact ec
end
section
variable {X : Cx} {o e : Expr} {apos cpos : Pos} {td ty : TE}
def S4 (td ty:TE):TE:=fun σ H Q=>td σ H fun x H1=>∃ a,x = .ref a/\uY H1 a/\ty σ H1 fun y H2=>∃ kvs k b,H2 a=some (.dT kvs)/\y = .ref b/\H2 b=some (.tup (k.map kV))/\(∃ j:Nat,(kvs.map (·.1))[j]? = some k)/\∀ (j:Nat) v,(kvs.map (·.1))[j]? = some k->Q v (upd H2 a (.dT (kvs.eraseIdx j)))
theorem aK8 (hu:X.A.units+1 < cLine) (ho:PE X o td) (he:PE X e ty) (m:M1 X o "pop" apos e cpos):PE X (.Call (.Attribute o "pop" apos) [e] [] cpos) (S4 td ty):=by
 intro pins s σ H Q I h
 refine wpAny_Call_method m.base m.few m.line PySem.F.plainAttrs_dict PySem.F.slot_dict_pop PySem.F.type_dict_pop (aL (ho pins s σ H _ I h) fun u s1 h1=>?_)
 obtain ⟨x,H1,I1,rx,a,ex,d,q1⟩:=h1
 subst ex
 obtain rfl:u=Value.ref a:=rx
 obtain ⟨t1,t2,_⟩:=E9 I1 d
 refine⟨t1,t2,?_⟩
 rw [m.trees]
 refine Calls.callWith_builtin rfl (Calls.evalArgs_plain (Calls.spliced_cons (aL (he pins s1 σ H1 _ I1 q1) fun iv s2 h2=>Calls.spliced_nil ?_)))
 obtain ⟨y,H2,I2,ry,kvs,k,b,ea,ey,eb,is,q2⟩:=h2
 subst ey
 obtain rfl:iv=Value.ref b:=ry
 exact aK7 hu I2 ea eb is fun j v w' s3 hj I3 rw'=>⟨v,_,I3,rw',q2 j v hj⟩
end
end L2
namespace Core
open PySem L2 PP
def x3 (ns:List Int):Bool:=((ns.zip (ns.drop 1)).map fun p=>decide (p.1 < p.2)).all id
def kin (ws:List Int) (ls:List (Int × Int)) (S:List Int) (h:Int):Bool:=!decide (h ∈ S) && decide (ws.getD h.toNat 0<=(((vI ls h).filter fun x=>decide (x ∈ S)).length:Int))
def nextOf (ws:List Int) (ls:List (Int × Int)) (S:List Int):List Int:=((List.range ws.length).map fun (i:Nat)=>(i:Int)).filter (kin ws ls S)
def pE (ws:List Int) (ls:List (Int × Int)) (S:List Int):Nat->List Int
 | 0=>S
 | k+1=>pE ws ls S k ++ nextOf ws ls (pE ws ls S k)
def after (ws:List Int) (ls:List (Int × Int)) (S:List Int) (m:Nat):List (List Int):=(List.range m).map fun k=>nextOf ws ls (pE ws ls S k)
def cZ (ws:List Int) (ls:List (Int × Int)) (ns:List Int) (m:Nat):Prop:=(∀ k < m,nextOf ws ls (pE ws ls ns k) ≠ [])/\nextOf ws ls (pE ws ls ns m) = []
theorem x4 {ns:List Int}{i:Nat}{x:PV} (h:(intz ns)[i]? = some x):∃ n,x = .int n/\ns[i]? = some n:=by
 rw [bl9] at h
 cases e:ns[i]? with
 | none=>rw [e] at h; cases h
 | some n=>rw [e] at h; exact⟨n,(bn1 h).symm,rfl⟩
theorem x5 {lo:Int}{n i:Nat}{x:PV} (h:(gM lo n)[i]? = some x):x = .int (lo+i)/\i < n:=by
 have hi:i < n:=by
  have:=(bl0.mp h).1
  rwa [mY] at this
 rw [K6 hi] at h
 exact⟨(bn1 h).symm,hi⟩
def rng (n:Nat):List Int:=(List.range n).map fun (i:Nat)=>(i:Int)
theorem pF {α:Type}{l:List α}{p:α->Bool}{i:Nat}{x:α} (h:l[i]? = some x):(l.take (i+1)).filter p=(l.take i).filter p ++ (if p x=true then [x] else []):=by
 rw [bo8,h,List.filter_append]
 congr 1
 cases e:p x <;> simp [e]
theorem S5 (a b:List Int):intz (a ++ b)=intz a ++ intz b:=bm5
theorem aK9 (a:List Int):(intz a).length=a.length:=bk8 _
def S6 (x:PV) (ns:List Int):Prop:=x = .tup (intz ns) ∨ x = .lst (intz ns)
theorem iX:∀ (ls:List (Int × Int)),flats (ls.map fun l=>PV.tup [.int l.1,.int l.2])=true
 | []=>rfl
 | l :: r=>by
  show (flat (.tup [.int l.1,.int l.2]) && flats (r.map fun l=>PV.tup [.int l.1,.int l.2]))=true
  rw [iX r]; rfl
theorem pG (ns:List Int):flat (.tup (intz ns))=true:=oH ns
abbrev cV (t:aP) (N:List Str) (p:bS):Prop:=∀ xs Q,p xs Q->t { nx:=fun _=>Q .non,rt:=Q } (fD N xs)
def aL0:bS:=fun xs Q=>∃ x ns,xs = [x]/\S6 x ns/\ns.length<=1000/\Q (.bl (x3 ns))
def inB (n:Nat) (x:Int):Bool:=decide (0<=x) && decide (x < (n:Int))
structure DS (ps:List (aM × PV)) (S:List Int):Prop where
 has:∀ i:Int,(cB ps (Sum.inl i:aM)).isSome=decide (i ∈ S)
 len:ps.length<=S.length
 fl:flats (ps.map (·.2))=true
section
variable {κ : Type} [DecidableEq κ]
theorem jT {p:κ × PV}{r:List (κ × PV)}{k:κ} (e:p.1=k):cB (p :: r) k=some p.2:=by simp [cB,bw0,e]
theorem jU {p:κ × PV}{r:List (κ × PV)}{k:κ} (e : ¬ p.1=k):cB (p :: r) k=cB r k:=by simp [cB,bw0,e]
theorem nN (k:κ):∀ kvs:List (κ × PV),(kvs.any fun kv=>decide (kv.1=k))=(cB kvs k).isSome
 | []=>rfl
 | p :: r=>by
  rw [List.any_cons]
  by_cases e:p.1=k
  ·simp only [jT e,bk4 e,Bool.true_or,Option.isSome_some]
  ·rw [jU e,bk1 e,Bool.false_or]; exact nN k r
theorem S7 (k j:κ) (y:PV):∀ kvs:List (κ × PV),cB (kvs.map fun kv=>if kv.1=k then (kv.1,y) else kv) j=(cB kvs j).map fun x=>if j=k then y else x
 | []=>rfl
 | p :: r=>by
  have ih:=S7 k j y r
  rw [bp9]
  by_cases h:p.1=k
  ·rw [if_pos h]
   by_cases e:p.1=j
   ·rw [jT (p:=(p.1,y)) e,jT e,Option.map_some,if_pos (e.symm.trans h)]
   ·rw [jU (p:=(p.1,y)) e,jU e,ih]
  ·rw [if_neg h]
   by_cases e:p.1=j
   ·rw [jT (p:=p) e,jT e,Option.map_some,if_neg (fun z=>h (e.trans z))]
   ·rw [jU (p:=p) e,jU e,ih]
theorem S8 (k j:κ) (y:PV):∀ kvs:List (κ × PV),cB kvs k=none->cB (kvs ++ [(k,y)]) j=if j=k then some y else cB kvs j
 | [],_=>by
  by_cases e:k=j
  ·rw [if_pos e.symm]; exact jT (p:=(k,y)) e
  ·rw [if_neg (fun z=>e z.symm)]; exact jU (p:=(k,y)) e
 | p :: r,hn=>by
  rw [List.cons_append]
  have hk : ¬ p.1=k:=fun z=>by rw [jT z] at hn; cases hn
  rw [jU hk] at hn
  have ih:=S8 k j y r hn
  by_cases e:p.1=j
  ·rw [jT e,jT e,if_neg (fun z=>hk (e.trans z))]
  ·rw [jU e,jU e,ih]
theorem S9 (kvs:List (κ × PV)) (k j:κ) (y:PV):cB (dW kvs k y) j=if j=k then some y else cB kvs j:=by
 unfold dW
 by_cases a:(kvs.any fun kv=>decide (kv.1=k))=true
 ·rw [if_pos a,S7]
  rw [nN] at a
  by_cases e:j=k
  ·obtain ⟨x,hx⟩:=Option.isSome_iff_exists.mp a
   rw [if_pos e,e,hx,Option.map_some,if_pos rfl]
  ·rw [if_neg e]
   cases cB kvs j with
   | none=>rfl
   | some x=>rw [Option.map_some,if_neg e]
 ·rw [if_neg a]
  refine S8 k j y kvs ?_
  rw [nN] at a
  cases q:cB kvs k with
  | none=>rfl
  | some x=>rw [q] at a; exact (a rfl).elim
theorem aL1 (kvs:List (κ × PV)) (k:κ) (v:PV):(dW kvs k v).length<=kvs.length+1:=by
 unfold dW
 split
 ·rw [bk8]; omega
 ·rw [bn2,bp1,by5]; omega
end
theorem T3 {ws:List Int}{h:Int} (h0:0<=h) (h1:h < (ws.length:Int)):atI (intz ws) h=some (.int (ws.getD h.toNat 0)):=by
 refine ay2 h0 ?_
 have:h.toNat < ws.length:=by omega
 rw [bl9,bm3,bk5 this]; rfl
def tups (rs:List (List Int)):List PV:=rs.map fun r=>PV.tup (intz r)
theorem T4:∀ (rs:List (List Int)),flats (tups rs)=true
 | []=>rfl
 | r :: t=>by
  show (flat (.tup (intz r)) && flats (tups t))=true
  rw [pG,T4 t]; rfl
theorem aL2 (g:Tg) (n:Int):Nw g (.int n):=by cases g <;> first | exact trivial | rfl
def pH (x:PV) (ns:List Int):Prop:=x = .scr ns ∨ x = .lst (intz ns)
theorem pH.seq {x:PV}{ns:List Int} (h:pH x ns):jJ x=some (intz ns):=by rcases h with rfl | rfl <;> rfl
theorem pH.len {x:PV}{ns:List Int} (h:pH x ns):K0 x=some ns.length:=by
 rcases h with rfl | rfl
 ·rfl
 ·show some (intz ns).length=_
  rw [aK9]
def jV:bS:=fun xs Q=>∃ x ns k,xs = [x,.int k]/\pH x ns/\0<=k/\Q (.int (ns.getD k.toNat 0))
def T5:aP:=(aH (bR (aW (iS (a5 1) (aG fZ (a6 (a5 0) aA)))) (bG (b8 (a5 0) (a5 1))) bW)
 (bG (qC (.int 0))))
theorem aL3:cV T5 ["script","k"] jV:=by
 rintro xs Q ⟨x,ns,k,rfl,hx,h0,q⟩
 refine⟨_,rfl,_,rfl,_,_,rfl,hx.len,_,_,rfl,rfl,_,rfl,?_⟩
 by_cases h:k < (ns.length:Int)
 ·rw [bk4 h]
  exact b7 ⟨_,rfl,_,rfl,_,_,_,hx.seq,rfl,T3 h0 h,aL2 _ _,q⟩
 ·rw [bk1 h]
  rw [bm3,List.getElem?_eq_none (by omega)] at q
  exact aJ ⟨trivial,q⟩
def aF (ls:List (Int × Int)):List PV:=ls.map fun l=>PV.tup [.int l.1,.int l.2]
theorem fF (ls:List (Int × Int)):(aF ls).length=ls.length:=bk8 _
def fN (l m:Int × Int):Prop:=l.1 < m.1 ∨ (l.1=m.1/\l.2 < m.2)
abbrev si (n:Int):Option Slot:=some (.sh true (.int n))
def sG:bS:=fun xs Q=>∃ i,xs = [.int i]/\Q (.bl true)
def T6 (K:PySem.W.Frag):aP:=(bG (iD (iR K "int" (a5 0)) (vN (iR K "bool" (a5 0)))))
theorem aL4 {K:PySem.W.Frag} (k1:PySem.W.kitOne K (.type "int") (.type "int")=some true) (k2:PySem.W.kitOne K (.type "int") (.type "bool")=some false):cV (T6 K) ["found"] sG:=by
 rintro xs Q ⟨i,rfl,q⟩
 exact⟨_,rfl,_,_,rfl,k1,_,rfl,b7 ⟨_,rfl,_,_,rfl,k2,_,rfl,trivial,q⟩⟩
theorem lU {ls:List (Int × Int)}{i:Nat}{x:PV} (h:(aF ls)[i]? = some x):∃ l,x = .tup [.int l.1,.int l.2]/\ls[i]? = some l:=by
 unfold aF at h
 rw [bl9] at h
 cases e:ls[i]? with
 | none=>rw [e] at h; cases h
 | some n=>rw [e] at h; exact⟨n,(bn1 h).symm,rfl⟩
end Core
namespace PP
open PySem L2 PyProof.Rows
section
variable {X : Cx} {a b e : Expr} {ta tb te : aB} {tr : cP} {pos p2 p3 pos2 : Pos}
theorem T7:∀ {xs:List V}{us:List Value},xs.length=us.length->(∀ (i:Nat) x u,xs[i]? = some x->us[i]? = some u->aV x u)->aS xs us
 | [],[],_,_=>.nil
 | x :: xs,u :: us,hl,h=>.cons (h 0 x u rfl rfl) (T7 (by simpa using hl) fun i y w h1 h2=>h (i+1) y w (by rw [bo2]; exact h1) (by rw [bo2]; exact h2))
theorem aL5 {K:PySem.W.Frag}{M:Addr->Prop}{H:Hp} (lo:Int) (n:Nat):Reps K M H (jG lo n) (gM lo n):=by
 unfold jG gM
 generalize List.range n=l
 induction l with
 | nil=>exact .nil
 | cons a r ih=>exact .cons (.int _) ih
def x6:V->Int
 | .int i=>i
 | _=>0
def lV (H:Hp):V->List Int
 | .ref a=>match H a with
  | some (.tup us)=>us.map x6
  | _=>[]
 | _=>[]
theorem aL6 {H:Hp}{a:Addr}{ns:List Int} (h:H a=some (.tup (ns.map V.int))):lV H (.ref a)=ns:=by
 show (match H a with | some (.tup us)=>us.map x6 | _=>[])=ns
 rw [h]
 show (ns.map V.int).map x6=ns
 rw [bq4]
 exact List.map_id _
theorem T8 {K:PySem.W.Frag}{M:Addr->Prop}{H:Hp}:∀ {us:List V}{ys:List (List Int)},Reps K M H us (ys.map fun r=>PV.tup (intz r))->us.map (lV H)=ys/\∀ u ∈ us,∃ b,u = .ref b/\H b=some (.tup ((lV H u).map V.int))
 | _,[],.nil=>⟨rfl,fun u h=>nomatch h⟩
 | _,y :: ys,.cons r t=>by
  obtain ⟨a,us,rfl,h,r1⟩:=r.sqT
  obtain rfl:=r1.ofInts
  obtain ⟨h1,h2⟩:=T8 t
  have hk:=aL6 h
  refine⟨by rw [bp9,h1,hk],fun u hu=>?_⟩
  rcases bk6.mp hu with rfl | hu
  ·exact⟨a,rfl,by rw [hk]; exact h⟩
  ·exact h2 u hu
theorem T9 {K:PySem.W.Frag}{M:Addr->Prop}{H:Hp}:∀ {us:List V},(∀ u ∈ us,∃ b,u = .ref b/\H b=some (.tup ((lV H u).map V.int)))->Reps K M H us ((us.map (lV H)).map fun r=>PV.tup (intz r))
 | [],_=>.nil
 | u :: us,h=>by
  obtain ⟨b,rfl,hb⟩:=h u bl6
  exact .cons (.tup hb (Reps.intz _)) (T9 fun v hv=>h v (bl2 _ hv))
end
def aL7 (K:PySem.W.Frag):Sp:=fun vs H Q _=>∃ (a:Addr) (ns:List Int),vs = [.ref a]/\(aU K H a (ns.map V.int) ∨ aT K H a (ns.map V.int))/\ns.length<=1000/\∀ H',aE H H'->Q (.bl (Core.x3 ns)) H'
section
variable {P : Program} {w : World} {K : PySem.W.Frag} {mg : Str → Option Value} {base : Heap} {f : Addr} {fd : FuncData} {k : Nat}
theorem U0 (F:dQ P w K mg base fJ k f fd ["things"] (aL7 K)) (b:jB K fd ["things"] []) (kp:PySem.W.keepIn K (.ref f)=true) (m:mg "rises" = some (.ref f)):Df P w K mg base k "rises" ["things"] Core.aL0:=by
 refine⟨f,fd,F.imp fun vs H Q E h=>?_,b,kp,m⟩
 obtain ⟨xs,Qp,r,⟨x,ns,rfl,hx,hl,q⟩,k⟩:=h
 obtain ⟨v,rfl,r1⟩:=r.one
 rcases hx with rfl | rfl
 ·obtain ⟨a,us,rfl,h,r2⟩:=r1.sqT
  obtain rfl:=r2.ofInts
  exact⟨a,ns,rfl,.inl (aU.of h),hl,fun H' s=>k _ H' _ s (.bl _) q⟩
 ·obtain ⟨a,us,rfl,_,h,r2⟩:=r1.sqL
  obtain rfl:=r2.ofInts
  exact⟨a,ns,rfl,.inr (aT.of h),hl,fun H' s=>k _ H' _ s (.bl _) q⟩
end
end PP
namespace Core
open PySem L2 PP
def two (l:Int × Int):List Int:=[l.1,l.2]
def pI (r:List Int):Int × Int:=(r.getD 0 0,r.getD 1 0)
theorem pJ (ls:List (Int × Int)):aF ls=(ls.map two).map fun r=>PV.tup (intz r):=by
 unfold aF
 rw [bq4]; rfl
theorem U1 {zs:List (List Int)}{ls:List (Int × Int)} (h:zs.Perm (ls.map two)):∃ ls':List (Int × Int),zs=ls'.map two/\ls'.Perm ls:=by
 refine⟨zs.map pI,?_,?_⟩
 ·rw [bq4]
  have:∀ z ∈ zs,(two ∘ pI) z=z:=fun z hz=>by
   obtain ⟨l,_,rfl⟩:=bm9.mp (h.mem_iff.mp hz)
   rfl
  rw [List.map_congr_left this,List.map_id']
 ·have:=h.map pI
  rw [bq4] at this
  have e:ls.map (pI ∘ two)=ls:=by
   have:∀ l ∈ ls,(pI ∘ two) l=id l:=fun l _=>rfl
   rw [List.map_congr_left this,List.map_id]
  rw [e] at this
  exact this
theorem U2 {ls:List (Int × Int)} (so:(ls.map two).Pairwise fun u v=>HT.aR v u=false) (nd:ls.Nodup):ls.Pairwise fN:=by
 rw [bu2] at so
 refine (List.pairwise_and_iff.mpr ⟨so,nd⟩).imp fun {a b} h=>?_
 obtain ⟨h1,h2⟩:=h
 unfold two at h1
 rw [HT.gX] at h1
 unfold fN
 by_cases e:b.1=a.1
 ·rw [if_pos e,HT.gX] at h1
  by_cases e2:b.2=a.2
  ·exact absurd (bv7 e.symm e2.symm) h2
  ·rw [if_neg e2] at h1
   have:=bz5 h1
   omega
 ·rw [if_neg e] at h1
  have:=bz5 h1
  omega
def cS (l:Int × Int):List aM:=[Sum.inl l.1,Sum.inl l.2]
def U3:bS:=fun xs Q=>∃ ns:List Int,xs = [.scr ns]/\ns.length<=63/\Q (.bl true)
structure aL8 (K:PySem.W.Frag):Prop where
 ii:PySem.W.kitOne K (.type "int") (.type "int")=some true
 ib:PySem.W.kitOne K (.type "int") (.type "bool")=some false
 tt:PySem.W.kitOne K (.type "tuple") (.type "tuple")=some true
 ll:PySem.W.kitOne K (.type "list") (.type "list")=some true
 bb:PySem.W.kitOne K (.type "bool") (.type "bool")=some true
theorem pL (K:PySem.W.Frag):aL8 K:=by
 have same:∀ n:String,PySem.W.kitMeta n=true->True:=fun _ _=>trivial
 refine⟨?_,?_,?_,?_,?_⟩
 ·unfold PySem.W.kitOne; rw [if_pos (by decide)]
 ·have e:(if PySem.W.kitMeta "bool" = true then (fastBuiltinMro "int").map (·.contains (Value.type "bool")) else none)=some false:=by decide +kernel
  unfold PySem.W.kitOne
  rw [if_neg (by decide)]
  exact e
 ·unfold PySem.W.kitOne; rw [if_pos (by decide)]
 ·unfold PySem.W.kitOne; rw [if_pos (by decide)]
 ·unfold PySem.W.kitOne; rw [if_pos (by decide)]
end Core
namespace PP
open PySem L2 PyProof.Rows
theorem aL9 {P:Program}{w:World}{K:PySem.W.Frag}{mg:Str->Option Value}{base:Heap}{k:Nat}{x:Str}{ps N:List Str}{p:bS}{st:Stmt}{f:Addr}{fd:FuncData} (F:gH K x x st f fd) (S:FnScope N ps (aY st))
  (len:∀ xs Q,p xs Q->xs.length=ps.length)
  (body:∀ (cdv:Value) (A:Around) (outer:List Env) (s:Shared) (H:Hp) (E:XK),cE k (A.deeper (envOfC x (aY st) s.heap.objs.size f cdv))->
   ∃ t,eJ (dH fJ P w K mg base N x (aY st) f cdv A outer s H E).nox (eV st) t/\∀ xs Q,p xs Q->t { nx:=fun _=>Q .non,rt:=Q } (fD N xs)):dQ P w K mg base fJ (k+1) f fd ps (oO K p):=by
 refine F.ok S (fun vs H Q E h=>?_) (fun cdv A outer s H vs Q E hr h=>?_)
 ·obtain ⟨xs,Qp,r,q,_⟩:=h
  rw [r.length]; exact len xs Qp q
 ·obtain ⟨xs,Qp,r,q,k⟩:=h
  obtain ⟨t,ht,hq⟩:=body cdv A outer s H E hr
  refine⟨_,ht,fun _=>False,fD N xs,_,wL r,hq xs Qp q,?_,?_,?_,?_⟩
  ·exact fun W' σ' H' ρ' e px q=>k _ _ _ px.same .non q
  ·exact fun v H' x s r q=>k _ _ _ s r q
  ·exact fun W' σ' H' ρ' e px q=>q
  ·exact fun W' σ' H' ρ' e px q=>q
def sH (K:PySem.W.Frag):Sp:=fun vs H Q _=>∃ (a:Addr) (ns:List Int),vs = [.ref a]/\jH K H a ns/\ns.length<=63/\∀ H',Q (.bl true) H'
theorem aM0 {P:Program}{w:World}{K:PySem.W.Frag}{mg:Str->Option Value}{base:Heap}{k:Nat}{f:Addr}{fd:FuncData} (F:dQ P w K mg base fJ k f fd ["script"] (oO K Core.U3)):dQ P w K mg base fJ k f fd ["script"] (sH K):=
 F.imp fun vs H Q E h=>by
  obtain ⟨a,ns,rfl,hs,hl,q⟩:=h
  refine⟨[.scr ns],fun z=>z = .bl true,.cons (.scr hs) .nil,⟨ns,rfl,hl,rfl⟩,?_⟩
  rintro v H' x _ r rfl
  cases r
  exact q H'
theorem aM1 {K:PySem.W.Frag}{H:Hp}{a:Addr}{ns:List Int} (hO:qO H) (h:aT K H a (ns.map V.int)):jH K H a ns:=by
 rcases h with (h | ⟨o,h⟩) | h
 ·rcases hO a with e | ⟨o,xs,e⟩ <;> (rw [h] at e; cases e)
 ·exact .inl ⟨o,h⟩
 ·exact .inr h
end PP
namespace PyProof.Rows
open PySem
end PyProof.Rows
namespace PP
open PySem L2 PyProof.Rows
section
variable {X : Cx} {a b e : Expr} {ta tb te : aB} {tr : cP} {pos p2 : Pos}
def U4:PV->Tg->PV->Tg->PK->Prop:=fun x _ y _ Q=>∃ xs ys,x = .lst xs/\y = .lst ys/\flats xs=true/\flats ys=true/\xs.length+ys.length<=16000000/\Q (.lst (xs ++ ys)) .fr
abbrev sJ (ta tb:aB):aB:=q2 U4 ta tb
theorem aM2:dR X U4 C8:=by
 rintro W Hs H u v x y g g' Q Q' s n r1 r2 ⟨xs,ys,rfl,rfl,f1,f2,hl,q⟩ k
 obtain ⟨a,us,rfl,_,h1,q1⟩:=r1.sqL
 obtain ⟨b,ws,rfl,_,h2,q2⟩:=r2.sqL
 have l1:=q1.length
 have l2:=q2.length
 refine⟨a,b,us,ws,rfl,rfl,h1,h2,lim (by omega),fun p hp=>k _ _ _ .fr (cA hp _) (.lst (s.free hp) cH (((q1.flat f1).append (q2.flat f2)).same (cA hp _) fun _ z=>z)) q⟩
theorem x8 (ha:QE X a ta) (hb:QE X b tb):QE X (.BinOp a .Add b pos) (sJ ta tb):=jM au6 aM2 ha hb
end
end PP
namespace L2
open PySem PySem.Spec PyProof.Rows
def x9 (K:PySem.W.Frag) (a:Addr):It:=
  ⟨fun i H=>∃ xs x,aT K H a xs/\xs[i]? = some x,
   fun i H v H'=>∃ T x,H T=none/\v = .ref T/\H'=upd H T (.tup [.int i,x])/\∀ xs,aT K H a xs->xs[i]? = some x,
   fun i H=>∃ xs,aT K H a xs/\xs.length<=i⟩
structure aM3 (e it a:Addr) (i:Nat) (h:Heap):Prop where
 ee:∃ old,IsEnum h e it i old
 s1:h.IsListIter it a i
theorem aM4 {P:Program}{w:World}{K:PySem.W.Frag}{elts:List Expr}{k:Nat}{pos:Pos} (a e it:Addr) (d:e ≠ it) :
  iN P w K (.Tuple elts k pos) (x9 K a) [e,it] e (aM3 e it a):=by
 refine⟨by simp,fun i h st c hc=>?_,fun i h h' st kp=>?_,?_,?_,fun A i s Q E st q=>?_⟩
 ·simp only [bk6,bl4,bo6] at hc
  obtain ⟨old,ee⟩:=st.ee
  obtain ⟨o1,f1,g1,d1⟩:=st.s1
  rcases hc with rfl | rfl
  ·exact⟨_,ee,fun v q=>by cases q⟩
  ·exact⟨_,f1,fun v q=>by rw [d1] at q; cases q⟩
 ·obtain ⟨old,ee⟩:=st.ee
  exact⟨⟨old,kp e (by simp) _ ee⟩,st.s1.at fun o z=>kp it (by simp) o z⟩
 ·intro X hP hw hK hc i pins s σ H E I hf st hg
  subst hP hw hK
  obtain ⟨xs,x,ha,hx⟩:=hg
  obtain ⟨us,ru,pu,lu⟩:=I.list ha
  obtain ⟨ux,eux,rux⟩:=ru.get hx
  obtain ⟨old,ee⟩:=st.ee
  refine wpAny_pyNext_enum_item ee st.s1 pu.isList (by simpa using eux) d fun h' eo it' pr sz kp=>⟨_,rfl,?_⟩
  refine wpAny_letOwnedTupleGo_enum (s:={ s with heap:=h',toks:=s.toks+1 }) eo fun g zz sb=>?_
  have hzl:e < s.heap.objs.size:=bl5 ee
  have up:∀ c o,c ≠ e->c ≠ it->s.heap.get? c=some o->g.get? c=some o:=fun c o c1 c2 z=>sb.extBut c o c1 (kp c o c1 c2 z)
  have hT:H s.heap.objs.size=none:=I.hok.fresh (bl1 _)
  have prG:g.get? s.heap.objs.size=some { cls:=.type "tuple",data:=.seq #[.int i s.toks,ux] }:=sb.extBut _ _ (bu1 hzl) pr
  have fpn:∀ c u,H c=some u->c ∉ [e,it]:=fun c u z hm=>by rw [(hf c hm).1] at z; cases z
  have upH:∀ c o u,H c=some u->s.heap.get? c=some o->g.get? c=some o:=fun c o u q z=>by
   have:=fpn c u q
   simp only [bk6,bl4,bo6,not_or] at this
   exact up c o this.1 this.2 z
  have ns:∀ m,s.heap.Ns X.env.locals m->g.Ns X.env.locals m:=fun m hm=>by
   obtain ⟨o,es,ep,e1,e2⟩:=hm
   exact⟨o,es,ep,up _ o (Ne.symm (hf e (by simp)).2.1) (Ne.symm (hf it (by simp)).2.1) e1,e2⟩
  have I2:a7 X pins σ (upd H s.heap.objs.size (.tup [.int i,x])) { s with heap:=g,toks:=s.toks+1 }:=by
   refine I.step (g':=s.gens) (d':=s.drawn) (ch:=[e,it]) (fun c hc'=>?_) (fun c o _ _ hc' z _=>?_) (fun c o _ _ hc' z _=>⟨o.slots,?_⟩) (fun c o _ z n=>?_) (fun c o hc' z=>⟨o,?_⟩)
    (fun c zs z=>by rw [aZ (dG z hT)]; exact z) (fun c u zs z=>by rw [aZ (dG z hT)]; exact z) (fun c ps z=>⟨#[],by rw [aZ (dG z hT),z]; simp⟩) ns (fun c u z=>?_) I.bare
   ·exact⟨(hf c hc').2.2.2.1,(hf c hc').2.1,(hf c hc').2.2.2.2.1,(hf c hc').2.2.2.2.2⟩
   ·simp only [bk6,bl4,bo6,not_or] at hc'
    exact up c o hc'.1 hc'.2 z
   ·simp only [bk6,bl4,bo6,not_or] at hc'
    exact up c o hc'.1 hc'.2 z
   ·rw [aZ (bn9 (bl5 z))]; exact n
   ·simp only [bk6,bl4,bo6,not_or] at hc'
    exact up c o hc'.1 hc'.2 z
   ·by_cases hcT:c=s.heap.objs.size
    ·subst hcT
     rw [cH] at z; cases z
     exact⟨by show 2<=sizeLine; decide,[.int i s.toks,ux],.cons ⟨_,rfl⟩ (.cons rux .nil),⟨_,prG,rfl,_,rfl⟩,fun u e=>by rw [prG] at e; cases e; rfl⟩
    ·rw [aZ hcT] at z
     refine (I.hok c u z).stay (fun c' o' hc2 q'=>?_) (fun c' q'=>by rw [aZ (dG q' hT)]; exact q') fun c' zs q'=>by rw [aZ (dG q' hT)]; exact q'
     rcases hc2 with rfl | hc2
     ·exact upH _ _ _ z q'
     ·exact upH _ _ _ hc2 q'
  refine⟨.ref s.heap.objs.size,_,I2,rfl,⟨_,x,hT,rfl,rfl,fun xs' ha'=>?_⟩,⟨⟨ux,by push_cast; exact zz⟩,it'.at fun o z=>sb.extBut _ o (Ne.symm d) z⟩,fun c hc'=>?_⟩
  ·rw [I.list_inj ha' ha]; exact hx
  ·obtain ⟨o,z⟩:∃ o,s.heap.get? c=some o:=by
    simp only [bk6,bl4,bo6] at hc'
    obtain ⟨o1,f1,_⟩:=st.s1
    rcases hc' with rfl | rfl
    ·exact⟨_,ee⟩
    ·exact⟨_,f1⟩
   rw [aZ (bn9 (bl5 z))]; exact (hf c hc').1
 ·intro X hP hw hK hc i pins s σ H E I hf st hg
  subst hP hw hK
  obtain ⟨xs,ha,hi⟩:=hg
  obtain ⟨us,ru,pu,lu⟩:=I.list ha
  obtain ⟨old,ee⟩:=st.ee
  have hh:X.A.handled=none:=I.ok.hd hc
  have e1:=ru.length
  refine wpAny_pyNext_enum_end hh ee st.s1 pu.isList (by rw [Array.getElem?_eq_none]; simp only [bk3]; omega) fun g kp=>⟨rfl,?_⟩
  have fpn:∀ c u,H c=some u->c ∉ [e,it]:=fun c u z hm=>by rw [(hf c hm).1] at z; cases z
  have upH:∀ c o u,H c=some u->s.heap.get? c=some o->g.get? c=some o:=fun c o u q z=>by
   have:=fpn c u q
   simp only [bk6,bl4,bo6,not_or] at this
   exact kp c o this.2 z
  have ns:∀ m,s.heap.Ns X.env.locals m->g.Ns X.env.locals m:=fun m hm=>by
   obtain ⟨o,es,ep,e1,e2⟩:=hm
   exact⟨o,es,ep,kp _ o (Ne.symm (hf it (by simp)).2.1) e1,e2⟩
  refine I.step (g':=s.gens) (d':=s.drawn) (ch:=[it]) (fun c hc'=>?_) (fun c o _ _ hc' z _=>?_) (fun c o _ _ hc' z _=>⟨o.slots,?_⟩) (fun c o _ z n=>n) (fun c o hc' z=>⟨o,?_⟩)
   (fun c zs z=>z) (fun c u zs z=>z) (fun c ps z=>⟨#[],by rw [z]; simp⟩) ns (fun c u z=>?_) I.bare
  ·have hm:c ∈ [e,it]:=bl2 _ hc'
   exact⟨(hf c hm).2.2.2.1,(hf c hm).2.1,(hf c hm).2.2.2.2.1,(hf c hm).2.2.2.2.2⟩
  ·exact kp c o (fun y=>hc' (by rw [y]; simp)) z
  ·exact kp c o (fun y=>hc' (by rw [y]; simp)) z
  ·exact kp c o (fun y=>hc' (by rw [y]; simp)) z
  ·refine (I.hok c u z).stay (fun c' o' hc2 q'=>?_) (fun _ q'=>q') fun _ _ q'=>q'
   rcases hc2 with rfl | hc2
   ·exact upH _ _ _ z q'
   ·exact upH _ _ _ hc2 q'
 ·obtain ⟨old,ee⟩:=st.ee
  exact wpAny_pyIter_enum ee q
end L2
namespace Zp
open PySem PyProof.Rows
section
variable {prog : Program} {w : World} {A : Around} {E : Value → Shared → Prop} {s : Shared}
theorem aM5 {e it t:Addr}{i:Nat}{items:Array Value}{x old:Value}{Q:Option Value->Shared->Prop} (he:IsEnum s.heap e it i old) (hi:s.heap.IsTupleIter it t i) (ht:s.heap.IsTuple t items) (hx:items[i]? = some x) (ne:e ≠ it)
  (q:∀ h',IsEnumOut h' e it ((i:Int)+1) x s.heap.objs.size->h'.IsTupleIter it t (i+1)->h'.get? s.heap.objs.size=some { cls:=.type "tuple",data:=.seq #[.int i s.toks,x] }->h'.objs.size=s.heap.objs.size+1->
   (∀ b o,b ≠ e->b ≠ it->s.heap.get? b=some o->h'.get? b=some o)->Q (some (.ref s.heap.objs.size)) { s with heap:=h',toks:=s.toks+1 }):wpAny (model prog w) A (pyNext (.ref e)) Q E s:=by
 have T:s.TypeIs (.ref e) "enumerate":=⟨_,he,rfl⟩
 have slot:=PySem.F.slot_enumerate_next
 unfold pyNext
 apply bj8
 apply bB1
 apply bq6 (name:=Str.ofString "__next__") T slot
 apply br0 slot T PySem.F.entry_enumerate_next _ (PySem.F.args_enumerate_next_1 _)
 change wpAny _ _ (field (.ref e) 2 >>= _) _ _ _
 apply bj8
 refine bq5 he rfl (x:=.ref it) rfl ?_
 apply bj8
 refine G5 hi ht hx fun g1 it1 sb1=>?_
 have e1:IsEnum g1 e it i old:=sb1.extBut _ _ ne he
 change wpAny _ _ (field (.ref e) 3 >>= _) _ _ _
 apply bj8
 refine bq5 e1 rfl (x:=rawInt i) rfl ?_
 change wpAny _ _ (field (.ref e) 4 >>= _) _ _ _
 apply bj8
 refine bq5 e1 rfl (x:=.none) rfl ?_
 change wpAny _ _ (mkInt i >>= _) _ _ _
 apply bj8
 refine wpAny_mkInt ?_
 change wpAny _ _ (setField (.ref e) 3 (rawInt ((i:Int)+1)) >>= _) _ _ _
 apply bj8
 refine br8 e1 (by simp) fun g2 e2 sb2=>?_
 apply bj8
 refine br8 e2 (by simp) fun g3 e3 sb3=>?_
 have e3:IsEnum g3 e it ((i:Int)+1) old:=e3
 apply bj8
 refine wpAny_newTuple ?_ (by show 2<=sizeLine; decide)
 have e4:IsEnum (g3.push { cls:=.type "tuple",data:=.seq #[.int i s.toks,x] }) e it ((i:Int)+1) old:=bk0 _ e3
 have size:g3.objs.size=s.heap.objs.size:=by rw [sb3.1,sb2.1,sb1.1]
 change wpAny _ _ (Builtin.SmallTypes.ownedTupleIsFree (.ref e) >>= _) _ _ _
 apply bj8
 unfold Builtin.SmallTypes.ownedTupleIsFree
 apply bj8
 refine bq5 e4 rfl (x:=.none) rfl (bk2 ?_)
 simp only [if_true]
 apply bj8
 apply by6
 apply bj8
 refine bq5 e4 rfl (x:=old) rfl ?_
 apply bj8
 refine br8 e4 (by simp) fun g5 e5 sb5=>?_
 apply bj8
 unfold Builtin.SmallTypes.ownedTupleHandOut
 apply bj8
 refine br8 e5 (by simp) fun g6 e6 sb6=>?_
 refine br8 e6 (by simp) fun g7 e7 sb7=>?_
 have e7:IsEnumOut g7 e it ((i:Int)+1) x g3.objs.size:=e7
 have elt:e < g3.objs.size:=bl5 e3
 have up:∀ c o,c ≠ e->(g3.push { cls:=.type "tuple",data:=.seq #[.int i s.toks,x] }).get? c=some o->g7.get? c=some o:=fun c o c1 z=>sb7.extBut c o c1 (sb6.extBut c o c1 (sb5.extBut c o c1 z))
 have up3:∀ c o,c ≠ e->g1.get? c=some o->g7.get? c=some o:=fun c o c1 z=>up c o c1 (bk0 _ (sb3.extBut c o c1 (sb2.extBut c o c1 z)))
 have p7:g7.get? g3.objs.size=some { cls:=.type "tuple",data:=.seq #[.int i s.toks,x] }:=up _ _ (bu1 elt) (bl7 _ rfl)
 have s7:g7.objs.size=g3.objs.size+1:=by rw [sb7.1,sb6.1,sb5.1,bs8]
 apply bj8
 apply bx3
 apply bk2
 rw [size] at e7 p7 s7
 refine⟨_,rfl,bk2 ?_⟩
 change Q (some (.ref g3.objs.size)) _
 rw [size]
 exact q g7 e7 (it1.at fun o z=>up3 it o (Ne.symm ne) z) p7 s7 fun b o b1 b2 z=>up3 b o b1 (sb1.extBut b o b2 z)
theorem aM6 {e it t:Addr}{i:Nat}{items:Array Value}{old:Value}{Q:Option Value->Shared->Prop} (hh:A.handled=none) (he:IsEnum s.heap e it i old) (hi:s.heap.IsTupleIter it t i) (ht:s.heap.IsTuple t items) (hx:items[i]? = none)
  (q:∀ h',Heap.ExtBut it s.heap h'->Q none { s with heap:=h' }):wpAny (model prog w) A (pyNext (.ref e)) Q E s:=by
 have T:s.TypeIs (.ref e) "enumerate":=⟨_,he,rfl⟩
 have slot:=PySem.F.slot_enumerate_next
 unfold pyNext
 apply bj8
 apply bB1
 apply bq6 (name:=Str.ofString "__next__") T slot
 apply br0 slot T PySem.F.entry_enumerate_next _ (PySem.F.args_enumerate_next_1 _)
 change wpAny _ _ (field (.ref e) 2 >>= _) _ _ _
 apply bj8
 refine bq5 he rfl (x:=.ref it) rfl ?_
 apply bj8
 refine G6 hh hi ht hx fun g2 ex eb exo=>?_
 obtain ⟨oe,eo,co⟩:=exo
 apply bj8
 refine wpAny_isInstance (T:="StopIteration") (b:=true) ⟨oe,eo,co⟩ isSubtype_stop ?_
 exact bk2 (q g2 eb)
theorem aM7 {M:Model}{A:Around}{E:Value->Shared->Prop}{s:Shared}{α:Type}{c:Prop} [Decidable c] {m n:Sem α}{Q:α->Shared->Prop} (h1:wpAny M A m Q E s) (h2:wpAny M A n Q E s):wpAny M A (if c then m else n) Q E s:=by
 split
 ·exact h1
 ·exact h2
theorem aM8 (t:Addr) (xs:Array Value):Meets (Builtin.«enumerate.__new__» ⟨[.type "enumerate",.ref t],[]⟩) (fun _ R s=>s.heap.IsTuple t xs/\R (.ok (.ret (.ref (s.heap.objs.size+1)))) { s with heap:=(s.heap.push { cls:=.type "tuple_iterator",data:=.fields #[.ref t,.int 0 0] }).push { cls:=.type "enumerate",data:=.fields #[.none,.bool false,.ref s.heap.objs.size,rawInt 0,.none,.none] } }):=
 .of_wp fun prog w A R s h=>by
  obtain ⟨hp,g,d,tk,os⟩:=s
  obtain ⟨ht,h⟩:=h
  have sub:=sub_enumerate
  have a1:Heap.IsTuple (Shared.heap ⟨hp,g,d,tk,os⟩) t xs:=ht
  wp_walk using bx6 a1
  refine wpAny_stack_any fun st=>bk2 ?_
  refine aM7 ?_ ?_
  all_goals
   apply bj8
   refine wpAny_of_eq (a:=(Value.ref t,none)) rfl ?_
   wp_walk using bx6 a1
   have e:∀ (o:Obj) (k:Heap),(k.push o).objs.size=k.objs.size+1:=fun o k=>bs8 ..
   refine⟨_,rfl,?_⟩
   simp only [e] at h ⊢
   exact h
theorem aM9 {t:Addr}{xs:Array Value}{Q:Value->Shared->Prop} (ht:s.heap.IsTuple t xs)
  (q:∀ h',IsEnum h' (s.heap.objs.size+1) s.heap.objs.size 0 .none->h'.IsTupleIter s.heap.objs.size t 0->h'.objs.size=s.heap.objs.size+2->(∀ c o,s.heap.get? c=some o->h'.get? c=some o)->Q (.ref (s.heap.objs.size+1)) { s with heap:=h' }) :
  wpAny (model prog w) A (call (.type "enumerate") [.ref t]) Q E s:=by
 refine callType_new PySem.F.called_enumerate (by decide) (PySem.F.typeCall_enumerate_1 _) (PySem.F.newCall_enumerate_1 _) (fun obj=>PySem.F.args_object_init_2 obj _) PySem.F.entry_enumerate_new (aM8 t xs) ⟨ht,?_⟩
 have e:∀ (o:Obj) (k:Heap),(k.push o).objs.size=k.objs.size+1:=fun o k=>bs8 ..
 have g0:((s.heap.push { cls:=.type "tuple_iterator",data:=.fields #[.ref t,.int 0 0] }).push { cls:=.type "enumerate",data:=.fields #[.none,.bool false,.ref s.heap.objs.size,rawInt 0,.none,.none] }).get? s.heap.objs.size=some { cls:=.type "tuple_iterator",data:=.fields #[.ref t,.int 0 0] }:=bk0 _ (bl7 _ rfl)
 have g1:((s.heap.push { cls:=.type "tuple_iterator",data:=.fields #[.ref t,.int 0 0] }).push { cls:=.type "enumerate",data:=.fields #[.none,.bool false,.ref s.heap.objs.size,rawInt 0,.none,.none] }).get? (s.heap.objs.size+1)=some { cls:=.type "enumerate",data:=.fields #[.none,.bool false,.ref s.heap.objs.size,rawInt 0,.none,.none] }:=by
  have:=bl7 (h:=s.heap.push { cls:=.type "tuple_iterator",data:=.fields #[.ref t,.int 0 0] }) (o:={ cls:=.type "enumerate",data:=.fields #[.none,.bool false,.ref s.heap.objs.size,rawInt 0,.none,.none] }) rfl
  rw [e] at this; exact this
 exact⟨⟨_,g1,rfl⟩,q _ g1 ⟨_,g0,rfl,rfl⟩ (by rw [e,e]) fun c o z=>bk0 _ (bk0 _ z)⟩
end
end Zp
namespace L2
open PySem PySem.Spec PyProof.Rows
def xA (K:PySem.W.Frag) (a:Addr):It:=
  ⟨fun i H=>∃ xs x,aU K H a xs/\xs[i]? = some x,
   fun i H v H'=>∃ T x,H T=none/\v = .ref T/\H'=upd H T (.tup [.int i,x])/\∀ xs,aU K H a xs->xs[i]? = some x,
   fun i H=>∃ xs,aU K H a xs/\xs.length<=i⟩
structure aN0 (e it a:Addr) (i:Nat) (h:Heap):Prop where
 ee:∃ old,IsEnum h e it i old
 s1:h.IsTupleIter it a i
theorem aN1 {P:Program}{w:World}{K:PySem.W.Frag}{elts:List Expr}{k:Nat}{pos:Pos} (a e it:Addr) (d:e ≠ it) :
  iN P w K (.Tuple elts k pos) (xA K a) [e,it] e (aN0 e it a):=by
 refine⟨by simp,fun i h st c hc=>?_,fun i h h' st kp=>?_,?_,?_,fun A i s Q E st q=>?_⟩
 ·simp only [bk6,bl4,bo6] at hc
  obtain ⟨old,ee⟩:=st.ee
  obtain ⟨o1,f1,g1,d1⟩:=st.s1
  rcases hc with rfl | rfl
  ·exact⟨_,ee,fun v q=>by cases q⟩
  ·exact⟨_,f1,fun v q=>by rw [d1] at q; cases q⟩
 ·obtain ⟨old,ee⟩:=st.ee
  exact⟨⟨old,kp e (by simp) _ ee⟩,st.s1.at fun o z=>kp it (by simp) o z⟩
 ·intro X hP hw hK hc i pins s σ H E I hf st hg
  subst hP hw hK
  obtain ⟨xs,x,ha,hx⟩:=hg
  obtain ⟨us,ru,pu,lu⟩:=I.tuple ha
  obtain ⟨ux,eux,rux⟩:=ru.get hx
  obtain ⟨old,ee⟩:=st.ee
  refine Zp.aM5 ee st.s1 pu (by simpa using eux) d fun h' eo it' pr sz kp=>⟨_,rfl,?_⟩
  refine wpAny_letOwnedTupleGo_enum (s:={ s with heap:=h',toks:=s.toks+1 }) eo fun g zz sb=>?_
  have hzl:e < s.heap.objs.size:=bl5 ee
  have up:∀ c o,c ≠ e->c ≠ it->s.heap.get? c=some o->g.get? c=some o:=fun c o c1 c2 z=>sb.extBut c o c1 (kp c o c1 c2 z)
  have hT:H s.heap.objs.size=none:=I.hok.fresh (bl1 _)
  have prG:g.get? s.heap.objs.size=some { cls:=.type "tuple",data:=.seq #[.int i s.toks,ux] }:=sb.extBut _ _ (bu1 hzl) pr
  have fpn:∀ c u,H c=some u->c ∉ [e,it]:=fun c u z hm=>by rw [(hf c hm).1] at z; cases z
  have upH:∀ c o u,H c=some u->s.heap.get? c=some o->g.get? c=some o:=fun c o u q z=>by
   have:=fpn c u q
   simp only [bk6,bl4,bo6,not_or] at this
   exact up c o this.1 this.2 z
  have ns:∀ m,s.heap.Ns X.env.locals m->g.Ns X.env.locals m:=fun m hm=>by
   obtain ⟨o,es,ep,e1,e2⟩:=hm
   exact⟨o,es,ep,up _ o (Ne.symm (hf e (by simp)).2.1) (Ne.symm (hf it (by simp)).2.1) e1,e2⟩
  have I2:a7 X pins σ (upd H s.heap.objs.size (.tup [.int i,x])) { s with heap:=g,toks:=s.toks+1 }:=by
   refine I.step (g':=s.gens) (d':=s.drawn) (ch:=[e,it]) (fun c hc'=>?_) (fun c o _ _ hc' z _=>?_) (fun c o _ _ hc' z _=>⟨o.slots,?_⟩) (fun c o _ z n=>?_) (fun c o hc' z=>⟨o,?_⟩)
    (fun c zs z=>by rw [aZ (dG z hT)]; exact z) (fun c u zs z=>by rw [aZ (dG z hT)]; exact z) (fun c ps z=>⟨#[],by rw [aZ (dG z hT),z]; simp⟩) ns (fun c u z=>?_) I.bare
   ·exact⟨(hf c hc').2.2.2.1,(hf c hc').2.1,(hf c hc').2.2.2.2.1,(hf c hc').2.2.2.2.2⟩
   ·simp only [bk6,bl4,bo6,not_or] at hc'
    exact up c o hc'.1 hc'.2 z
   ·simp only [bk6,bl4,bo6,not_or] at hc'
    exact up c o hc'.1 hc'.2 z
   ·rw [aZ (bn9 (bl5 z))]; exact n
   ·simp only [bk6,bl4,bo6,not_or] at hc'
    exact up c o hc'.1 hc'.2 z
   ·by_cases hcT:c=s.heap.objs.size
    ·subst hcT
     rw [cH] at z; cases z
     exact⟨by show 2<=sizeLine; decide,[.int i s.toks,ux],.cons ⟨_,rfl⟩ (.cons rux .nil),⟨_,prG,rfl,_,rfl⟩,fun u e=>by rw [prG] at e; cases e; rfl⟩
    ·rw [aZ hcT] at z
     refine (I.hok c u z).stay (fun c' o' hc2 q'=>?_) (fun c' q'=>by rw [aZ (dG q' hT)]; exact q') fun c' zs q'=>by rw [aZ (dG q' hT)]; exact q'
     rcases hc2 with rfl | hc2
     ·exact upH _ _ _ z q'
     ·exact upH _ _ _ hc2 q'
  refine⟨.ref s.heap.objs.size,_,I2,rfl,⟨_,x,hT,rfl,rfl,fun xs' ha'=>?_⟩,⟨⟨ux,by push_cast; exact zz⟩,it'.at fun o z=>sb.extBut _ o (Ne.symm d) z⟩,fun c hc'=>?_⟩
  ·rw [I.tuple_inj ha' ha]; exact hx
  ·obtain ⟨o,z⟩:∃ o,s.heap.get? c=some o:=by
    simp only [bk6,bl4,bo6] at hc'
    obtain ⟨o1,f1,_⟩:=st.s1
    rcases hc' with rfl | rfl
    ·exact⟨_,ee⟩
    ·exact⟨_,f1⟩
   rw [aZ (bn9 (bl5 z))]; exact (hf c hc').1
 ·intro X hP hw hK hc i pins s σ H E I hf st hg
  subst hP hw hK
  obtain ⟨xs,ha,hi⟩:=hg
  obtain ⟨us,ru,pu,lu⟩:=I.tuple ha
  obtain ⟨old,ee⟩:=st.ee
  have hh:X.A.handled=none:=I.ok.hd hc
  have e1:=ru.length
  refine Zp.aM6 hh ee st.s1 pu (by rw [Array.getElem?_eq_none]; simp only [bk3]; omega) fun g kp=>⟨rfl,?_⟩
  have fpn:∀ c u,H c=some u->c ∉ [e,it]:=fun c u z hm=>by rw [(hf c hm).1] at z; cases z
  have upH:∀ c o u,H c=some u->s.heap.get? c=some o->g.get? c=some o:=fun c o u q z=>by
   have:=fpn c u q
   simp only [bk6,bl4,bo6,not_or] at this
   exact kp c o this.2 z
  have ns:∀ m,s.heap.Ns X.env.locals m->g.Ns X.env.locals m:=fun m hm=>by
   obtain ⟨o,es,ep,e1,e2⟩:=hm
   exact⟨o,es,ep,kp _ o (Ne.symm (hf it (by simp)).2.1) e1,e2⟩
  refine I.step (g':=s.gens) (d':=s.drawn) (ch:=[it]) (fun c hc'=>?_) (fun c o _ _ hc' z _=>?_) (fun c o _ _ hc' z _=>⟨o.slots,?_⟩) (fun c o _ z n=>n) (fun c o hc' z=>⟨o,?_⟩)
   (fun c zs z=>z) (fun c u zs z=>z) (fun c ps z=>⟨#[],by rw [z]; simp⟩) ns (fun c u z=>?_) I.bare
  ·have hm:c ∈ [e,it]:=bl2 _ hc'
   exact⟨(hf c hm).2.2.2.1,(hf c hm).2.1,(hf c hm).2.2.2.2.1,(hf c hm).2.2.2.2.2⟩
  ·exact kp c o (fun y=>hc' (by rw [y]; simp)) z
  ·exact kp c o (fun y=>hc' (by rw [y]; simp)) z
  ·exact kp c o (fun y=>hc' (by rw [y]; simp)) z
  ·refine (I.hok c u z).stay (fun c' o' hc2 q'=>?_) (fun _ q'=>q') fun _ _ q'=>q'
   rcases hc2 with rfl | hc2
   ·exact upH _ _ _ z q'
   ·exact upH _ _ _ hc2 q'
 ·obtain ⟨old,ee⟩:=st.ee
  exact wpAny_pyIter_enum ee q
section
variable {X : Cx}
def U5 (K:PySem.W.Frag) (ta:TA):TI:=fun σ H R=>ta σ H fun vs H1=>∃ a,vs = [.ref a]/\((∃ xs,aT K H1 a xs/\R (x9 K a) H1) ∨ (∃ xs,aU K H1 a xs/\R (xA K a) H1))
theorem aN2 {elts:List Expr}{kt:Nat}{pt:Pos}{a:Expr}{ta:TA}{p pos:Pos} (hg:Gl X "enumerate") (hm:X.mg "enumerate" = none) (ha:PA X [a] ta) (hs:starEach [a] X.env = [(false,eval a X.env)]:=by rfl) :
  PI X (.Tuple elts kt pt) (.Call (.Name "enumerate" p) [a] [] pos) (U5 X.K ta):=by
 intro pins s σ H R I h
 refine Call_ (kW I hg hm PyProof.Rows.boot_enumerate (bw6 (aL (ha pos pins s σ H _ I h) fun us s1 ⟨vs,H1,I1,r1,q1⟩=>?_) (by rw [hs]; rfl) (by rfl)))
 obtain ⟨a',e,q⟩:=q1
 subst e
 have fresh:∀ k,H1 (s1.heap.objs.size+k)=none:=fun k=>I1.hok.fresh (bv2 _ _)
 cases r1 with
 | cons r rr=>
  cases rr
  cases r
  rcases q with ⟨xs,h1,q⟩ | ⟨xs,h1,q⟩
  ·obtain ⟨us,_,p1,_⟩:=I1.list h1
   refine call_enumerate_list p1.isList fun h' z s1' sz kp=>wpAny_pyIter_enum z ?_
   refine⟨s1.heap.objs.size+1,[s1.heap.objs.size+1,s1.heap.objs.size],_,_,H1,rfl,I1.kept (t':=s1.toks) kp,
    aM4 a' _ _ (Nat.succ_ne_self _),⟨⟨_,z⟩,s1'⟩,fun c hc=>?_,q⟩
   simp only [bk6,bl4,bo6] at hc
   rcases hc with rfl | rfl
   ·exact I1.fpOk (bv2 _ _) (fresh 1)
   ·exact I1.fpOk (bl1 _) (fresh 0)
  ·obtain ⟨us,_,p1,_⟩:=I1.tuple h1
   refine Zp.aM9 p1 fun h' z s1' sz kp=>wpAny_pyIter_enum z ?_
   refine⟨s1.heap.objs.size+1,[s1.heap.objs.size+1,s1.heap.objs.size],_,_,H1,rfl,I1.kept (t':=s1.toks) kp,
    aN1 a' _ _ (Nat.succ_ne_self _),⟨⟨_,z⟩,s1'⟩,fun c hc=>?_,q⟩
   simp only [bk6,bl4,bo6] at hc
   rcases hc with rfl | rfl
   ·exact I1.fpOk (bv2 _ _) (fresh 1)
   ·exact I1.fpOk (bl1 _) (fresh 0)
end
end L2
namespace PP
open PySem L2 PyProof.Rows
def jW (xs:List PV):List PV:=xs.mapIdx fun i x=>PV.tup [.int (i:Int),x]
theorem xB (xs:List PV):(jW xs).length=xs.length:=by unfold jW; rw [List.length_mapIdx]
theorem U6 {xs:List PV}{i:Nat}{x:PV} (h:xs[i]? = some x):(jW xs)[i]? = some (.tup [.int (i:Int),x]):=by
 unfold jW; rw [List.getElem?_mapIdx,h]; rfl
theorem aN3 {xs:List PV}{i:Nat}{z:PV} (h:(jW xs)[i]? = some z):∃ x,xs[i]? = some x/\z = .tup [.int (i:Int),x]:=by
 unfold jW at h
 rw [List.getElem?_mapIdx] at h
 cases e:xs[i]? with
 | none=>rw [e] at h; cases h
 | some x=>rw [e] at h; exact⟨x,rfl,(bn1 h).symm⟩
def xC (te:aB):fB:=fun ρ Q=>te ρ fun x g=>∃ xs,(x = .lst xs ∨ x = .tup xs)/\(g = .rd->flat x=true)/\Q (jW xs) (rC g xs)
theorem aN4 {K:PySem.W.Frag}{H0:Hp}{W:Addr->Prop}{g:Bool}{H1:Hp}{a:Addr}{us:List V}{xs:List PV} (tw:∀ a,W a->∃ o,H1 a=some o/\fY o=true) (ha:∀ W' H',Ev W H1 W' H'->aT K H' a us) (r:Reps K (Ms H0 W g) H1 us xs):kF K H0 W g H1 (x9 K a) (jW xs):=by
 have lr:=r.length
 have ll:=xB xs
 refine⟨fun W' H' i e hi=>⟨us,us[i]'(by omega),ha W' H' e,by simp⟩,fun W' H' i v H2 e y hi=>?_,fun W' H' e=>⟨us,ha W' H' e,by omega⟩⟩
 obtain ⟨T,x,hT,rfl,rfl,y⟩:=y
 obtain ⟨z,hz,rz⟩:=r.get (y us (ha W' _ e))
 have sm:=cA hT (HO.tup [.int (i:Int),x])
 exact⟨sm,_,U6 hz,.tup cH (.cons (.int _) (.cons ((rz.keep (e.keep tw)).same sm fun _ q=>q) .nil))⟩
theorem aN5 {K:PySem.W.Frag}{H0:Hp}{W:Addr->Prop}{g:Bool}{H1:Hp}{a:Addr}{us:List V}{xs:List PV} (tw:∀ a,W a->∃ o,H1 a=some o/\fY o=true) (ha:∀ W' H',Ev W H1 W' H'->aU K H' a us) (r:Reps K (Ms H0 W g) H1 us xs):kF K H0 W g H1 (xA K a) (jW xs):=by
 have lr:=r.length
 have ll:=xB xs
 refine⟨fun W' H' i e hi=>⟨us,us[i]'(by omega),ha W' H' e,by simp⟩,fun W' H' i v H2 e y hi=>?_,fun W' H' e=>⟨us,ha W' H' e,by omega⟩⟩
 obtain ⟨T,x,hT,rfl,rfl,y⟩:=y
 obtain ⟨z,hz,rz⟩:=r.get (y us (ha W' _ e))
 have sm:=cA hT (HO.tup [.int (i:Int),x])
 exact⟨sm,_,U6 hz,.tup cH (.cons (.int _) (.cons ((rz.keep (e.keep tw)).same sm fun _ q=>q) .nil))⟩
section
variable {X : Cx} {σ : L2.St} {H : Hp} {te : aB} {R : It → Hp → Prop}
theorem aN6 (h:LI X (xC te) σ H R):U5 X.K (kA (LE X te) kZ) σ H R:=by
 obtain ⟨W,ρ,Q,px,q,k⟩:=h
 refine⟨W,ρ,_,px,q,?_⟩
 rintro v H1 x g s r ⟨xs,hx,hg,q⟩
 have px1:=px.mono s
 have tw:∀ a,W a->∃ o,H1 a=some o/\fY o=true:=fun a z=>(px1.wm a z).2
 rcases hx with rfl | rfl
 ·obtain ⟨a,us,rfl,m,h,r⟩:=r.sqL
  have wa : ¬ W a:=by
   cases g with
   | fr=>exact (px.new m).1
   | nw=>exact m.1
   | sh=>exact m
   | rd=>have:=hg rfl; unfold flat at this; cases this
  exact⟨a,rfl,.inl ⟨us,aT.of h,k _ _ _ _ s (aN4 tw (fun W' H' e=>aT.of (e _ _ h wa).1) (mX px (fun z=>by have:=hg z; unfold flat at this; cases this) r)) q⟩⟩
 ·obtain ⟨a,us,rfl,h,r⟩:=r.sqT
  refine⟨a,rfl,.inr ⟨us,aU.of h,k _ _ _ _ s (aN5 tw (fun W' H' e=>aU.of (e _ _ h fun z=>?_).1) (mX px (fun z=>by have:=hg z; unfold flat at this; exact this) r)) q⟩⟩
  obtain ⟨o,h',mu⟩:=tw _ z; rw [h] at h'; cases h'; cases mu
theorem aN7 {elts:List Expr}{kt:Nat}{pt p2 pos:Pos}{a:Expr}{ta:aB} (hg:Gl X "enumerate") (hm:X.mg "enumerate" = none) (ha:QE X a ta) (hs:starEach [a] X.env = [(false,eval a X.env)]:=by rfl):QI X (.Tuple elts kt pt) (.Call (.Name "enumerate" p2) [a] [] pos) (xC ta):=
 rH (aN2 hg hm (fV ha iO hs) hs) fun _ _ _=>aN6
end
section
variable {X : Cx} {e : Expr} {te : aB} {pos p2 : Pos} {scope : Scope} {N : List Str} {fr : List (Option Nat)} {x y : Str} {tp xp yp : Pos} {kt : Nat} {iter elt : Expr} {ti : fB}
abbrev xD (x y:Str) (xp yp:Pos) (kt:Nat) (tp:Pos):Expr:=.Tuple [.Name x xp,.Name y yp] kt tp
theorem aN8 {ifs:List Expr}{tcs:cN} (hc:X.calm=true) (he:∀ (s:Shared) (H:Hp) (C:Addr) (fp:List Addr),QE (cI X scope N s H C fp dF) elt te) (hi:∀ (s:Shared) (H:Hp) (C:Addr) (fp:List Addr),lA (cI X scope N s H C fp dF) ifs (LT (cI X scope N s H C fp dF) tcs))
  (hN:N.Nodup) (h0:N[0]? = some x) (h1:N[1]? = some y) (hl:∀ (s:Shared) (H:Hp) (C:Addr) (fp:List Addr),(cI X scope N s H C fp dF).env.scope.names.lookup x=some .local) (hl2:∀ (s:Shared) (H:Hp) (C:Addr) (fp:List Addr),(cI X scope N s H C fp dF).env.scope.names.lookup y=some .local) (s:Shared) (H:Hp) :
  oG X scope N (xD x y xp yp kt tp) ifs elt s H (mM X.K 2 (gF (dA 0) (gF (dA 1) mL))) (LT (X.frm H) tcs) (LE (X.frm H) te):=
 ⟨fun C fp=>qE (X:=cI X scope N s H C fp dF) hc (iM (gS hN h0 (.inl (hl s H C fp)) (.inr (hl s H C fp))) (iM (gS hN h1 (.inl (hl2 s H C fp)) (.inr (hl2 s H C fp))) qD)),fun C fp=>hi s H C fp,fun C fp=>he s H C fp⟩
theorem xE (hi:QI X (xD x y xp yp kt tp) iter ti) (he:∀ (s:Shared) (H:Hp) (C:Addr) (fp:List Addr),QE (cI X scope N s H C fp dF) elt te)
  (hc:X.calm=true:=by rfl) (S:eW X scope N fr:=by exact eW.of rfl rfl) (hN:N.Nodup:=by decide +kernel) (h0:N[0]? = some x:=by rfl) (h1:N[1]? = some y:=by rfl) (hl:∀ (s:Shared) (H:Hp) (C:Addr) (fp:List Addr),(cI X scope N s H C fp dF).env.scope.names.lookup x=some .local:=by intro _ _ _ _; rfl) (hl2:∀ (s:Shared) (H:Hp) (C:Addr) (fp:List Addr),(cI X scope N s H C fp dF).env.scope.names.lookup y=some .local:=by intro _ _ _ _; rfl) (hf:fr[0]? = some none:=by rfl) (hf2:fr[1]? = some none:=by rfl)
  (hs:∀ x,foldedSetIterable iter X.env x=pure x:=by intro _; rfl):QE X (.ListComp elt [⟨xD x y xp yp kt tp,iter,[],0⟩] scope pos) (hJ ti fr (gN 0 1) g9 te):=
 cK (vC (gh:=fun _=>mM X.K 2 (gF (dA 0) (gF (dA 1) mL))) (tch:=fun H=>LT (X.frm H) g9) (teh:=fun H=>LE (X.frm H) te) hc S hi (aN8 hc he (fun _ _ _ _=>O1) hN h0 h1 hl hl2) hs) fun _ _ _=>rE (vW _ 0 1) (fun i e=>by rcases e with e | e <;> (subst e; assumption))
end
section
variable {X : Cx} {a b e o f : Expr} {ta tb te td tk tx : aB} {pos p2 apos cpos : Pos} {σ : L2.St} {H : Hp} {Q' : VK}
theorem U7 {x:Str}{n:Int}{t:Nat} (hg:Gl X x) (hm:X.mg x=some (.int n t)) (hd:(x == ("__debug__" : Str))=false:=by decide):QE X (.Name x pos) (qC (.int n)):=
 cK (z9 (v:=.int n) hg hm ⟨t,rfl⟩ hd) fun _ _ _=>oI fun _=>.int n
end
end PP
namespace Core
open PySem L2 PP
section
variable {ws : List Int} {ls : List (Int × Int)} {os ns : List Int}
def aN9 (ws:List Int) (ls:List (Int × Int)) (T:List Int):Prop:=∀ h ∈ rng ws.length,kin ws ls T h=false
end
theorem xF {i:Nat}{h:Int}{g:Bool}{ρ:bC}{Q:bC->Prop} (q:Q (ρ.set i (some (.sh true (.int h))))):cQ i (.int h) g ρ Q:=by
 show Q (ρ.set i (some (.sh (g || true) (.int h))))
 rw [Bool.or_true]; exact q
def aO0 (ns S:List Int):Int:=(ns.length:Int) - (((ns.filter fun x=>decide (x ∈ S)).length:Nat):Int)
def aO1 (ws:List Int) (ls:List (Int × Int)) (S:List Int) (h:Int):Bool:=decide (aO0 (vI ls h) S < ws.getD h.toNat 0)
def stay (ws:List Int) (ls:List (Int × Int)) (S:List Int):List Int:=S.filter (aO1 ws ls S)
end Core
namespace Raw
open PySem PySem.W PyProof.Rows
section
variable {prog : Program} {w : World} {A : Around} {E : Value → Shared → Prop} {s : Shared} {T : String} {r d : Addr} {n : Nat} {P : Nat → Value → Prop} {OK : Heap → Prop}
theorem aO2 {R:Result->Shared->Prop} (K:KdlSrc prog w T r d n P OK) (hh:A.handled=none) (hok:OK s.heap) (hn:n<=sizeLine)
  (hR:∀ h' tk acc c,(∀ b o,b ≠ s.heap.objs.size->(s.heap.push { cls:=.type "list",data:=.seq ([]:List Value).toArray }).get? b=some o->h'.get? b=some o)->h'.get? s.heap.objs.size=some { cls:=.type "list",dict:=none,data:=.seq acc c,slots:=#[] }->ItemsOf P acc n->R (.ok (.ret (.ref s.heap.objs.size))) { s with heap:=h',toks:=tk }) :
  codeAny (model prog w) A (.builtin "proto.collect" ⟨[.ref r],[]⟩) R s:=by
 have lt:=K.there _ hok
 refine bu9 PySem.F.entry_proto_collect ?_
 rw [br5 PySem.F.plain_proto_collect _]
 show wpAny _ A.in1 (newList [] >>= fun l=>again (.builtin "list.__iadd__" ⟨[l,.ref r],[]⟩)) _ _ s
 refine bj8 (bp0 ?_)
 refine bk2 ⟨bw7 PySem.F.plain_list_iadd _,bu9 PySem.F.entry_list_iadd ?_⟩
 rw [br5 PySem.F.plain_list_iadd _]
 show wpAny _ A.in1 (Builtin.List.listExtendWith (.ref s.heap.objs.size) (.ref r) (.ref s.heap.objs.size)) _ _ _
 exact kdl_extend (s:={ s with heap:=s.heap.push { cls:=.type "list",data:=.seq ([]:List Value).toArray } }) (R:=R) K hh (K.keep _ _ hok fun b _ o e=>bk0 _ e) s.heap.objs.size (bu1 lt.1) (bu1 lt.2) _ 0 (bl7 _ rfl) hR hn
theorem aO3 {Q:List Value->Shared->Prop} (K:KdlSrc prog w T r d n P OK) (hh:A.handled=none) (hok:OK s.heap) (hn:n<=sizeLine)
  (hQ:∀ h' tk acc,(∀ b o,s.heap.get? b=some o->h'.get? b=some o)->s.heap.objs.size<=h'.objs.size->ItemsOf P acc n->Q acc.toList { s with heap:=h',toks:=tk }) :
  wpAny (model prog w) A (collect (.ref r)) Q E s:=by
 unfold collect
 refine bj8 (wpAny_runValue (aO2 (s:=s) K hh hok hn fun h' tk acc c kp at1 it=>?_))
 show wpAny _ A (load s.heap.objs.size >>= _) _ _ _
 refine bj8 (wpAny_load at1 ?_)
 exact bk2 (hQ h' tk acc (fun b o e=>kp b o (bn9 (bl5 e)) (bk0 _ e)) (bw8 (bl5 at1)) it)
end
end Raw
namespace Core
open PySem L2 PP
def aO4 (rs:List (List Int)) (h:Int):Option Nat:=rs.findIdx? fun r=>decide (h ∈ r)
def xG (rs:List (List Int)) (k:Nat) (o:Int):Bool:=match aO4 rs o with
 | some j=>decide (j < k)
 | none=>false
theorem aO5 {xs:List PV}{w:Int} (h:0<=w):jL xs none (some w)=xs.take w.toNat:=by
 unfold jL
 rw [HT.ar6,List.drop_zero,Nat.sub_zero]
 have:HT.b6 xs.length xs.length (some w)=min w.toNat xs.length:=by
  show (if w < 0 then (w+(xs.length:Int)).toNat else min w.toNat xs.length)=_
  rw [if_neg (by omega)]
 rw [this,<- List.take_take,bp2]
end Core
namespace PP
open PySem L2 PyProof.Rows
def iY (xs ys:List PV):List PV:=List.zipWith (fun x y=>PV.tup [x,y]) xs ys
theorem xH (xs ys:List PV):(iY xs ys).length=min xs.length ys.length:=by unfold iY; rw [List.length_zipWith]
theorem U8 {xs ys:List PV}{i:Nat}{x y:PV} (h:xs[i]? = some x) (h':ys[i]? = some y):(iY xs ys)[i]? = some (.tup [x,y]):=by
 unfold iY; rw [List.getElem?_zipWith,h,h']
theorem aO6 {xs ys:List PV}{i:Nat}{z:PV} (h:(iY xs ys)[i]? = some z):∃ x y,xs[i]? = some x/\ys[i]? = some y/\z = .tup [x,y]:=by
 unfold iY at h
 rw [List.getElem?_zipWith] at h
 cases e:xs[i]? with
 | none=>rw [e] at h; cases h
 | some x=>
  cases e':ys[i]? with
  | none=>rw [e,e'] at h; cases h
  | some y=>rw [e,e'] at h; exact⟨x,y,rfl,rfl,(bn1 h).symm⟩
theorem aO7 {K:PySem.W.Frag}{H0:Hp}{W:Addr->Prop}{g:Bool}{H1:Hp}{a b:Addr}{us vs:List V}{xs ys:List PV} (tw:∀ a,W a->∃ o,H1 a=some o/\fY o=true) (ha:∀ W' H',Ev W H1 W' H'->aU K H' a us) (hb:∀ W' H',Ev W H1 W' H'->aU K H' b vs)
  (r:Reps K (Ms H0 W g) H1 us xs) (r':Reps K (Ms H0 W g) H1 vs ys):kF K H0 W g H1 (vK K a b) (iY xs ys):=by
 have lr:=r.length
 have lr':=r'.length
 have ll:=xH xs ys
 refine⟨fun W' H' i e hi=>⟨us,vs,us[i]'(by omega),vs[i]'(by omega),ha W' H' e,hb W' H' e,by simp,by simp⟩,fun W' H' i v H2 e y hi=>?_,fun W' H' e=>⟨us,vs,ha W' H' e,hb W' H' e,by omega⟩⟩
 obtain ⟨T,x,y',hT,rfl,rfl,y⟩:=y
 obtain ⟨h1,h2⟩:=y us vs (ha W' _ e) (hb W' _ e)
 obtain ⟨z,hz,rz⟩:=r.get h1
 obtain ⟨z',hz',rz'⟩:=r'.get h2
 have sm:=cA hT (HO.tup [x,y'])
 exact⟨sm,_,U8 hz hz',.tup cH (.cons ((rz.keep (e.keep tw)).same sm fun _ q=>q) (.cons ((rz'.keep (e.keep tw)).same sm fun _ q=>q) .nil))⟩
end PP
namespace Core
open PySem L2 PP
theorem qT {ls:List (Int × Int)}{wts:List Int} (e:wts.length=ls.length):(ls.zip wts).map (·.2)=wts:=by
 rw [List.map_snd_zip]; omega
section
variable {ws : List Int} {ls : List (Int × Int)} {ns wts : List Int} {m : Nat}
def loose (ls:List (Int × Int)) (wts ns:List Int):List ((Int × Int) × Int):=(ls.zip wts).filter fun z=>!(decide (z.1.1 ∈ ns) && decide (z.1.2 ∈ ns))
end
end Core
namespace PP
open PySem L2 PyProof.Rows
section
variable {X : Cx} {a b e : Expr} {ta tb te : aB} {D : cZ} {σ : L2.St} {H : Hp} {pos p2 : Pos}
def nO (p:iE) (te:aB):aP:=fun D ρ=>te ρ fun x g=>vR g x/\p x (vQ g x) ρ fun ρ2=>D.nx ρ2
theorem U9 {p:iE}{g:TG}{own:Nat->Prop} (hg:lF X.K own p g) (h:LS X (nO p te) D σ H):mO (LE X te) g D σ H:=by
 obtain ⟨W,ρ,D',px,q,k⟩:=h
 refine⟨W,ρ,_,px,q,?_⟩
 rintro v H1 x gt s r ⟨st,q⟩
 refine hg X.H₀ W σ ρ H1 v x _ _ _ (px.mono s) (J6 px st r) q fun σ' ρ' px' _ _ q'=>?_
 exact k.nx W σ' H1 ρ' (Ev.same s) px' q'
theorem V0 (i j:Nat) {x y:Str}{tp xp yp:Pos}{kt:Nat} (hN:X.N.Nodup) (he:QE X e te) (hx:X.N[i]? = some x:=by rfl) (hy:X.N[j]? = some y:=by rfl) (hlx:gR X.env.scope x:=by first | exact Or.inl rfl | exact Or.inr rfl) (hly:gR X.env.scope y:=by first | exact Or.inl rfl | exact Or.inr rfl)
  (hfx:X.fn x=true ∨ X.env.scope.names.lookup x=some .local:=by first | exact .inl rfl | exact .inr rfl) (hfy:X.fn y=true ∨ X.env.scope.names.lookup y=some .local:=by first | exact .inl rfl | exact .inr rfl) (hc:X.calm=true:=by rfl)
  (hs:swapsWithSole [.Tuple [.Name x xp,.Name y yp] kt tp] e pos.line X.env=pure false:=by rfl) (hw:swappedStores [.Tuple [.Name x xp,.Name y yp] kt tp] e X.env=pure none:=by rfl):QS X (.Assign [.Tuple [.Name x xp,.Name y yp] kt tp] e pos) (nO (gN i j) te):=by
 have g:PG X (.Tuple [.Name x xp,.Name y yp] kt tp) (mM X.K 2 (gF (dA i) (gF (dA j) mL))):=qE hc (iM (gS hN hx hlx hfx) (iM (gS hN hy hly hfy) qD))
 exact dZ (zK he g hs hw) fun _ _ _=>U9 (vW _ i j)
end
end PP
set_option maxHeartbeats 1000000
set_option maxHeartbeats 1000000
set_option maxHeartbeats 1000000
set_option maxHeartbeats 1000000
namespace PP
open PySem L2 PyProof.Rows
abbrev eB:=(Str->Prop)->bS
def EX (K:PySem.W.Frag) (H0:Hp) (Ep:Str->Prop):XK:=fun c d H'=>d=none/\aE H0 H'/\∃ n C,c = .ref C/\PySem.W.nsIn K mainGlobals n=some (some (.ref C))/\Ep n
def V1 (K:PySem.W.Frag) (p:eB):Sp:=fun vs H Q E=>∃ xs Qp Ep,Reps K (fun _=>True) H vs xs/\p Ep xs Qp/\(∀ v H' x,aE H H'->aD K (fun a=>H a=none) H' v x->Qp x->Q v H')/\
 ∀ n C H',aE H H'->PySem.W.nsIn K mainGlobals n=some (some (.ref C))->Ep n->E (.ref C) none H'
structure bX (P:Program) (w:World) (K:PySem.W.Frag) (mg:Str->Option Value) (base:Heap) (k:Nat) (x:Str) (ps:List Str) (p:eB):Prop where
 ex:∃ f fd,dQ P w K mg base (e9 P w) k f fd ps (V1 K p)/\jB K fd ps []/\PySem.W.keepIn K (.ref f)=true/\mg x=some (.ref f)
section
variable {X : Cx} {σ : L2.St} {H : Hp} {D : cZ} {tr : cP} {Q' : VK} {a b c e : Expr} {es : List Expr} {pos p2 cp np hp : Pos} {t : aP} {te : aB} {tc : cN}
def iZ (Ep:Str->Prop) (p:eB) (t:cP):aB:=aG (p Ep) t
theorem V2 {p:eB}{Ep:Str->Prop} (h:LE X (iZ Ep p tr) σ H Q'):uL (V1 X.K p) [] (EX X.K X.H₀ Ep) (LA X tr) σ H Q':=by
 obtain ⟨W,ρ,Q,px,q,k⟩:=h
 refine⟨W,ρ,_,px,q,fun vs H1 xs s1 r1 q1=>⟨_,_,Ep,by rw [bo5]; exact r1.any,q1,fun v H' x s2 r2 q2=>k v H' x .fr (s1.trans s2) (r2.same (aE.refl _) fun _ z=>s1.free z) q2,fun n C H' s2 z1 z2=>⟨rfl,(px.same.trans s1).trans s2,n,C,rfl,z1,z2⟩⟩⟩
theorem kJ {Ep:Str->Prop}{k j:Nat}{x:Str}{ps:List Str}{p:eB} (hX:nM X (EX X.K X.H₀ Ep)) (d:bX X.prog X.w X.K X.mg X.base k x ps p) (hr:cE j X.A) (ha:QA X (e :: es) tr) (hkj:k<=j:=by decide) (hg:Gl X x:=by rfl) (hdb:(x == ("__debug__" : Str))=false:=by decide)
  (he:starEach (e :: es) X.env=(false,eval e X.env) :: starEach es X.env:=by rfl) (hpl:(backTo pos (starEach es X.env)).any (·.1)=false:=by rfl):QE X (.Call (.Name x p2) (e :: es) [] pos) (iZ Ep p tr):=by
 obtain ⟨f,fd,F,b,kp,m⟩:=d.ex
 exact cK (uM F (hr.mono hkj) hg m kp b .nil hX.pass ha hdb he hpl) fun _ _ _=>V2
theorem V3 {k j:Nat}{x:Str}{ps:List Str}{p:eB} (d:bX X.prog X.w X.K X.mg X.base k x ps p) (hr:cE j X.A) (ha:QA X (e :: es) tr) (hkj:k<=j:=by decide) (hg:Gl X x:=by rfl) (hdb:(x == ("__debug__" : Str))=false:=by decide)
  (he:starEach (e :: es) X.env=(false,eval e X.env) :: starEach es X.env:=by rfl) (hpl:(backTo pos (starEach es X.env)).any (·.1)=false:=by rfl):QE X (.Call (.Name x p2) (e :: es) [] pos) (aG (p fun _=>False) tr):=by
 obtain ⟨f,fd,F,b,kp,m⟩:=d.ex
 refine cK (uM F (E:=EX X.K X.H₀ fun _=>False) (hr.mono hkj) hg m kp b .nil (fun _ _ _ _ _ _ _ h=>?_) ha hdb he hpl) fun _ _ _ h=>V2 (Ep:=fun _=>False) h
 obtain ⟨_,_,_,_,_,_,_,_,_,_,_,_,z⟩:=h
 exact z.elim
def lW (Ep:Str->Prop) (n:Str) (t:cP):aP:=fun _ ρ=>t ρ fun xs=>xs.length<=1000/\Ep n
theorem aO8 {Ep:Str->Prop}{n:Str}{C:Addr} (hn:PySem.W.nsIn X.K mainGlobals n=some (some (.ref C))) (h:LS X (lW Ep n tr) D σ H):R7 (EX X.K X.H₀ Ep) C (LA X tr) D σ H:=by
 obtain ⟨W,ρ,D',px,q,k⟩:=h
 exact⟨W,ρ,_,px,q,fun vs H1 xs s1 r z=>⟨by rw [r.length]; exact qZ z.1,rfl,px.same.trans s1,n,C,rfl,hn,z.2⟩⟩
structure Xc (K:PySem.W.Frag) (mg:Str->Option Value) (base:Heap) (n:Str):Prop where
 ex:∃ C B newId initId bm,OwnCls n C bm newId mg base/\ExcBaseFacts B newId initId bm/\PySem.W.nsIn K mainGlobals n=some (some (.ref C))
theorem pM {Ep:Str->Prop}{n:Str} (hX:nM X (EX X.K X.H₀ Ep)) (x:Xc X.K X.mg X.base n) (ha:QA X (e :: es) tr) (hc:X.calm=true:=by rfl) (hg:Gl X n:=by rfl) (hd:(n == ("__debug__" : Str))=false:=by decide)
  (he:starEach (e :: es) X.env=(false,eval e X.env) :: starEach es X.env:=by rfl) (hpl:(backTo cp (starEach es X.env)).any (·.1)=false:=by rfl):QS X (.Raise (some (.Call (.Name n np) (e :: es) [] cp)) none pos) (lW Ep n tr):=by
 obtain ⟨C,B,newId,initId,bm,O,FB,hn⟩:=x.ex
 exact dZ (aJ0 hX hc O FB ha hg hd he hpl) fun _ _ _=>aO8 hn
abbrev jX:=kD->(Str->Prop)->bC->Prop
def LB (X:Cx) (t:jX):TB:=fun D Ex σ H=>∃ (W:Addr->Prop) (ρ:bC) (D':kD) (Ep:Str->Prop),PX X.K X.H₀ W σ ρ H/\t D' Ep ρ/\oJ X W H D' D/\∀ n C H',aE H H'->PySem.W.nsIn X.K mainGlobals n=some (some (.ref C))->Ep n->Ex (.ref C) none H'
def QB (X:Cx) (sts:List Stmt) (t:jX):Prop:=PB X sts (LB X t)
theorem V4 {sts:List Stmt}{t t':TB} (h:PB X sts t) (m:∀ D Ex σ H,t' D Ex σ H->t D Ex σ H):PB X sts t':=fun pins s σ H D Ex I q=>h pins s σ H D Ex I (m D Ex σ H q)
def xI (p:eB) (t:cP):jX:=fun D Ep ρ=>t ρ fun xs=>p Ep (xs.map (·.1)) fun _=>D.nx ρ
def V5 (c:cN) (t u:jX):jX:=fun D Ep ρ=>c ρ fun b=>if b=true then t D Ep ρ else u D Ep ρ
theorem V6 {k j:Nat}{x:Str}{ps:List Str}{p:eB} (d:bX X.prog X.w X.K X.mg X.base k x ps p) (hr:cE j X.A) (ha:∀ E,QA (X.wish E) (e :: es) tr) (hkj:k<=j:=by decide) (hg:Gl X x:=by rfl) (hdb:(x == ("__debug__" : Str))=false:=by decide)
  (he:starEach (e :: es) X.env=(false,eval e X.env) :: starEach es X.env:=by rfl) (hpl:(backTo cp (starEach es X.env)).any (·.1)=false:=by rfl) (hsw:swapsWith (.Call (.Name x p2) (e :: es) [] cp) none pos.line X.env=pure false:=by rfl):QB X [.Expr (.Call (.Name x p2) (e :: es) [] cp) pos] (xI p tr):=by
 obtain ⟨f,fd,F,b,kp,m⟩:=d.ex
 refine V4 (aJ5 (t:=LA X tr) F (hr.mono hkj) hg m kp b (fun E=>ha E) hdb he hpl hsw) fun D Ex σ H h=>?_
 obtain ⟨W,ρ,D',Ep,px,q,k,ke⟩:=h
 exact⟨W,ρ,_,px,q,fun vs H1 xs s1 r q1=>⟨_,_,Ep,r.any,q1,fun v H' x s2 r2 q2=>k.nx W σ H' ρ (Ev.same (s1.trans s2)) (px.mono (s1.trans s2)) q2,fun n C H' s2 z1 z2=>ke n C H' (s1.trans s2) z1 z2⟩⟩
theorem aO9 {sa sb:List Stmt}{tb ub:jX} (hc:∀ E,QT (X.wish E) c tc) (ha:QB X sa tb) (hb:QB X sb ub):QB X [.If c sa sb pos] (V5 tc tb ub):=by
 refine V4 (aJ6 (tc:=LT X tc) (fun E=>hc E) ha hb) fun D Ex σ H h=>?_
 obtain ⟨W,ρ,D',Ep,px,q,k,ke⟩:=h
 refine⟨W,ρ,_,px,q,fun b H1 s1 q1=>?_⟩
 have ke':∀ n C H',aE H1 H'->PySem.W.nsIn X.K mainGlobals n=some (some (.ref C))->Ep n->Ex (.ref C) none H':=fun n C H' s2 z1 z2=>ke n C H' (s1.trans s2) z1 z2
 cases b with
 | true=>exact b7 ⟨W,ρ,D',Ep,px.mono s1,by simpa using q1,k.step (Ev.same s1),ke'⟩
 | false=>exact aJ ⟨W,ρ,D',Ep,px.mono s1,by simpa using q1,k.step (Ev.same s1),ke'⟩
def V7 (D:kD) (i:Nat):kD:={ nx:=fun ρ=>D.nx (ρ.set i none),rt:=D.rt,bk:=fun ρ=>D.bk (ρ.set i none),ct:=fun ρ=>D.ct (ρ.set i none) }
def lX:List Str:=["BadWeb","BadSet","BadOrder","BadPrices","BadBoard","BadDeed","NotWood","NoPaper","NoSuch","TooMany","NoText","OddRound"]
def lY (n m:Str):Option Bool:=if lX.contains n then some (n == m || m == "HearthError" || m == "ValueError") else none
def xJ (m:Str) (i:Nat) (tb:jX) (ts:aP):aP:=fun D ρ=>tb D (fun n=>lY n m=some true/\ts (V7 D i) (ρ.set i (some (.sh true (.exc n))))) ρ
theorem aP0 {m:Str}{Ch:Addr}{i:Nat}{tb:jX}{ts:aP} (hs:∀ n C,lY n m=some true->PySem.W.nsIn X.K mainGlobals n=some (some (.ref C))->PySem.W.subIn X.K (.ref C) (.ref Ch)=some true) (h:LS X (xJ m i tb ts) D σ H):R9 X.K Ch i (LB X tb) (LS X ts) D σ H:=by
 obtain ⟨W,ρ,D',px,q,k⟩:=h
 refine⟨W,ρ,D',_,px,q,k,fun n C H' s z1 z2 a C' oe hc na hcl=>?_⟩
 cases hc
 refine⟨hs n C z2.1 z1,W,_,V7 D' i,(px.mono (s.trans (cA na _))).setSh (g:=true) (.exc cH z1 hcl),z2.2,?_⟩
 have k':=k.step (Ev.same (W:=W) (s.trans (cA na (.frz oe (.own a)))))
 exact⟨fun W' σ' H2 ρ' ev px' q'=>k'.nx W' _ H2 _ ev px'.setNone q',k'.rt,fun W' σ' H2 ρ' ev px' q'=>k'.bk W' _ H2 _ ev px'.setNone q',fun W' σ' H2 ρ' ev px' q'=>k'.ct W' _ H2 _ ev px'.setNone q'⟩
structure xK (K:PySem.W.Frag) (mg:Str->Option Value) (m:Str):Prop where
 ex:∃ Ch,mg m=some (.ref Ch)/\wZ K Ch/\∀ n C,lY n m=some true->PySem.W.nsIn K mainGlobals n=some (some (.ref C))->PySem.W.subIn K (.ref C) (.ref Ch)=some true
theorem aP1 (i:Nat) {m n:Str}{b₀:Stmt}{suite body:List Stmt}{tb:jX}{ts:aP} (ct:xK X.K X.mg m) (hN:X.N.Nodup) (hb:QB X body tb) (hs:∀ a,eJ (X.suite a) (b₀ :: suite) ts) (hstk:X.stack=X.env :: X.outer/\X.env.frame=some X.env.locals:=by exact⟨rfl,rfl⟩) (hi:X.N[i]? = some n:=by rfl) (hl:X.env.scope.names.lookup n=some .local:=by rfl) (hg:Gl X m:=by rfl)
  (hd:(m == ("__debug__" : Str))=false:=by decide):QS X (.Try body [.ExceptHandler (some (.Name m np)) (some n) (b₀ :: suite) hp] [] [] pos) (xJ m i tb ts):=by
 obtain ⟨Ch,hm,c,sub⟩:=ct.ex
 exact dZ (aJ7 (ts:=LS X ts) hstk hb hg hm c hN hi hl (fun a=>wC (hs a) fun _ _ _ ⟨W,ρ,D',px,q,k⟩=>⟨W,ρ,D',px,q,⟨k.nx,k.rt,k.bk,k.ct⟩⟩) hd) fun _ _ _=>aP0 sub
def i9:V->Value
 | .ref a=>.ref a
 | .ty n=>.type n
 | _=>.none
def aP2 (K:PySem.W.Frag):List V->Hp->VK->Prop:=fun xs H Q=>∃ v v2 b,xs = [v,v2]/\i9 v2 ≠ .none/\((∃ a o C,v = .ref a/\H a=some (.frz o (.own a))/\o.cls = .ref C/\iW K C/\PySem.W.kitOne K (.ref C) (i9 v2)=some b) ∨ (v = .non/\PySem.W.kitOne K (.type "NoneType") (i9 v2)=some b))/\Q (.bl b) H
theorem aP3:cO X (.builtin "isinstance") (aP2 X.K):=by
 intro pins s σ H xs us Q I r h
 obtain ⟨v,v2,b,rfl,hv,hk,q⟩:=h
 obtain ⟨u,u',rfl,ru,ru'⟩:=k9 r
 obtain rfl:u'=i9 v2:=by
  cases v2 <;> first | exact ru' | exact absurd rfl hv
 rcases hk with ⟨a,o,C,rfl,hH,hc,F,e⟩ | ⟨rfl,e⟩
 ·obtain ⟨h1,_⟩:=I.hok a _ hH
  cases (show u=Value.ref a from ru)
  exact bq9 (aK4 F) I.kIn ⟨o,h1,hc⟩ e (fun z=>nomatch z) fun tk=>⟨.bl b,H,I.tok tk,rfl,q⟩
 ·cases (show u=Value.none from ru)
  exact bq9 PySem.W.kitx_none I.kIn trivial e (fun z=>nomatch z) fun tk=>⟨.bl b,H,I.tok tk,rfl,q⟩
def aP4 (m:Str):PV->Option Bool
 | .exc n=>lY n m
 | .non=>some false
 | _=>none
def lZ (m:Str) (te:aB):aB:=fun ρ Q=>te ρ fun x _=>∃ b,aP4 m x=some b/\Q (.bl b) .fr
structure xL (K:PySem.W.Frag) (m:Str) (v2:V):Prop where
 nn:i9 v2 ≠ .none
 ex:∀ n C b,PySem.W.nsIn K mainGlobals n=some (some (.ref C))->lY n m=some b->iW K C/\PySem.W.kitOne K (.ref C) (i9 v2)=some b
 no:PySem.W.kitOne K (.type "NoneType") (i9 v2)=some false
theorem V8 {x:Str}{v2:V}{px:Pos} (B:Bt X.mg) (A:xL X.K x v2) (hx:PE X (.Name x px) (tC v2)) (ha:QE X a te) (hg:Gl X "isinstance":=by rfl)
  (he:starEach [a,.Name x px] X.env=(false,eval a X.env) :: starEach [.Name x px] X.env:=by rfl) (he2:starEach [.Name x px] X.env=(false,eval (.Name x px) X.env) :: starEach [] X.env:=by rfl) (hpl:(backTo pos (starEach [.Name x px] X.env)).any (·.1)=false:=by rfl):QE X (.Call (.Name "isinstance" p2) [a,.Name x px] [] pos) (lZ x te):=
 cK (uO aP3 hg B.isinst PyProof.Rows.boot_isinstance (fV ha (fV hx iO he2) he) (he:=he) (hpl:=hpl)) fun σ H Q' h=>by
  obtain ⟨W,ρ,Q,px,q,k⟩:=h
  refine⟨W,ρ,_,px,q,?_⟩
  rintro v H1 y g s r ⟨b,e,q⟩
  refine⟨v,v2,b,rfl,A.nn,?_,k _ _ _ .fr s (.bl _) q⟩
  cases r with
  | exc h z c=>
   obtain ⟨F,kt⟩:=A.ex _ _ _ z e
   exact .inl ⟨_,_,_,rfl,h,c,F,kt⟩
  | non=>cases e; exact .inr ⟨rfl,A.no⟩
  | _=>cases e
end
section
variable {X : Cx} {a : Expr} {pos p2 px : Pos} {te : aB}
structure m5 (K:PySem.W.Frag) (mg:Str->Option Value) (m:Str):Prop where
 ex:∃ C,mg m=some (.ref C)/\xL K m (.ref C)
structure xM (K:PySem.W.Frag) (mg:Str->Option Value):Prop where
 mg:mg "ValueError" = none
 is:xL K "ValueError" (.ty "ValueError")
theorem xN {x:Str} (B:Bt X.mg) (A:m5 X.K X.mg x) (ha:QE X a te) (hgx:Gl X x:=by rfl) (hdx:(x == ("__debug__" : Str))=false:=by decide) (hg:Gl X "isinstance":=by rfl)
  (he:starEach [a,.Name x px] X.env=(false,eval a X.env) :: starEach [.Name x px] X.env:=by rfl) (he2:starEach [.Name x px] X.env=(false,eval (.Name x px) X.env) :: starEach [] X.env:=by rfl) (hpl:(backTo pos (starEach [.Name x px] X.env)).any (·.1)=false:=by rfl):QE X (.Call (.Name "isinstance" p2) [a,.Name x px] [] pos) (lZ x te):=by
 obtain ⟨C,m,i⟩:=A.ex
 exact V8 B i (z9 hgx m rfl hdx) ha hg he he2 hpl
theorem aP5 (B:Bt X.mg) (A:xM X.K X.mg) (ha:QE X a te) (hgx:Gl X "ValueError":=by rfl) (hg:Gl X "isinstance":=by rfl)
  (he:starEach [a,.Name "ValueError" px] X.env=(false,eval a X.env) :: starEach [.Name "ValueError" px] X.env:=by rfl) (he2:starEach [.Name "ValueError" px] X.env=(false,eval (.Name "ValueError" px) X.env) :: starEach [] X.env:=by rfl) (hpl:(backTo pos (starEach [.Name "ValueError" px] X.env)).any (·.1)=false:=by rfl):QE X (.Call (.Name "isinstance" p2) [a,.Name "ValueError" px] [] pos) (lZ "ValueError" te):=
 V8 B A.is (zA (v:=.ty "ValueError") hgx A.mg PyProof.Rows.Boot.«ValueError» rfl (by decide) (by decide)) ha hg he he2 hpl
end
structure jY (K:PySem.W.Frag) (C:Addr):Prop where
 cls:PySem.W.isClsIn K C=true
 ty:PySem.W.typeIn K (.ref C)=some (.type "type")
 ga:PySem.W.findIn K (.ref C) "__getattribute__" = some (some (.builtin "BaseException.__getattribute__"))
 gt:PySem.W.findIn K (.ref C) "__getattr__" = some none
 fc:PySem.W.findIn K (.ref C) "__class__" = some (some (.builtin "object.__class__"))
 fg:PySem.W.specialIn K (.builtin "object.__class__") "__get__" = some (some (.builtin "getset_descriptor.__get__"))
 ft:PySem.W.takesIn K (.builtin "object.__class__")=some true
 ob:PySem.W.mroIn K C (.type "object")=some true
 be:PySem.W.mroIn K C (.type "BaseException")=some true
theorem jY.exc {K:PySem.W.Frag}{C:Addr} (h:jY K C):iW K C:=⟨h.cls,h.ga,h.gt,h.fc,h.fg,h.ft,h.ob,h.be⟩
theorem sL {K:PySem.W.Frag}{h₀:Heap}{mg:Str->Option Value}{x:Str}{C:Addr}{bmB:List Value}{newId:String} (X:K.In h₀) (m:mg x=some (.ref C)) (q:PySem.W.excIn K C bmB newId=true):OwnCls x C bmB newId mg h₀:=by
 refine⟨m,?_⟩
 unfold PySem.W.excIn at q
 split at q
 case h_2=>cases q
 rename_i dd cd sl ho
 split at q
 case h_2=>cases q
 rename_i C' bm k0 k1 k2 k3 n k5 hm hs
 simp only [br1,beq_iff_eq,Bool.not_eq_true'] at q
 obtain ⟨⟨⟨⟨⟨rfl,rfl⟩,dl⟩,ht⟩,hok⟩,hni⟩:=q
 obtain ⟨nm,bs,mro,ns,qn,hd,sn,sub,ab,col,del⟩:=cd
 dsimp only at hm dl hok hni
 subst hm dl
 obtain rfl:sl = #[k0,k1,k2,k3,some (.builtin n),k5]:=by
  obtain ⟨l⟩:=sl
  exact congrArg Array.mk hs
 exact⟨bm,ns,nm,qn,bs,hd,sn,sub,ab,col,dd,k0,k1,k2,k3,k5,_,X _ _ ho,.of_isNs (PySem.W.isNs_of_in X hok),PySem.W.nsMap_none_of_in X hok hni,PySem.W.tail_of_in X ht⟩
theorem pN {n m:Str}{b:Bool} (h:lY n m=some b):n ∈ lX/\b=(n == m || m == "HearthError" || m == "ValueError"):=by
 unfold lY at h
 split at h
 ·rename_i z
  exact⟨by simpa using z,by cases h; rfl⟩
 ·cases h
theorem jZ {K:PySem.W.Frag}{C D:Addr}{b:Bool} (hd:jY K D) (ne:(C == D)=false) (s:PySem.W.subIn K (.ref C) (.ref D)=some b):PySem.W.kitOne K (.ref C) (.ref D)=some b:=by
 have ne':(Value.ref C == Value.ref D)=false:=by
  rw [beq_eq_false_iff_ne] at ne ⊢
  exact fun z=>ne (Value.ref.inj z)
 have c:=hd.cls
 unfold PySem.W.isClsIn at c
 unfold PySem.W.kitOne PySem.W.kitCls
 rw [if_neg (by rw [ne']; decide)]
 dsimp only
 rw [if_pos (by rw [c,hd.ty]; decide)]
 exact s
theorem xO {K:PySem.W.Frag}{C:Addr}:PySem.W.kitOne K (.ref C) (.ref C)=some true:=by
 unfold PySem.W.kitOne
 rw [if_pos (bs7 _)]
theorem sM {K:PySem.W.Frag}{C:Addr} (s:PySem.W.subIn K (.ref C) (.type "ValueError")=some true):PySem.W.kitOne K (.ref C) (.type "ValueError")=some true:=by
 unfold PySem.W.kitOne PySem.W.kitCls
 rw [if_neg (fun z=>by cases beq_iff_eq.mp z)]
 dsimp only
 rw [if_pos (by decide +kernel)]
 exact s
theorem xP {K:PySem.W.Frag}{D:Addr} (hd:jY K D) (s:PySem.W.subIn K (.type "NoneType") (.ref D)=some false):PySem.W.kitOne K (.type "NoneType") (.ref D)=some false:=by
 have c:=hd.cls
 unfold PySem.W.isClsIn at c
 unfold PySem.W.kitOne PySem.W.kitCls
 rw [if_neg (fun z=>by cases beq_iff_eq.mp z)]
 dsimp only
 rw [if_pos (by rw [c,hd.ty]; decide)]
 exact s
theorem aP6 {K:PySem.W.Frag}:PySem.W.kitOne K (.type "NoneType") (.type "ValueError")=some false:=by
 have e:(if PySem.W.kitMeta "ValueError" = true then (fastBuiltinMro "NoneType").map (·.contains (Value.type "ValueError")) else none)=some false:=by decide +kernel
 unfold PySem.W.kitOne
 rw [if_neg (by decide)]
 exact e
theorem bX.of {P:Program}{w:World}{K:PySem.W.Frag}{mg:Str->Option Value}{base:Heap}{k:Nat}{x:Str}{ps N:List Str}{p:eB}{st:Stmt}{f:Addr}{fd:FuncData} (F:gH K x x st f fd) (m:mg x=some (.ref f)) (S:FnScope N ps (aY st))
  (hb:∀ (kV doc pm:Value) (an:Option Addr) (cdv ct:Value) (us:List Value),us.length=ps.length->bindArgs (PySem.W.fnOf x x (jE st) (eV st) (aY st) .none kV doc pm an cdv ct) ⟨us,[]⟩=pure (ps.zip us))
  (t:(Str->Prop)->aP) (len:∀ Ep xs Q,p Ep xs Q->xs.length=ps.length) (rd:∀ Ep xs Q,p Ep xs Q->t Ep { nx:=fun _=>Q .non,rt:=Q } (fD N xs))
  (body:∀ (cdv:Value) (A:Around) (outer:List Env) (s:Shared) (H:Hp) (E:XK) (Ep:Str->Prop),cE k (A.deeper (envOfC x (aY st) s.heap.objs.size f cdv))->nM (dH (e9 P w) P w K mg base N x (aY st) f cdv A outer s H E) (EX K H Ep)->
   eJ (dH (e9 P w) P w K mg base N x (aY st) f cdv A outer s H E) (eV st) (t Ep)):bX P w K mg base (k+1) x ps p:=by
 refine⟨f,fd,F.okX S (fun vs H Q E h=>?_) (fun cdv A outer s H vs Q E hr h=>?_),F.binds hb,F.kp,m⟩
 ·obtain ⟨xs,Qp,Ep,r,q,_⟩:=h
  rw [r.length]; exact len Ep xs Qp q
 ·obtain ⟨xs,Qp,Ep,r,q,k,ke⟩:=h
  have ht:=body cdv A outer s H E Ep hr (aI9 fun c d H' z=>?_)
  ·refine⟨_,ht,fun _=>False,fD N xs,_,wL r,rd Ep xs Qp q,?_,?_,?_,?_⟩
   ·exact fun W' σ' H' ρ' e px q=>k _ _ _ px.same .non q
   ·exact fun v H' x s r q=>k _ _ _ s r q
   ·exact fun W' σ' H' ρ' e px q=>q
   ·exact fun W' σ' H' ρ' e px q=>q
  ·obtain ⟨rfl,s1,n,C,rfl,z1,z2⟩:=z
   exact ke n C H' s1 z1 z2
end PP
namespace Core
open PySem L2 PP
abbrev m6 (t:(Str->Prop)->aP) (N:List Str) (p:eB):Prop:=∀ Ep xs Q,p Ep xs Q->t Ep { nx:=fun _=>Q .non,rt:=Q } (fD N xs)
end Core
namespace PP
open PySem L2
theorem xQ {us:List Value} (h:us.length=1):∃ a,us = [a]:=List.length_eq_one_iff.mp h
theorem xR {us:List Value} (h:us.length=2):∃ a b,us = [a,b]:=by
 cases us with
 | nil=>cases h
 | cons a r=>
  obtain ⟨b,rfl⟩:=xQ (us:=r) (by simpa using h)
  exact⟨a,b,rfl⟩
theorem xS {us:List Value} (h:us.length=3):∃ a b c,us = [a,b,c]:=by
 cases us with
 | nil=>cases h
 | cons a r=>
  obtain ⟨b,c,rfl⟩:=xR (us:=r) (by simpa using h)
  exact⟨a,b,c,rfl⟩
theorem V9 {us:List Value} (h:us.length=4):∃ a b c d,us = [a,b,c,d]:=by
 cases us with
 | nil=>cases h
 | cons a r=>
  obtain ⟨b,c,d,rfl⟩:=xS (us:=r) (by simpa using h)
  exact⟨a,b,c,d,rfl⟩
section
variable {X : Cx} {e : Expr} {tk : aB} {D : cZ} {σ : St} {H : Hp} {pos : Pos}
def sN (i:Nat) (tk:aB):aP:=fun D ρ=>∃ ps,ρ[i]? = some (some (.own (.dT ps)))/\tk ρ fun y _=>∃ k,y = .tup (k.map kP)/\(∃ j:Nat,(ps.map (·.1))[j]? = some k)/\∀ j:Nat,(ps.map (·.1))[j]? = some k->D.nx (ρ.set i (some (.own (.dT (ps.eraseIdx j)))))
theorem aP7 {i:Nat} (h:LS X (sN i tk) D σ H):o8 (S4 (kU i) (LE X tk)) D σ H:=by
 obtain ⟨W,ρ,D',px,⟨ps,hi,q⟩,k⟩:=h
 obtain ⟨v,ev,a,rfl,wa,kvs,ea,e1,r⟩:=px.sl i _ hi
 refine⟨_,ev,a,rfl,.inr ⟨kvs,.inl ea⟩,W,ρ,_,px,q,?_⟩
 rintro kv H2 y g s ry ⟨kk,rfl,is,q⟩
 obtain ⟨b,us,rfl,hb,rb⟩:=ry.sqT
 obtain rfl:=rF rb
 have ea2:=s _ _ ea
 refine⟨kvs,kk,b,ea2,rfl,hb,by rw [e1]; exact is,fun j v hj=>?_⟩
 rw [e1] at hj
 refine k.nx W σ _ _ ((Ev.same s).trans (Ev.upd wa)) ((px.mono s).updT hi ev wa ⟨?_,?_⟩) (q j hj)
 ·rw [Raw.jS,Raw.jS,e1]
 ·rw [Raw.jS,Raw.jS]
  exact ((r.same s fun _ z=>z).eraseIdx j).keep (.upd ea2 rfl fun b m=>⟨oK wa m,m⟩)
theorem W0 (i:Nat) {x:Str}{apos cpos xpos:Pos} (hu:X.A.units+1 < cLine) (he:QE X e tk) (hm:M1 X (.Name x xpos) "pop" apos e cpos:=by exact⟨rfl,rfl,rfl,rfl⟩) (hN:X.N[i]? = some x:=by rfl) (hv:jA X.env.scope x:=by first | exact Or.inl rfl | exact Or.inr (Or.inl rfl) | exact Or.inr (Or.inr rfl)) (hd:(x == ("__debug__" : Str))=false:=by decide) (hcd:(x == ("__classdict__" : Str))=false:=by decide)
  (hsw:swapsWith (.Call (.Attribute (.Name x xpos) "pop" apos) [e] [] cpos) none pos.line X.env=pure false:=by rfl):QS X (.Expr (.Call (.Attribute (.Name x xpos) "pop" apos) [e] [] cpos) pos) (sN i tk):=
 dZ (qA (aK8 hu (mK hN hv hd hcd) he hm) hsw) fun _ _ _=>aP7
end
end PP
namespace Core
open PySem L2 PP
theorem pO:∀ (m:Nat) (l:List Nat),l.Nodup->(∀ x ∈ l,x < m)->l.length<=m
 | 0,[],_,_=>bl1 _
 | 0,x :: _,_,h=>absurd (h x bl6) (Nat.not_lt_zero _)
 | m+1,l,nd,h=>by
  by_cases hm:m ∈ l
  ·have h1:=pO m (l.erase m) (nd.erase m) fun x hx=>by
    obtain ⟨h2,h3⟩:=(nd.mem_erase_iff).mp hx
    have:=h x h3
    omega
   rw [List.length_erase_of_mem hm] at h1
   omega
  ·have h1:=pO m l nd fun x hx=>by
    have:=h x hx
    have:x ≠ m:=fun z=>hm (z ▸ hx)
    omega
   omega
end Core
namespace PP
open PySem L2
section
variable {X : Cx} {e : Expr} {tr : cP} {pos p2 : Pos}
def sO:List PV->(PV->Prop)->Prop:=fun xs Q=>∃ ys:List (List Int),xs = [.lst (ys.map fun r=>PV.tup (intz r))]/\ys.length<=4096/\(∀ y ∈ ys,y.length=2)/\∀ zs:List (List Int),zs.Perm ys->zs.Pairwise (fun u v=>HT.aR v u=false)->Q (.lst (zs.map fun r=>PV.tup (intz r)))
theorem aP8:eY X sO (R6 X.K):=by
 rintro H vs xs Q Q' r ⟨ys,rfl,hl,hne,q⟩ k
 obtain ⟨v,rfl,r1⟩:=r.one
 obtain ⟨a,us,rfl,_,h,r2⟩:=r1.sqL
 obtain ⟨h1,h2⟩:=T8 r2
 have lr:=r2.length
 rw [bk8] at lr
 refine⟨a,us,lV H,rfl,aT.of h,by omega,fun y hy=>?_,fun l zs hl' pm so=>?_⟩
 ·obtain ⟨b,rfl,hb⟩:=h2 y hy
  refine⟨b,rfl,aU.of hb,hne _ ?_⟩
  rw [<- h1]; exact bm9.mpr ⟨_,hy,rfl⟩
 ·have hz:∀ u ∈ zs,∃ b,u = .ref b/\H b=some (.tup ((lV H u).map V.int)):=fun u hu=>h2 u (pm.mem_iff.mp hu)
  refine k _ _ _ (cA hl' _) (.lst hl' cH ((T9 hz).same (cA hl' _) fun _ z=>z)) (q _ ?_ ?_)
  ·rw [<- h1]; exact pm.map _
  ·rw [bu2]; exact so
theorem W5 (B:Bt X.mg) (ha:QA X [e] tr) (hg:Gl X "sorted":=by rfl) (he:starEach [e] X.env=(false,eval e X.env) :: starEach [] X.env:=by rfl) (hpl:(backTo pos (starEach [] X.env)).any (·.1)=false:=by rfl):QE X (.Call (.Name "sorted" p2) [e] [] pos) (aG sO tr):=
 iV aI6 aP8 hg B.sorted PyProof.Rows.boot_sorted ha (he:=he) (hpl:=hpl)
end
end PP
namespace Core
open PySem L2 PP
theorem W6 (n:Nat):∀ (a b:List (List Int)),((((tups a).zip (tups b)).all fun p=>cJ (n+1) p.1 p.2) && (tups a).length == (tups b).length)=decide (a=b)
 | [],[]=>rfl
 | [],_ :: _=>by simp [tups]
 | _ :: _,[]=>by simp [tups]
 | x :: a,y :: b=>by
  have ih:=W6 n a b
  have e:∀ (z:List Int) (c:List (List Int)),tups (z :: c)=PV.tup (intz z) :: tups c:=fun _ _=>rfl
  rw [e,e]
  simp only [bt3,bB2,bp1,w4] at ih ⊢
  by_cases h:x=y
  ·subst h
   have:((tups a).length+1 == (tups b).length+1)=((tups a).length == (tups b).length):=by simp
   rw [this,bk4 rfl,bx8,ih]
   simp
  ·rw [bk1 h,bq2,bq2]
   simp [h]
theorem aP9 (n:Nat) (a b:List (List Int)):cJ (n+2) (.lst (tups a)) (.lst (tups b))=decide (a=b):=W6 n a b
theorem W7 (n:Nat):∀ (a b:List (List Int)),dS (n+2) (.lst (tups a)) (.lst (tups b))=true
 | [],_=>by unfold dS tups; simp
 | _ :: _,[]=>by unfold dS tups; simp
 | x :: a,y :: b=>by
  have ih:=W7 n a b
  show (((PV.tup (intz x) :: tups a).zip (PV.tup (intz y) :: tups b)).all fun p=>dS (n+1) p.1 p.2)=true
  rw [bt3,bB2,w5,bx8]
  exact ih
abbrev W8 (bs:List Bool):List PV:=bs.map PV.bl
section
variable {ws : List Int} {ls : List (Int × Int)}
def cne (ws:List Int) (ls:List (Int × Int)) (S:List Int):Bool:=!decide (S = []) && decide (stay ws ls S=S)
end
end Core
namespace PP
open PySem L2
section
variable {X : Cx} {a b : Expr} {ta tb : aB} {pos : Pos}
theorem aQ0 {K:PySem.W.Frag}{M M':Addr->Prop}{H:Hp}{v:V}{m n:List Int} (r1:aD K M H v (.tup (intz m))) (r2:aD K M' H v (.tup (intz n))):m=n:=by
 obtain ⟨p,us,rfl,h1,q1⟩:=r1.sqT
 obtain ⟨p2,ws,e,h2,q2⟩:=r2.sqT
 cases e
 rw [h1] at h2
 cases h2
 have:=(q1.ofInts).symm.trans q2.ofInts
 exact (List.map_inj_right fun _ _ e=>by cases e; rfl).mp this
end
end PP
namespace Core
open PySem L2 PP
def far (ns S:List Int):Bool:=decide (((S.filter fun x=>decide (x ∈ ns)).length:Int)=0)
def W9 (ws:List Int) (ls:List (Int × Int)):List Int->List Int->Bool
 | _,[]=>true
 | B,h :: R=>inB ws.length h && (kin ws ls B h && W9 ws ls (B ++ [h]) R)
end Core
namespace Raw
open PySem PySem.W PySem.Calls PyProof.Rows
theorem xT {xs:List Nat} (a:xs.Pairwise (· < ·)) {i k:Nat} (hk:k < xs.length) (h:i<=k):xs.getD i 0<=xs.getD k 0:=by
 rcases bp3 i k with z | z
 ·have:=bq8.mp a i k (by omega) hk z
  rw [bm3,bm3,bk5 (by omega),bk5 hk]
  exact bw8 this
 ·rw [Nat.le_antisymm h z]; exact bl1 _
theorem aQ1 {xs:Array Nat}{i j:Nat} (h:i < xs.size):xs.getD i j=xs.toList.getD i 0:=by
 rw [bm3,bu0,Array.getD_eq_getD_getElem?,Array.getElem?_eq_getElem h]; rfl
theorem xU {xs:Array Nat}{j:Nat} (a:xs.toList.Pairwise (· < ·)):∀ (fuel lo hi:Nat),lo<=hi->hi<=xs.size->hi - lo<=fuel->(∀ i,i < lo->xs.toList.getD i 0 < j)->(∀ i,hi<=i->i < xs.size->j<=xs.toList.getD i 0)->
  SetTable.below.go xs j fuel lo hi<=xs.size/\(∀ i,i < SetTable.below.go xs j fuel lo hi->xs.toList.getD i 0 < j)/\∀ i,SetTable.below.go xs j fuel lo hi<=i->i < xs.size->j<=xs.toList.getD i 0
 | 0,lo,hi,h1,h2,h3,h4,h5=>by
  have e:lo=hi:=by omega
  subst e
  exact⟨h2,h4,h5⟩
 | fuel+1,lo,hi,h1,h2,h3,h4,h5=>by
  have sz:xs.toList.length=xs.size:=bp7
  unfold SetTable.below.go
  by_cases lt:lo < hi
  ·rw [if_pos lt]
   dsimp only
   have m1:lo<=(lo+hi) / 2:=by omega
   have m2:(lo+hi) / 2 < hi:=by omega
   rw [aQ1 (by omega)]
   by_cases c:xs.toList.getD ((lo+hi) / 2) 0 < j
   ·rw [if_pos c]
    exact xU a fuel _ _ (by omega) h2 (by omega) (fun i hi'=>Nat.lt_of_le_of_lt (xT a (by omega) (by omega)) c) h5
   ·rw [if_neg c]
    exact xU a fuel _ _ (by omega) (by omega) (by omega) h4 fun i h6 h7=>bo3 (Nat.le_of_not_lt c) (xT a (by omega) h6)
  ·rw [if_neg lt]
   have e:lo=hi:=by omega
   subst e
   exact⟨h2,h4,h5⟩
theorem aQ2 {xs:Array Nat}{j:Nat} (a:xs.toList.Pairwise (· < ·)):SetTable.below xs j<=xs.size/\(∀ i,i < SetTable.below xs j->xs.toList.getD i 0 < j)/\∀ i,SetTable.below xs j<=i->i < xs.size->j<=xs.toList.getD i 0:=
 xU a xs.size 0 xs.size (bu5 _) (bl1 _) (by omega) (fun i h=>absurd h (Nat.not_lt_zero _)) fun i h1 h2=>absurd h2 (by omega)
theorem aQ3 {α:Type} (xs:Array α) (p:Nat) (x:α):(SetTable.insertAt xs p x).toList=xs.toList.take p ++ x :: xs.toList.drop p:=by
 unfold SetTable.insertAt
 simp
 exact br4 (by simp)
theorem aQ4 {xs:Array Nat}{j:Nat} (a:xs.toList.Pairwise (· < ·)) (ne:xs[SetTable.below xs j]? ≠ some j):(SetTable.insertAt xs (SetTable.below xs j) j).toList.Pairwise (· < ·):=by
 obtain ⟨b1,b2,b3⟩:=aQ2 (j:=j) a
 have sz:xs.toList.length=xs.size:=bp7
 rw [aQ3]
 refine bo0.mpr ⟨a.sublist (List.take_sublist _ _),List.pairwise_cons.mpr ⟨fun x hx=>?_,a.sublist (List.drop_sublist _ _)⟩,fun x hx y hy=>?_⟩
 ·obtain ⟨i,hi,e⟩:=bs1 hx
  rw [bz1] at hi
  rw [List.getElem_drop] at e
  have h1:=b3 (SetTable.below xs j) (bl1 _) (by omega)
  have h2:=xT a (i:=SetTable.below xs j) (k:=SetTable.below xs j+i) (by omega) (by omega)
  have h3:xs.toList.getD (SetTable.below xs j+i) 0=x:=by rw [bm3,bk5 (by omega),e]; rfl
  rcases bp3 j x with z | z
  ·exact z
  ·exfalso
   have h4:xs.toList.getD (SetTable.below xs j) 0=j:=by omega
   rw [bm3,bk5 (by omega)] at h4
   refine ne ?_
   rw [<- bu0,bk5 (by omega)]
   exact congrArg some h4
 ·have hx':x < j:=by
   obtain ⟨i,hi,e⟩:=bs1 hx
   rw [bz0] at hi
   rw [List.getElem_take] at e
   have:=b2 i (by omega)
   rw [bm3,bk5 (by omega),e] at this
   exact this
  rcases bk6.mp hy with e | hy
  ·rw [e]; exact hx'
  ·obtain ⟨i,hi,e⟩:=bs1 hy
   rw [bz1] at hi
   rw [List.getElem_drop] at e
   have:=b3 (SetTable.below xs j+i) (by omega) (by omega)
   rw [bm3,bk5 (by omega),e] at this
   exact bl8 hx' this
structure iH (b:Bool) (t:SetTable):Prop where
 asc:t.place.toList.Pairwise (· < ·)
 dm:t.dummies = #[]
 led:t.led=b
theorem X0 (j:Nat):SetTable.has #[] j=false:=by
 unfold SetTable.has
 simp
theorem X1 {t:SetTable} (dm:t.dummies = #[]) {h:Int}{j:Nat}{d:Option Nat}:∀ (fuel:Nat) (p:SetTable.Probe),p.dummy=none->SetTable.probe.go t (fun _=>h+1) h fuel p=some (.empty j d)->d=none/\t.slot j = .empty
 | 0,p,_,e=>by cases e
 | fuel+1,p,hp,e=>by
  unfold SetTable.probe.go at e
  have adv:∀ p:SetTable.Probe,p.dummy=none->(t.advance p).dummy=none:=fun p hp=>by
   unfold SetTable.advance
   split <;> exact hp
  cases hs:t.slot p.j with
  | empty=>
   rw [hs] at e
   cases e
   exact⟨hp,hs⟩
  | dummy=>
   exfalso
   unfold SetTable.slot at hs
   dsimp only at hs
   rw [dm,X0] at hs
   split at hs <;> cases hs
  | live i=>
   rw [hs] at e
   dsimp only at e
   rw [if_neg (by simp; omega)] at e
   exact X1 dm fuel _ (adv p hp) e
theorem aQ5 {t:SetTable} (dm:t.dummies = #[]) {h:Int}{sl:Nat}{d:Bool} (e:t.freeSlot h=some (sl,d)):t.slot sl = .empty:=by
 unfold SetTable.freeSlot at e
 split at e
 ·rename_i j dummy hm
  obtain ⟨e1,e2⟩:=X1 dm _ _ rfl hm
  subst e1
  cases e
  exact e2
 ·cases e
theorem sP {b:Bool}{t:SetTable} (h:iH b t) (n:Nat):iH b (t.standIn n):=⟨by
 show (Array.range n).toList.Pairwise (· < ·)
 rw [Array.toList_range]; exact List.pairwise_lt_range,rfl,h.led⟩
theorem aQ6 {b:Bool}{t:SetTable} (h:iH b t) {j:Nat} (hs:t.slot j = .empty):iH b (t.put j).1:=by
 refine⟨?_,?_,h.led⟩
 ·refine aQ4 h.asc fun e=>?_
  unfold SetTable.slot at hs
  dsimp only at hs
  rw [if_pos (by rw [e]; exact bs7 _)] at hs
  cases hs
 ·show (if SetTable.has t.dummies j then SetTable.eraseAt t.dummies (SetTable.below t.dummies j) else t.dummies) = #[]
  rw [h.dm,X0]; rfl
theorem aQ7 {b:Bool}{t:SetTable} (h:iH b t) (es:Array (Int × Value)) (k:Int) (x:Value):iH b (layNew t es k x).2.1:=by
 unfold layNew
 split
 ·rename_i sl wd e
  have p:=aQ6 h (aQ5 h.dm e)
  show iH b (SetTable.orStandIn _ _)
  unfold SetTable.orStandIn
  split
  ·exact p
  ·exact sP p _
 ·exact sP h _
theorem aQ8 {b:Bool}{t:SetTable} (h:iH b t) (es:Array (Int × Value)) (n:Nat):iH b (relayAll t es n).2.1:=by
 unfold relayAll
 split
 ·rename_i t' order e
  dsimp only
  split
  ·show iH b t'
   unfold SetTable.relaid SetTable.laid at e
   cases hc:SetTable.layClean (SetTable.sizeAbove n - 1) (es.map (·.1)) with
   | none=>rw [hc] at e; cases e
   | some owner=>
    rw [hc] at e
    cases e
    refine⟨?_,rfl,h.led⟩
    show (List.map _ _).Pairwise (· < ·)
    refine bu2.mpr (List.Pairwise.filterMap _ (R:=(· < ·)) ?_ List.pairwise_lt_range)
    intro i i' hlt x hx y hy
    cases ho:owner.getD i none with
    | none=>rw [ho] at hx; cases hx
    | some v=>
     rw [ho] at hx
     cases ho2:owner.getD i' none with
     | none=>rw [ho2] at hy; cases hy
     | some v2=>
      rw [ho2] at hy
      cases hx; cases hy
      exact hlt
  ·exact sP h _
 ·exact sP h _
theorem X2 {us vs:List Value} (p:us.Perm vs):∀ {ns:List Int},IntsAre vs ns->∃ ms,IntsAre us ms/\ms.Perm ns:=by
 induction p with
 | nil=>intro ns h; exact⟨ns,h,bx1 _⟩
 | cons x _ ih=>
  intro ns h
  cases h with
  | cons n t r=>
   obtain ⟨ms,h1,h2⟩:=ih r
   exact⟨n :: ms,.cons n t h1,h2.cons n⟩
 | swap x y l=>
  intro ns h
  cases h with
  | cons n t r=>
   cases r with
   | cons n' t' r=>
    exact⟨n' :: n :: _,.cons n' t' (.cons n t r),bB6 _ _ _⟩
 | trans _ _ ih1 ih2=>
  intro ns h
  obtain ⟨ms,h1,h2⟩:=ih2 h
  obtain ⟨ms',h3,h4⟩:=ih1 h1
  exact⟨ms',h3,h4.trans h2⟩
theorem X3:∀ {us:List Value}{ns:List Int},IntsAre us ns->∀ (k:Int) (t:Nat),IntsAre (us ++ [.int k t]) (ns ++ [k])
 | _,_,.nil,k,t=>.cons k t .nil
 | _,_,.cons n u r,k,t=>.cons n u (X3 r k t)
theorem sQ:∀ {us:List Value}{ns:List Int},IntsAre us ns->∀ k:Int,k ∈ ns ↔ ∃ t,Value.int k t ∈ us
 | _,_,.nil,k=>⟨(fun h=>nomatch h),(fun ⟨_,h⟩=>nomatch h)⟩
 | _,_,.cons n u r,k=>by
  constructor
  ·intro h
   rcases bk6.mp h with e | h
   ·exact⟨u,by rw [e]; exact bl6⟩
   ·obtain ⟨t,ht⟩:=(sQ r k).mp h
    exact⟨t,bl2 _ ht⟩
  ·rintro ⟨t,h⟩
   rcases bk6.mp h with e | h
   ·cases e; exact bl6
   ·exact bl2 _ ((sQ r k).mpr ⟨t,h⟩)
abbrev pP (es:Array (Int × Value)) (ep:Nat) (t:SetTable):Obj:={ cls:=.type "set",dict:=none,data:=.set es ep t,slots:=#[] }
section
variable {prog : Program} {w : World} {A : Around} {E : Value → Shared → Prop} {s : Shared}
def aQ9 (prog:Program) (w:World) (es:Array (Int × Value)) (t:SetTable) (ms:List Int):Prop:=ElemsOf (intKind prog w) es.toList/\IntsAre (es.toList.map (·.2)) ms/\es.size < scanBound/\t.fits es.size=true/\iH (!w.params.followText "set-order") t
def X4 (prog:Program) (w:World) (h:Heap) (a:Addr) (ms:List Int):Prop:=∃ es ep t,h.get? a=some (pP es ep t)/\aQ9 prog w es t ms
theorem X5 {h:Heap}{a:Addr}{es es':Array (Int × Value)}{ep:Nat}{t t':SetTable} (ho:h.get? a=some (pP es ep t)):(h.update a (Obj.putSet es' t')).get? a=some (pP es' (ep+1) t'):=by
 have:=bt9 (Obj.putSet es' t') ho (by rw [putSet_of es' t' (rfl:(pP es ep t).data=_)]; rfl)
 rw [putSet_of es' t' (rfl:(pP es ep t).data=_)] at this
 exact this
theorem add_int {a:Addr}{ms:List Int}{k:Int}{u:Nat}{Q:Bool->Shared->Prop} (hS:X4 prog w s.heap a ms) (room:ms.length+1 < scanBound)
  (h:∀ b h' ms',Heap.SameBut a s.heap h'->X4 prog w h' a ms'->(k ∈ ms->ms'.Perm ms)->(k ∉ ms->ms'.Perm (ms ++ [k]))->Q b { s with heap:=h' }) :
  wpAny (model prog w) A (setAddHashed a (.int k u) ((intKind prog w).hash k)) Q E s:=by
 obtain ⟨es,ep,t,ho,hel,hi,hb,hf,tk⟩:=hS
 have key:(intKind prog w).is k (.int k u)=true:=intKind_is _ _ _ _
 have ln:ms.length=es.size:=by
  have:=IntsAre.length hi
  rw [bk8,bp7] at this
  exact this.symm
 have isk:∀ v,(intKind prog w).is k v=true->∃ u,v = .int k u:=fun v hv=>Value.isInt_shape hv
 unfold setAddHashed setAddHashedIn
 refine br7 (bj8 (wpAny_setState_of ho rfl hf ?_))
 dsimp only
 rw [byScan_of (knd:=intKind prog w) (x:=.int k u) rfl hb hel,if_pos rfl]
 unfold setAddByScan
 refine bj8 (bj8 (by6 ?_))
 refine bj8 (wpAny_setScan_of key ho rfl hf hel ?_)
 cases hr:List.findIdx? (fun e=>(intKind prog w).is k e.2) es.toList with
 | some j=>
  dsimp only
  obtain ⟨hj,hp,_⟩:=List.findIdx?_eq_some_iff_getElem.mp hr
  have km:k ∈ ms:=by
   obtain ⟨u',e⟩:=isk _ hp
   exact (sQ hi k).mpr ⟨u',by rw [<- e]; exact bm9.mpr ⟨_,bw3 hj,rfl⟩⟩
  have e:s={ s with heap:=s.heap }:=by cases s; rfl
  rw [e]
  exact bk2 (bk2 (h _ s.heap ms (Heap.SameBut.refl a s.heap) ⟨es,ep,t,ho,hel,hi,hb,hf,tk⟩ (fun _=>bx1 _) fun n=>absurd km n))
 | none=>
  dsimp only
  have km:k ∉ ms:=fun z=>by
   obtain ⟨u',hm⟩:=(sQ hi k).mp z
   obtain ⟨e,he,e2⟩:=bm9.mp hm
   have:=List.findIdx?_eq_none_iff.mp hr e he
   rw [e2,intKind_is _ _ _ _] at this; cases this
  have lp:=layNew_perm t es ((intKind prog w).hash k) (.int k u)
  have lf:=layNew_fits t es ((intKind prog w).hash k) (.int k u)
  have lk:=aQ7 tk es ((intKind prog w).hash k) (.int k u)
  generalize hL:layNew t es ((intKind prog w).hash k) (.int k u)=L at lp lf lk ⊢
  obtain ⟨es1,t1,wd,gave⟩:=L
  dsimp only at lp lf lk ⊢
  rw [Array.toList_push] at lp
  have el1:ElemsOf (intKind prog w) es1.toList:=(hel.push key rfl).perm lp
  have sz1:es1.size=es.size+1:=by rw [<- bp7,lp.length_eq,bn2,bp7]; rfl
  obtain ⟨ms1,i1,p1⟩:∃ ms1,IntsAre (es1.toList.map (·.2)) ms1/\ms1.Perm (ms ++ [k]):=X2 (lp.map (·.2)) (by rw [bm5]; exact X3 hi k u)
  have hb1:es1.size < scanBound:=by omega
  have gw:∀ (b:Bool) (s₁:Shared) (Q':Unit->Shared->Prop),Q' () s₁->wpAny (model prog w) A (match b with | true=>rule "set.scan.the-table-gave-way" | false=>pure ()) Q' E s₁:=fun b s₁ Q' hq=>by
   cases b
   ·exact bk2 hq
   ·exact by6 hq
  refine bj8 (gw _ _ _ ?_)
  split <;> (
   show wpAny _ _ (storeSet a es1 t1 >>= _) _ _ _
   simp only [↓reduceIte]
   refine bj8 (wpAny_storeSet_of ho rfl ?_ (fits_of_scanBound hb1))
   have ho1:=X5 (es':=es1) (t':=t1) ho
   have sb1:=bx2 s.heap a (Obj.putSet es1 t1)
   split
   ·have rp:=relayAll_perm t1 es1 (SetTable.grown es1.size)
    have rf:=relayAll_fits t1 es1 (SetTable.grown es1.size)
    have rk:=aQ8 lk es1 (SetTable.grown es1.size)
    generalize relayAll t1 es1 (SetTable.grown es1.size)=L at rp rf rk ⊢
    obtain ⟨es2,t2,gave2⟩:=L
    dsimp only at rp rf rk ⊢
    have sz2:es2.size=es1.size:=by rw [<- bp7,rp.length_eq,bp7]
    obtain ⟨ms2,i2,p2⟩:=X2 (rp.map (·.2)) i1
    refine bj8 (gw _ _ _ ?_)
    refine bj8 (wpAny_storeSet_of ho1 rfl ?_ (fits_of_scanBound (by omega)))
    exact bk2 (bk2 (h _ _ ms2 (sb1.trans (bx2 _ a _)) ⟨es2,_,t2,X5 ho1,el1.perm rp,i2,by omega,rf,rk⟩ (fun z=>absurd z km) fun _=>p2.trans p1))
   ·exact bk2 (bk2 (h _ _ ms1 sb1 ⟨es1,_,t1,ho1,el1,i1,hb1,lf,lk⟩ (fun z=>absurd z km) fun _=>p1)))
end
end Raw
namespace L2
open PySem PySem.Spec PyProof.Rows
theorem aR0 {a b c:List Int} (h1:HT.aR a b=true) (h2:HT.aR b c=true):HT.aR a c=true:=by
 cases e:HT.aR a c with
 | true=>rfl
 | false=>
  have ca:=vF (lB h2) (lB h1)
  have:=vG e ca
  subst this
  have:=lB h1
  rw [h2] at this; cases this
theorem xV {α:Type}{p q:α->Bool}:∀ {l:List α},(∀ x ∈ l,p x=true->q x=true)->(l.filter p).length<=(l.filter q).length
 | [],_=>bl1 _
 | x :: l,h=>by
  have ih:=xV (l:=l) fun y hy=>h y (bl2 _ hy)
  have hx:=h x bl6
  rw [List.filter_cons,List.filter_cons]
  cases ep:p x with
  | false=>cases q x <;> simp <;> omega
  | true=>rw [hx ep]; simp; omega
theorem X6 {α:Type}{p q:α->Bool}:∀ {l:List α},(∀ x ∈ l,p x=true->q x=true)->(∃ x ∈ l,q x=true/\p x=false)->(l.filter p).length < (l.filter q).length
 | [],_,e=>by obtain ⟨_,z,_⟩:=e; cases z
 | x :: l,h,e=>by
  have hx:=h x bl6
  have h':∀ y ∈ l,p y=true->q y=true:=fun y hy=>h y (bl2 _ hy)
  have le:=xV h'
  rw [List.filter_cons,List.filter_cons]
  obtain ⟨y,hy,qy,py⟩:=e
  rcases bk6.mp hy with rfl | hy
  ·rw [qy,py]; simp; omega
  ·have ih:=X6 h' ⟨y,hy,qy,py⟩
   cases ep:p x with
   | false=>cases q x <;> simp <;> omega
   | true=>rw [hx ep]; simp; omega
def m7 (ys:List (List Int)) (x:List Int):Nat:=(ys.filter fun y=>HT.aR y x).length
theorem X7 {ys:List (List Int)}{u v:List Int} (hu:u ∈ ys) (hv:v ∈ ys):HT.aR u v=decide ((m7 ys u:Int) < (m7 ys v:Int)):=by
 have irr:∀ a:List Int,HT.aR a a=false:=fun a=>by
  cases e:HT.aR a a with
  | false=>rfl
  | true=>have:=lB e; rw [e] at this; cases this
 cases e:HT.aR u v with
 | true=>
  have:m7 ys u < m7 ys v:=X6 (fun x _ h=>aR0 h e) ⟨u,hu,e,irr u⟩
  exact (bk4 (by omega)).symm
 | false=>
  have:m7 ys v<=m7 ys u:=xV fun x _ h=>by
   cases e2:HT.aR x u with
   | true=>rfl
   | false=>have:=vF e2 e; rw [h] at this; cases this
  exact (bk1 (by omega)).symm
end L2
namespace L2
open PySem PySem.Spec PyProof.Rows SO
section
variable {prog : Program} {w : World} {A : Around} {E : Value → Shared → Prop} {s : Shared}
structure iI (h:Heap) (v:Value) (ns:List Int):Prop where
 at_:∃ b ob us n,v = .ref b/\h.get? b=some ob/\ob.cls = .type "tuple"/\ob.data = .seq (List.toArray us) n/\IntsAre us ns
def xW (h:Heap) (v:Value):List Int:=match v with
 | .ref b=>match h.get? b with
  | some ob=>match ob.data with
   | .seq us _=>us.toList.map numOf
   | _=>[]
  | none=>[]
 | _=>[]
theorem X8:∀ {us:List Value}{ns:List Int},IntsAre us ns->us.map numOf=ns
 | _,_,.nil=>rfl
 | _,_,.cons _ _ h=>by rw [bp9,X8 h]; rfl
theorem iI.ints {h:Heap}{v:Value}{ns:List Int} (z:iI h v ns):xW h v=ns:=by
 obtain ⟨b,ob,us,n,rfl,e2,_,e4,e5⟩:=z.at_
 unfold xW
 dsimp only
 rw [e2]; dsimp only
 rw [e4]; exact X8 e5
def nQ (h:Heap) (ys:List (List Int)) (x:Keyed):Int:=(m7 ys (xW h x.1):Int)
end
end L2
namespace L2
open PySem PySem.Spec PyProof.Rows
section
variable {X : Cx}
theorem aR1 (hc:X.calm=true):cO X (.builtin "max") (fun xs H Q=>∃ (a:Addr) (ns:List Int),xs = [.ref a]/\aT X.K H a (ns.map V.int)/\ns ≠ []/\∀ M:Int,M ∈ ns->(∀ x ∈ ns,x<=M)->Q (.int M) H):=by
 intro pins s σ H xs us Q I r h
 obtain ⟨a,ns,rfl,hq,ne,q⟩:=h
 obtain ⟨u,rfl,ru⟩:=gU r
 cases ru
 obtain ⟨its,rv,p,hz⟩:=I.list hq
 have ia:=jC rv
 obtain ⟨ys,ey⟩:=ia.allInts.items
 have en:ns=ys.toList.map (·.1):=by
  have e1:=nums_intItems ys
  rw [<- ey] at e1
  exact ia.numsOf.symm.trans e1
 have pos:0 < ys.size:=Nat.pos_of_ne_zero fun z=>ne (by rw [en,Array.eq_empty_of_size_eq_zero z]; rfl)
 have hl:s.heap.IsList a (intItems ys):=ey ▸ p.isList
 refine max_intList (I.ok.hd hc) hl pos fun v h' tk ev old=>?_
 obtain ⟨t,rfl⟩:=intItems_at ev
 have best:=argBest_gt (numAt ys) (ys.size - 1)
 have mem:∀ x:Int,x ∈ ns ↔ ∃ j,j < ys.size/\numAt ys j=x:=fun x=>by
  rw [en]
  constructor
  ·intro z
   obtain ⟨j,hj,e⟩:=mem_getD z
   exact⟨j,by simpa using hj,by rw [numAt_eq]; exact e⟩
  ·rintro ⟨j,hj,rfl⟩
   rw [numAt_eq]
   exact getD_mem (by simpa using hj)
 refine⟨.int _,H,I.kept (t':=tk) (h':=h') old,⟨t,rfl⟩,q _ ?_ fun x hx=>?_⟩
 ·exact (mem _).mpr ⟨_,by have:=best.1; omega,rfl⟩
 ·obtain ⟨j,hj,rfl⟩:=(mem x).mp hx
  exact best.2 j (by omega)
end
end L2
namespace PP
open PySem L2
section
variable {X : Cx} {a b e o : Expr} {ta tb te to : aB} {tr : cP} {pos p2 apos cpos : Pos} {σ : St} {H : Hp} {Q' : VK}
def xX:List PV->(PV->Prop)->Prop:=fun xs Q=>∃ ns:List Int,xs = [.lst (intz ns)]/\ns ≠ []/\∀ M:Int,M ∈ ns->(∀ x ∈ ns,x<=M)->Q (.int M)
theorem aR2:eY X xX (fun xs H Q=>∃ (a:Addr) (ns:List Int),xs = [.ref a]/\aT X.K H a (ns.map V.int)/\ns ≠ []/\∀ M:Int,M ∈ ns->(∀ x ∈ ns,x<=M)->Q (.int M) H):=by
 rintro H vs xs Q Q' r ⟨ns,rfl,ne,q⟩ k
 obtain ⟨v,rfl,r1⟩:=r.one
 obtain ⟨a,us,rfl,_,h,r2⟩:=r1.sqL
 rw [r2.ofInts] at h
 exact⟨a,ns,rfl,aT.of h,ne,fun M m1 m2=>k _ _ _ (aE.refl _) (.int M) (q M m1 m2)⟩
theorem aR3 (B:Bt X.mg) (hc:X.calm=true) (ha:QA X [e] tr) (hg:Gl X "max":=by rfl) (he:starEach [e] X.env=(false,eval e X.env) :: starEach [] X.env:=by rfl) (hpl:(backTo pos (starEach [] X.env)).any (·.1)=false:=by rfl):QE X (.Call (.Name "max" p2) [e] [] pos) (aG xX tr):=
 iV (aR1 hc) aR2 hg B.max PyProof.Rows.boot_max ha (he:=he) (hpl:=hpl)
def pQ:List PV->(PV->Prop)->Prop:=fun xs Q=>(∃ i,xs = [.int i]/\Q (.int i)) ∨ ∃ k,xs = [.bl k]/\Q (.int (if k then 1 else 0))
theorem aR4:eY X pQ (fun xs H Q=>(∃ i,xs = [.int i]/\Q (.int i) H) ∨ ∃ k,xs = [.bl k]/\Q (.int (if k then 1 else 0)) H):=by
 rintro H vs xs Q Q' r (⟨i,rfl,q⟩ | ⟨i,rfl,q⟩) k
 ·obtain ⟨v,rfl,r1⟩:=r.one
  cases r1
  exact .inl ⟨i,rfl,k _ _ _ (aE.refl _) (.int _) q⟩
 ·obtain ⟨v,rfl,r1⟩:=r.one
  cases r1
  exact .inr ⟨i,rfl,k _ _ _ (aE.refl _) (.int _) q⟩
theorem xY (B:Bt X.mg) (ha:QA X [e] tr) (hg:Gl X "int":=by rfl) (he:starEach [e] X.env=(false,eval e X.env) :: starEach [] X.env:=by rfl) (hpl:(backTo pos (starEach [] X.env)).any (·.1)=false:=by rfl):QE X (.Call (.Name "int" p2) [e] [] pos) (aG pQ tr):=
 wG aq6 aR4 hg B.int PyProof.Rows.boot_int ha (he:=he) (hpl:=hpl)
open Classical in
theorem X9 {A:Around} (hu:A.units+2 < cLine) {pins:List (Addr × Obj)}{s:Shared}{H:Hp}{us:List V}{its:List Value}{rs:List (List Int)}{ns:List Int}{x:V}{v:Value} (I:a7 X pins σ H s) (rx:aV x v) (r:aS us its)
  (rn:aD X.K (fun _=>True) H x (.tup (intz ns))) (rr:Reps X.K (fun _=>True) H us (rs.map fun r=>PV.tup (intz r))):∃ f:Value->Bool,∀ (j:Nat) (w:Value),its[j]? = some w->∃ m,rs[j]? = some m/\SeqAt.EqAt A s w v (f w)/\f w=decide (m=ns):=by
 have lr:=r.length
 have lp:=rr.length
 rw [bk8] at lp
 refine⟨fun w=>decide (∃ v',aV v' w/\aD X.K (fun _=>True) H v' (.tup (intz ns))),fun j w hw=>?_⟩
 have hj:=(bl0.mp hw).1
 have h1:j < us.length:=by omega
 obtain ⟨w',hw',rw'⟩:=r.get (bk5 h1)
 rw [hw] at hw'
 cases hw'
 obtain ⟨m',hm',rm⟩:=rr.get (bk5 h1)
 rw [bl9] at hm'
 cases hm:rs[j]? with
 | none=>rw [hm] at hm'; cases hm'
 | some m=>
  rw [hm] at hm'
  cases hm'
  have e2:(decide (∃ v',aV v' w/\aD X.K (fun _=>True) H v' (.tup (intz ns))))=decide (m=ns):=by
   have:(∃ v',aV v' w/\aD X.K (fun _=>True) H v' (.tup (intz ns))) ↔ m=ns:=by
    refine⟨fun ⟨v',h1',h2'⟩=>?_,fun e=>⟨_,rw',by rw [<- e]; exact rm⟩⟩
    obtain ⟨p1,w1,e1,_,_⟩:=rm.sqT
    obtain ⟨p2,w2,e2,_,_⟩:=h2'.sqT
    rw [e1] at rw' rm
    rw [e2] at h1' h2'
    cases rw'
    cases h1'
    exact aQ0 rm h2'
   exact decide_eq_decide.mpr this
  refine⟨m,rfl,?_,e2⟩
  show SeqAt.EqAt A s w v (decide _)
  rw [e2]
  have:=N2 I 2 (A:=A) hu rm rn rw' rx (by exact w5 1 m ns)
  rw [w4 1] at this
  exact this
def Y0 (K:PySem.W.Frag):R2:=fun x y H Q=>∃ p us ns,∃ rs:List (List Int),y = .ref p/\H p=some (.lst us)/\aD K (fun _=>True) H x (.tup (intz ns))/\Reps K (fun _=>True) H us (rs.map fun r=>PV.tup (intz r))/\Q (.bl (!decide (ns ∈ rs))) H
theorem aR5 (hu:X.A.units+3 < cLine):bN X (compareOp .NotIn) (Y0 X.K):=by
 intro pins s σ H x y v u Q I rx ry h
 obtain ⟨p,us,ns,rs,rfl,hp,rn,rr,q⟩:=h
 cases ry
 obtain ⟨its,r,pl,hz⟩:=I.list (aT.of (K:=X.K) hp)
 have lr:=r.length
 have lp:=rr.length
 rw [bk8] at lp
 obtain ⟨f,key⟩:=X9 (A:=X.A.in1) (by show X.A.units+1+2 < cLine; omega) I rx r rn rr
 refine SeqAt.notIn_listAt f pl.isList (fun w hw=>?_) ⟨.bl _,H,I,rfl,?_⟩
 ·have hw:w ∈ its:=by simpa using hw
  obtain ⟨j,hj⟩:=bw4 hw
  obtain ⟨m,_,h1,h2⟩:=key j w hj
  exact h1
 ·have:its.toArray.any f=decide (ns ∈ rs):=by
   rw [show its.toArray.any f=its.any f by simp,bs3,List.any_eq_true,bm4]
   refine⟨fun ⟨w,hw,e⟩=>?_,fun h=>?_⟩
   ·obtain ⟨j,hj⟩:=bw4 hw
    obtain ⟨m,hm,_,h2⟩:=key j w hj
    rw [h2,bm4] at e
    rw [<- e]; exact br3 hm
   ·obtain ⟨j,hj⟩:=bw4 h
    have hl:=(bl0.mp hj).1
    obtain ⟨m,hm,_,h2⟩:=key j its[j] (bk5 (by omega))
    rw [hj] at hm
    cases hm
    exact⟨its[j]'(by omega),bw3 _,by rw [h2]; exact bk4 rfl⟩
  rw [this]
  exact q
def sR:PV->Tg->PV->Tg->PK->Prop:=fun x _ y _ Q=>∃ ns,∃ rs:List (List Int),x = .tup (intz ns)/\y = .lst (rs.map fun r=>PV.tup (intz r))/\Q (.bl (!decide (ns ∈ rs))) .fr
theorem aR6:dR X sR (Y0 X.K):=by
 rintro W Hs H u v x y g g' Q Q' s n r1 r2 ⟨ns,rs,rfl,rfl,q⟩ k
 obtain ⟨p,us,rfl,_,h,r⟩:=r2.sqL
 exact⟨p,us,ns,rs,rfl,h,r1.same (aE.refl _) (fun _ _=>trivial),r.same (aE.refl _) (fun _ _=>trivial),k _ _ _ .fr (aE.refl _) (.bl _) q⟩
theorem aR7 (hu:X.A.units+3 < cLine) (ha:QE X a ta) (hb:QE X b tb) (hm:behindInMarks .NotIn b=false:=by rfl):QT X (.Compare a [.NotIn] [b] pos) (aW (q2 sR ta tb)):=iT (aR5 hu) aR6 ha hb hm
end
section
variable {X : Cx} {a b e : Expr} {ta tb te : aB} {tr : cP} {pos : Pos} {σ : St} {H : Hp} {Q' : VK} {es : List Expr}
def Y1:PV->Tg->PV->Tg->PK->Prop:=fun x _ y _ Q=>∃ i j:Str,x = .str i/\y = .str j/\i.length+j.length<=1000/\Q (.str (i ++ j)) .fr
abbrev xZ (ta tb:aB):aB:=q2 Y1 ta tb
theorem aR8:dR X Y1 (fun x y H Q=>∃ i j:Str,x = .str i/\y = .str j/\i.length+j.length<=sizeLine/\Q (.str (i ++ j)) H):=by
 rintro W Hs H u v x y g g' Q Q' s n r1 r2 ⟨i,j,rfl,rfl,h,q⟩ k
 cases r1; cases r2
 exact⟨i,j,rfl,rfl,qZ h,k _ _ _ _ (aE.refl _) (.str _) q⟩
theorem Y2 (ha:QE X a ta) (hb:QE X b tb):QE X (.BinOp a .Add b pos) (xZ ta tb):=jM aq3 aR8 ha hb
def Y3:R2:=fun x y H Q=>∃ (i:Str) (k:Bool),x = .str i/\y = .int (if k then 1 else 0)/\Q (.str (if k then i else Str.empty)) H
theorem aR9:bN X (binaryOp .Mult) Y3:=by
 intro pins s σ H x y v u Q I rx ry h
 obtain ⟨i,k,rfl,rfl,q⟩:=h
 obtain ⟨t,rfl⟩:=rx
 obtain ⟨t',rfl⟩:=ry
 cases k with
 | true=>exact SB.mul (n:=1) ⟨by decide,fun _ z=>by simp at z,fun _ z=>by simp at z⟩ fun t' tk=>⟨.str i,H,I.tok _,⟨t',by simp [Txt.mul]⟩,q⟩
 | false=>exact SB.mul (n:=0) ⟨by decide,fun z=>absurd (by decide) z,fun z=>absurd (by decide) z⟩ fun t' tk=>⟨.str Str.empty,H,I.tok _,⟨t',by simp [Txt.mul]⟩,q⟩
def Y4:PV->Tg->PV->Tg->PK->Prop:=fun x _ y _ Q=>∃ (i:Str) (k:Bool),x = .str i/\y = .int (if k then 1 else 0)/\Q (.str (if k then i else Str.empty)) .fr
abbrev sS (ta tb:aB):aB:=q2 Y4 ta tb
theorem aS0:dR X Y4 Y3:=by
 rintro W Hs H u v x y g g' Q Q' s n r1 r2 ⟨i,j,rfl,rfl,q⟩ k
 cases r1; cases r2
 exact⟨i,j,rfl,rfl,k _ _ _ _ (aE.refl _) (.str _) q⟩
theorem yA (ha:QE X a ta) (hb:QE X b tb):QE X (.BinOp a .Mult b pos) (sS ta tb):=jM aR9 aS0 ha hb
def pS (neg:Bool):PV->Tg->PV->Tg->PK->Prop:=fun x _ y _ Q=>∃ i j:Str,x = .str i/\y = .str j/\Q (.bl (if neg=true then !decide (i=j) else decide (i=j))) .fr
theorem aS1 (i j:Str):decide (V.str i=V.str j)=decide (i=j):=by
 rw [bs3,bm4,bm4]; exact⟨fun z=>V.str.inj z,fun z=>congrArg V.str z⟩
theorem aS2:dR X (pS true) uH:=by
 rintro W Hs H u v x y g g' Q Q' s n r1 r2 ⟨i,j,rfl,rfl,q⟩ k
 cases r1; cases r2
 exact⟨rfl,by rw [aS1]; exact k _ _ _ _ (aE.refl _) (.bl _) q⟩
theorem yB (ha:QE X a ta) (hb:QE X b tb):QT X (.Compare a [.NotEq] [b] pos) (aW (q2 (pS true) ta tb)):=iT zY aS2 ha hb (eU _)
end
end PP
namespace Core
open PySem L2 PP
def G0 (ws:List Int) (ls:List (Int × Int)) (ns R:List Int):Prop:=W9 ws ls ns R=true/\aN9 ws ls (ns ++ R)
end Core
namespace PP
open PySem L2
section
variable {X : Cx} {a b : Expr} {ta tb : aB} {pos : Pos}
def sU:PV->Tg->PV->Tg->PK->Prop:=fun x _ y _ Q=>∃ ns ms:List Int,x = .tup (intz ns)/\y = .tup (intz ms)/\Q (.bl (HT.aR ns ms)) .fr
theorem Y5:dR X sU (uP X.K):=by
 rintro W Hs H u v x y g g' Q Q' s n r1 r2 ⟨ns,ms,rfl,rfl,q⟩ k
 obtain ⟨p1,us,rfl,h1,r1⟩:=r1.sqT
 obtain ⟨p2,vs,rfl,h2,r2⟩:=r2.sqT
 obtain rfl:=r1.ofInts
 obtain rfl:=r2.ofInts
 exact⟨p1,p2,ns,ms,rfl,rfl,aU.of h1,aU.of h2,k _ _ _ _ (aE.refl _) (.bl _) q⟩
theorem aS3 (hu:X.A.units+3 < cLine) (ha:QE X a ta) (hb:QE X b tb):QE X (.Compare a [.Lt] [b] pos) (q2 sU ta tb):=lM (B9 (by omega)) Y5 ha hb (eU _)
end
end PP
namespace L2
open PySem PySem.Spec PyProof.Rows PP
section
variable {prog : Program} {w : World} {A : Around} {R : Result → Shared → Prop} {I S : Addr} {n : Nat} {l : Addr} {its : Array Value} {s0 : Shared} {bt : Nat → Nat → Bool}
abbrev at_ (s:Shared) (h:Heap) (k:Nat):Shared:={ s with heap:=h,toks:=k }
abbrev dM (g h:Heap):Prop:=∀ b o,g.get? b=some o->h.get? b=some o
def cL (prog:Program) (w:World) (A:Around) (s0:Shared) (its:Array Value) (bt:Nat->Nat->Bool):Prop:=
 ∀ (i j:Nat) (v u:Value) (h:Heap) (k:Nat) (Q E:Value->Shared->Prop),its[i]? = some v->its[j]? = some u->dM s0.heap h->Q (.bool (bt i j)) (at_ s0 h k)->wpAny (model prog w) A (richCompare .Lt v u) Q E (at_ s0 h k)
end
section
variable {prog : Program} {w : World} {A : Around} {s0 : Shared} {l : Addr} {its : Array Value} {bt : Nat → Nat → Bool}
theorem sV {h:Heap}{a:Addr} (z:h.objs.size<=a):h.get? a=none:=by
 cases q:h.get? a with
 | none=>rfl
 | some o=>exact absurd (bl5 q) (Nat.not_lt.mpr z)
end
end L2
namespace Core
open PySem L2 PP
def FB (L:List (List Int)) (f:List Int->Int) (r:List Int):Prop:=∃ i,L[i]? = some r/\(∀ (j:Nat) (s:List Int),j < i->L[j]? = some s->f s < f r)/\∀ s ∈ L,f s<=f r
end Core
namespace PP
open PySem L2
section
variable {X : Cx} {a b e : Expr} {ta tb : aB} {tr : cP} {pos p2 : Pos}
def Y6 (K:PySem.W.Frag):R2:=fun x y H Q=>eR (fun i j=>.bl (decide (i < j))) x y H Q ∨ uP K x y H Q
theorem aS4 (hu:X.A.units < cLine):bN X (compareOp .Lt) (Y6 X.K):=by
 intro pins s σ H x y v u Q I rx ry h
 rcases h with h | h
 ·exact qJ pins s σ H x y v u Q I rx ry h
 ·exact B9 hu pins s σ H x y v u Q I rx ry h
def sW:PV->Tg->PV->Tg->PK->Prop:=fun x g y g' Q=>eG (fun i j=>.bl (decide (i < j))) x g y g' Q ∨ sU x g y g' Q
theorem aS5:dR X sW (Y6 X.K):=by
 intro W Hs H u v x y g g' Q Q' s n r1 r2 h k
 rcases h with h | h
 ·exact .inl (lC W Hs H u v x y g g' Q Q' s n r1 r2 h k)
 ·exact .inr (Y5 W Hs H u v x y g g' Q Q' s n r1 r2 h k)
theorem aS6 (hu:X.A.units+1 < cLine) (ha:QE X a ta) (hb:QE X b tb):QE X (.Compare a [.Lt] [b] pos) (q2 sW ta tb):=lM (aS4 (by omega)) aS5 ha hb (eU _)
end
end PP
namespace L2
open PySem PySem.Spec PyProof.Rows
section
variable {X : Cx}
def Y7 (K:PySem.W.Frag) (ta:TA):TI:=fun σ H R=>ta σ H fun vs H1=>∃ a b,vs = [.ref a,.ref b]/\((∃ xs ys,aU K H1 a xs/\aU K H1 b ys/\R (vK K a b) H1) ∨ ∃ xs ys,aT K H1 a xs/\aT K H1 b ys/\R (vM K a b) H1)
theorem aS7 {elts:List Expr}{kt:Nat}{pt:Pos}{a b:Expr}{ta:TA}{p pos:Pos} (hg:Gl X "zip") (hm:X.mg "zip" = none) (ha:PA X [a,b] ta) (hs:starEach [a,b] X.env = [(false,eval a X.env),(false,eval b X.env)]:=by rfl) (hs2:starEach [b] X.env = [(false,eval b X.env)]:=by rfl) :
  PI X (.Tuple elts kt pt) (.Call (.Name "zip" p) [a,b] [] pos) (Y7 X.K ta):=by
 intro pins s σ H R I h
 refine Call_ (kW I hg hm PyProof.Rows.boot_zip (bw6 (aL (ha pos pins s σ H _ I h) fun us s1 ⟨vs,H1,I1,r1,q1⟩=>?_) (by rw [hs,hs2]) (by rw [hs2]; rfl)))
 obtain ⟨a',b',e,q1⟩:=q1
 subst e
 obtain ⟨u1,u2,rfl,r,r'⟩:=aS.two r1
 cases r
 cases r'
 have fresh:∀ k,H1 (s1.heap.objs.size+k)=none:=fun k=>I1.hok.fresh (bv2 _ _)
 have fp:∀ c ∈ [s1.heap.objs.size+4,s1.heap.objs.size+2,s1.heap.objs.size+3,s1.heap.objs.size,s1.heap.objs.size+1],gG X pins H1 c:=fun c hc=>by
  simp only [bk6,bl4,bo6] at hc
  rcases hc with rfl | rfl | rfl | rfl | rfl
  ·exact I1.fpOk (bv2 _ _) (fresh 4)
  ·exact I1.fpOk (bv2 _ _) (fresh 2)
  ·exact I1.fpOk (bv2 _ _) (fresh 3)
  ·exact I1.fpOk (bl1 _) (fresh 0)
  ·exact I1.fpOk (bv2 _ _) (fresh 1)
 rcases q1 with ⟨xs,ys,h1,h2,q⟩ | ⟨xs,ys,h1,h2,q⟩
 ·obtain ⟨us,_,p1,_⟩:=I1.tuple h1
  obtain ⟨ws,_,p2,_⟩:=I1.tuple h2
  refine Zp.ay5 p1 p2 fun h' z ti to s1' s2' kp=>wpAny_pyIter_zip z ?_
  exact⟨s1.heap.objs.size+4,[s1.heap.objs.size+4,s1.heap.objs.size+2,s1.heap.objs.size+3,s1.heap.objs.size,s1.heap.objs.size+1],_,_,H1,rfl,I1.kept (t':=s1.toks) kp,ay8 a' b' _ _ _ _ _ (by simp),⟨z,ti,⟨_,_,to⟩,s1',s2'⟩,fp,q⟩
 ·obtain ⟨us,_,p1,_⟩:=I1.list h1
  obtain ⟨ws,_,p2,_⟩:=I1.list h2
  refine call_zip_2 p1.isList p2.isList fun h' z ti to s1' s2' _ kp=>wpAny_pyIter_zip z ?_
  exact⟨s1.heap.objs.size+4,[s1.heap.objs.size+4,s1.heap.objs.size+2,s1.heap.objs.size+3,s1.heap.objs.size,s1.heap.objs.size+1],_,_,H1,rfl,I1.kept (t':=s1.toks) kp,az4 a' b' _ _ _ _ _ (by simp),⟨z,ti,⟨_,_,to⟩,s1',s2'⟩,fp,q⟩
end
end L2
namespace PP
open PySem L2
theorem aS8 {K:PySem.W.Frag}{H0:Hp}{W:Addr->Prop}{g:Bool}{H1:Hp}{a b:Addr}{us vs:List V}{xs ys:List PV} (tw:∀ a,W a->∃ o,H1 a=some o/\fY o=true) (ha:∀ W' H',Ev W H1 W' H'->aT K H' a us) (hb:∀ W' H',Ev W H1 W' H'->aT K H' b vs)
  (r:Reps K (Ms H0 W g) H1 us xs) (r':Reps K (Ms H0 W g) H1 vs ys):kF K H0 W g H1 (vM K a b) (iY xs ys):=by
 have lr:=r.length
 have lr':=r'.length
 have ll:=xH xs ys
 refine⟨fun W' H' i e hi=>⟨us,vs,us[i]'(by omega),vs[i]'(by omega),ha W' H' e,hb W' H' e,by simp,by simp⟩,fun W' H' i v H2 e y hi=>?_,fun W' H' e=>⟨us,vs,ha W' H' e,hb W' H' e,by omega⟩⟩
 obtain ⟨T,x,y',hT,rfl,rfl,y⟩:=y
 obtain ⟨h1,h2⟩:=y us vs (ha W' _ e) (hb W' _ e)
 obtain ⟨z,hz,rz⟩:=r.get h1
 obtain ⟨z',hz',rz'⟩:=r'.get h2
 have sm:=cA hT (HO.tup [x,y'])
 exact⟨sm,_,U8 hz hz',.tup cH (.cons ((rz.keep (e.keep tw)).same sm fun _ q=>q) (.cons ((rz'.keep (e.keep tw)).same sm fun _ q=>q) .nil))⟩
section
variable {X : Cx} {σ : L2.St} {H : Hp} {ta tb : aB} {R : It → Hp → Prop}
def yC (ta tb:aB):fB:=fun ρ Q=>ta ρ fun x g0=>tb ρ fun y g=>∃ xs ys,((x = .tup xs/\y = .tup ys) ∨ (x = .lst xs/\y = .lst ys/\g0 ≠ .rd/\g ≠ .rd))/\flats xs=true/\flats ys=true/\Q (iY xs ys) true
theorem Y8 {K:PySem.W.Frag}{H0 Hs:Hp}{W:Addr->Prop}{σ:L2.St}{ρ:bC}{g:Tg}{b:Addr} (px:PX K H0 W σ ρ Hs) (ng:g ≠ .rd) (m:Mg H0 W Hs g b) : ¬ W b:=by
 cases g with
 | fr=>exact (px.new m).1
 | nw=>exact m.1
 | sh=>exact m
 | rd=>exact absurd rfl ng
theorem aS9 (h:LI X (yC ta tb) σ H R):Y7 X.K (kA (LE X ta) (kA (LE X tb) kZ)) σ H R:=by
 obtain ⟨W,ρ,Q,px,q,k⟩:=h
 refine⟨W,ρ,_,px,q,fun v0 H0 x0 g0 s0 r0 q0=>⟨W,ρ,_,px.mono s0,q0,?_⟩⟩
 rintro v H1 x g s r ⟨xs,ys,c,fx,fy,q⟩
 have S:=s0.trans s
 have px1:=px.mono S
 have tw:∀ a,W a->∃ o,H1 a=some o/\fY o=true:=fun a z=>(px1.wm a z).2
 rcases c with ⟨rfl,rfl⟩ | ⟨rfl,rfl,n0,n1⟩
 ·obtain ⟨a,us,rfl,h1,ra⟩:=(r0.same (M':=fun _=>True) s fun _ _=>trivial).sqT
  obtain ⟨b,vs,rfl,h2,rb⟩:=r.sqT
  have sta:∀ {c us},H1 c=some (.tup us)->∀ W' H',Ev W H1 W' H'->aU X.K H' c us:=fun {c us} hc W' H' e=>aU.of (e _ _ hc fun z=>by obtain ⟨o,h',mu⟩:=tw _ z; rw [hc] at h'; cases h'; cases mu).1
  exact⟨a,b,rfl,.inl ⟨us,vs,aU.of h1,aU.of h2,k _ _ _ _ S (aO7 tw (sta h1) (sta h2) (ra.flat fx) (rb.flat fy)) q⟩⟩
 ·obtain ⟨a,us,rfl,m0,h1,ra⟩:=(r0.same s fun _ z=>z).sqL
  obtain ⟨b,vs,rfl,m1,h2,rb⟩:=r.sqL
  have w0:=Y8 px n0 m0
  have w1:=Y8 (px.mono s0) n1 m1
  exact⟨a,b,rfl,.inr ⟨us,vs,aT.of h1,aT.of h2,k _ _ _ _ S (aS8 tw (fun W' H' e=>aT.of (e _ _ h1 w0).1) (fun W' H' e=>aT.of (e _ _ h2 w1).1) (ra.flat fx) (rb.flat fy)) q⟩⟩
theorem aT0 {elts:List Expr}{kt:Nat}{pt p2 pos:Pos}{a b:Expr} (B:Bt X.mg) (ha:QE X a ta) (hb:QE X b tb) (hg:Gl X "zip":=by rfl) (hs:starEach [a,b] X.env = [(false,eval a X.env),(false,eval b X.env)]:=by rfl) (hs2:starEach [b] X.env = [(false,eval b X.env)]:=by rfl):QI X (.Tuple elts kt pt) (.Call (.Name "zip" p2) [a,b] [] pos) (yC ta tb):=
 rH (aS7 hg B.zip (fV ha (fV hb iO hs2) (by rw [hs,hs2])) hs hs2) fun _ _ _=>aS9
end
end PP
namespace Core
open PySem L2 PP
theorem aT1 (xs:List PV):jL xs (some 1) none=xs.drop 1:=by
 unfold jL
 have e1:HT.b6 xs.length 0 (some 1)=min 1 xs.length:=by
  show (if (1:Int) < 0 then ((1:Int)+(xs.length:Int)).toNat else min (1:Int).toNat xs.length)=_
  rw [if_neg (by decide)]; rfl
 rw [e1]
 show (xs.drop (min 1 xs.length)).take (xs.length - min 1 xs.length)=_
 rw [br4 (by rw [bz1]; exact bl1 _)]
 cases xs with
 | nil=>rfl
 | cons x xs=>rw [show min 1 (x :: xs).length=1 by simp]
def sX {α:Type} (lt:α->α->Bool) (A:List α):Bool:=((A.zip (A.drop 1)).map fun p=>lt p.1 p.2).all id
def Y9:aP:=(bG (aG rB (a6 (hJ (yC (a5 0) (wA (a5 0) (w9 (qC (.int 1))) w6)) [none,none] (gN 0 1) g9 (q2 sW (a5 0) (a5 1))) aA)))
theorem Z0 {α:Type} (f:α->PV) (lt:α->α->Bool) (fl:∀ a,flat (f a)=true) (hlt:∀ (a b:α) (g g':Tg) (K:PK),K (.bl (lt a b)) .fr->sW (f a) g (f b) g' K) (A:List α) (la:A.length<=10000) (x:PV) (hx:x = .tup (A.map f) ∨ x = .lst (A.map f)) {Q:PV->Prop} (q:Q (.bl (sX lt A))) :
  Y9 { nx:=fun _=>Q .non,rt:=Q } [some (.sh (flat x) x)]:=by
 have fls:∀ B:List α,flats (B.map f)=true:=fun B=>by
  induction B with
  | nil=>rfl
  | cons b B ih=>show (flat (f b) && flats (B.map f))=true; rw [fl,ih]; rfl
 have sx:rA x=some (A.map f):=by rcases hx with rfl | rfl <;> rfl
 have cut:jL (A.map f) (some 1) none=(A.drop 1).map f:=by rw [aT1,List.map_drop]
 refine⟨_,rfl,_,rfl,_,rfl,_,sx,fls A,?_⟩
 rw [cut]
 refine⟨A.map f,(A.drop 1).map f,?_,fls A,fls _,?_⟩
 ·rcases hx with rfl | rfl
  ·exact .inl ⟨rfl,rfl⟩
  ·refine .inr ⟨rfl,rfl,?_,fun z=>by cases z⟩
   cases flat (.lst (A.map f)) <;> intro z <;> cases z
 have zl:(iY (A.map f) ((A.drop 1).map f)).length=A.length - 1:=by rw [xH,bk8,bk8,bz1]; omega
 refine⟨by rw [zl]; omega,fun i acc=>acc=W8 (((A.zip (A.drop 1)).take i).map fun p=>lt p.1 p.2),rfl,?_,?_⟩
 ·rintro i y acc hy rfl
  obtain ⟨u,v,h1,h2,rfl⟩:=aO6 hy
  rw [bl9] at h1 h2
  cases ha:A[i]? with
  | none=>rw [ha] at h1; cases h1
  | some a=>
   cases hb:(A.drop 1)[i]? with
   | none=>rw [hb] at h2; cases h2
   | some b=>
    rw [ha] at h1
    rw [hb] at h2
    cases h1
    cases h2
    have hz:(A.zip (A.drop 1))[i]? = some (a,b):=List.getElem?_zip_eq_some.mpr ⟨ha,hb⟩
    refine⟨_,_,rfl,_,rfl,_,rfl,hlt a b _ _ _ ⟨trivial,?_⟩⟩
    dsimp only
    rw [bo8,hz,bm5]
    unfold W8
    rw [bm5]; rfl
 ·rintro acc rfl
  rw [br4 (by rw [zl,List.length_zip,bz1]; omega)]
  exact⟨_,rfl,trivial,q⟩
theorem aT2 (ls:List (Int × Int)):sX (fun a b=>HT.aR [a.1,a.2] [b.1,b.2]) ls=true ↔ ls.Pairwise fN:=by
 have lt2:∀ a b:Int × Int,HT.aR [a.1,a.2] [b.1,b.2]=true ↔ fN a b:=fun a b=>by
  unfold fN
  rw [HT.gX,HT.gX,HT.qN]
  by_cases h1:a.1=b.1
  ·rw [if_pos h1]
   by_cases h2:a.2=b.2
   ·rw [if_pos h2]
    exact⟨fun z=>(by cases z),fun z=>(by omega)⟩
   ·rw [if_neg h2,bm4]; omega
  ·rw [if_neg h1,bm4]; omega
 induction ls with
 | nil=>exact⟨fun _=>.nil,fun _=>rfl⟩
 | cons a r ih=>
  cases r with
  | nil=>exact⟨fun _=>bp4 _ _,fun _=>rfl⟩
  | cons b r=>
   have e:sX (fun a b:Int × Int=>HT.aR [a.1,a.2] [b.1,b.2]) (a :: b :: r)=(HT.aR [a.1,a.2] [b.1,b.2] && sX (fun a b:Int × Int=>HT.aR [a.1,a.2] [b.1,b.2]) (b :: r)):=rfl
   rw [e,br1,lt2,List.pairwise_cons]
   refine⟨fun ⟨h1,h2⟩=>⟨fun c hc=>?_,ih.mp h2⟩,fun ⟨h1,h2⟩=>⟨h1 b bl6,ih.mpr h2⟩⟩
   rcases bk6.mp hc with rfl | hc
   ·exact h1
   ·have:=(List.pairwise_cons.mp (ih.mp h2)).1 c hc
    unfold fN at *; omega
theorem m8 {ls:List (Int × Int)} (h:ls.Pairwise fN):ls.Nodup:=h.imp fun {a b} z e=>by subst e; unfold fN at z; omega
def sY:bS:=fun xs Q=>∃ x,xs = [x]/\((∃ ns,S6 x ns/\ns.length<=1000/\Q (.bl (x3 ns))) ∨ ∃ ls:List (Int × Int),(x = .tup (aF ls) ∨ x = .lst (aF ls))/\ls.length<=4096/\∀ b:Bool,(b=true ↔ ls.Pairwise fN)->Q (.bl b))
abbrev Z1:aP:=Y9
theorem aT3:cV Z1 ["things"] sY:=by
 rintro xs Q ⟨x,rfl,⟨ns,hx,hl,q⟩ | ⟨ls,hx,hl,q⟩⟩
 ·exact Z0 PV.int (fun a b=>decide (a < b)) (fun _=>rfl) (fun a b g g' K h=>.inl ⟨_,_,rfl,rfl,h⟩) ns (by omega) x hx q
 ·exact Z0 (fun l:Int × Int=>PV.tup [.int l.1,.int l.2]) (fun a b=>HT.aR [a.1,a.2] [b.1,b.2]) (fun _=>rfl) (fun a b g g' K h=>.inr ⟨_,_,rfl,rfl,h⟩) ls (by omega) x hx (q _ (aT2 ls))
def bE (r c:Int):Prop:=1<=r/\r<=40/\1<=c/\c<=40
def sZ:eB:=fun Ep xs Q=>∃ r c:Int,xs = [.int r,.int c]/\(bE r c->Q .non)/\(¬ bE r c->Ep "BadBoard")
def Z2 (Ep:Str->Prop):aP:=(bR (iC (aW (iS (aG mV (a6 (a5 0) (a6 (a5 1) aA))) (qC (.int 1)))) (aW (nB (aG kE (a6 (a5 0) (a6 (a5 1) aA))) (qC (.int 40))))) (lW Ep "BadBoard" (a6 (qC (.str "a board has from 1 to 40 rows and columns")) aA)) bW)
theorem aT4:m6 Z2 ["rows","columns"] sZ:=by
 rintro Ep xs Q ⟨r,c,rfl,q,ex⟩
 refine⟨_,rfl,_,rfl,_,_,rfl,_,_,rfl,rfl,_,rfl,?_⟩
 show if decide ((if c < r then c else r) < 1)=true then _ else _
 by_cases h1:(if c < r then c else r) < 1
 ·rw [bk4 h1]
  exact b7 (b7 ⟨by decide,ex fun z=>by unfold bE at z; split at h1 <;> omega⟩)
 rw [bk1 h1]
 refine aJ ⟨_,rfl,_,rfl,_,_,rfl,_,_,rfl,rfl,_,rfl,?_⟩
 show if decide ((if c > r then c else r) > 40)=true then _ else _
 by_cases h2:(if c > r then c else r) > 40
 ·rw [bk4 h2]
  exact b7 ⟨by decide,ex fun z=>by unfold bE at z; split at h2 <;> omega⟩
 rw [bk1 h2]
 refine aJ (q ?_)
 unfold bE
 split at h1 <;> split at h2 <;> omega
def bF (r c:Int) (l:Int × Int):Bool:=decide (0<=l.1) && (decide (l.1 < r) && (decide (0<=l.2) && decide (l.2 < c)))
theorem eM {r c:Int}{l:Int × Int}:bF r c l=true ↔ 0<=l.1/\l.1 < r/\0<=l.2/\l.2 < c:=by
 unfold bF
 simp only [br1,bm4]
def t0:bS:=fun xs Q=>∃ (r c:Int) (l:Int × Int),xs = [.int r,.int c,.tup [.int l.1,.int l.2]]/\Q (.bl (bF r c l))
def Z3:aP:=(bG (iD (rG (b8 (a5 2) (qC (.int 0))) (qC (.int 0))) (iD (iS (b8 (a5 2) (qC (.int 0))) (a5 0)) (iD (rG (b8 (a5 2) (qC (.int 1))) (qC (.int 0))) (iS (b8 (a5 2) (qC (.int 1))) (a5 1))))))
theorem aT5:cV Z3 ["rows","columns","cell"] t0:=by
 rintro xs Q ⟨r,c,l,rfl,q⟩
 unfold bF at q
 refine⟨_,rfl,_,_,_,rfl,rfl,rfl,_,_,rfl,rfl,_,rfl,?_⟩
 show if decide (l.1 >= 0)=true then _ else _
 by_cases h1:0<=l.1
 ·rw [bk4 h1] at q
  rw [bk4 (show l.1 >= 0 from h1)]
  refine b7 ⟨_,rfl,_,_,_,rfl,rfl,rfl,_,rfl,_,_,rfl,rfl,_,rfl,?_⟩
  show if decide (l.1 < r)=true then _ else _
  by_cases h2:l.1 < r
  ·rw [bk4 h2] at q ⊢
   refine b7 ⟨_,rfl,_,_,_,rfl,rfl,rfl,_,_,rfl,rfl,_,rfl,?_⟩
   show if decide (l.2 >= 0)=true then _ else _
   by_cases h3:0<=l.2
   ·rw [bk4 h3] at q
    rw [bk4 (show l.2 >= 0 from h3)]
    exact b7 ⟨_,rfl,_,_,_,rfl,rfl,rfl,_,rfl,_,_,rfl,rfl,trivial,q⟩
   ·rw [bk1 h3] at q
    rw [bk1 (show ¬ l.2 >= 0 from h3)]
    exact aJ ⟨trivial,q⟩
  ·rw [bk1 h2] at q ⊢
   exact aJ ⟨trivial,q⟩
 ·rw [bk1 h1] at q
  rw [bk1 (show ¬ l.1 >= 0 from h1)]
  exact aJ ⟨trivial,q⟩
def bY (r c:Int) (ls:List (Int × Int)):Prop:=ls.Pairwise fN/\∀ l ∈ ls,bF r c l=true
def kK:eB:=fun Ep xs Q=>∃ (r c:Int) (x:PV) (ls:List (Int × Int)),xs = [.int r,.int c,x]/\(x = .tup (aF ls) ∨ x = .lst (aF ls))/\ls.length<=4096/\(¬ bE r c->Ep "BadBoard")/\(bE r c->¬ bY r c ls->Ep "BadSet")/\(bE r c->bY r c ls->Q (.tup (aF ls)))
def Z4 (Ep:Str->Prop):aP:=(aH (vT (iZ Ep sZ (a6 (a5 0) (a6 (a5 1) aA))))
 (aH (bR (iC (hG (aW (aG sY (a6 (a5 2) aA)))) (hG (aW (aG rB (a6 (hJ (dI (a5 2)) [none,some 0,some 1] (cQ 0) g9 (aG t0 (a6 (a5 1) (a6 (a5 2) (a6 (a5 0) aA))))) aA))))) (lW Ep "BadSet" (a6 (qC (.str "a set is of rising cells of the board")) aA)) bW)
 (bG (aG oT (a6 (a5 2) aA)))))
theorem aT6:m6 Z4 ["rows","columns","cells"] kK:=by
 rintro Ep xs Q ⟨r,c,x,ls,rfl,hx,hl,e1,e2,q⟩
 have sx:jJ x=some (aF ls):=by rcases hx with rfl | rfl <;> rfl
 have pl:(aF ls).length=ls.length:=bk8 _
 have tg:(Slot.sh (flat x) x).tag = .rd->flat x=true:=by cases flat x <;> intro z <;> cases z
 refine⟨_,rfl,_,rfl,r,c,rfl,fun ok=>?_,e1⟩
 refine⟨_,rfl,_,rfl,.inr ⟨ls,hx,hl,fun b hb=>⟨_,rfl,?_⟩⟩⟩
 cases b with
 | false=>exact b7 (b7 ⟨by decide,e2 ok fun z=>by have:=hb.mpr z.1; cases this⟩)
 | true=>
  have ord:=hb.mp rfl
  refine aJ ⟨_,rfl,aF ls,sx,tg,by rw [pl]; omega,fun i acc=>acc=(((ls.take i).map (bF r c)).map PV.bl),rfl,?_,?_⟩
  ·rintro i z acc hz rfl
   obtain ⟨l,rfl,hlm⟩:=lU hz
   refine⟨_,rfl,_,rfl,_,rfl,r,c,l,rfl,trivial,?_⟩
   dsimp only
   rw [bo8,hlm,bm5,bm5]; rfl
  rintro acc rfl
  rw [pl,bp2]
  refine⟨ls.map (bF r c),rfl,_,rfl,?_⟩
  cases ha:(ls.map (bF r c)).all id with
  | false=>
   refine b7 ⟨by decide,e2 ok fun z=>?_⟩
   have:(ls.map (bF r c)).all id=true:=by
    rw [List.all_map,bw2]
    exact fun l hlm=>z.2 l hlm
   rw [ha] at this; cases this
  | true=>
   refine aJ ?_
   have st:bY r c ls:=⟨ord,fun l hlm=>by
    rw [List.all_map,bw2] at ha
    exact ha l hlm⟩
   have sT:rA x=some (aF ls):=by rcases hx with rfl | rfl <;> rfl
   refine⟨_,rfl,⟨_,_,rfl,sT,iX _,trivial,q ok st⟩,fun ns z=>?_⟩
   rcases hx with rfl | rfl <;> cases z
def gQ (l:Int × Int):List (Int × Int):=[(l.1 - 1,l.2),(l.1,l.2 - 1),(l.1,l.2+1),(l.1+1,l.2)]
def bD (r c:Int) (l:Int × Int):List (Int × Int):=(gQ l).filter (bF r c)
section
variable {ls : List (Int × Int)} {n : Nat} {B : List Int}
def ins (ls:List (Int × Int)) (S:List Int) (h:Int):Nat:=((vI ls h).filter fun x=>decide (x ∈ S)).length
end
end Core
namespace L2
open PySem PySem.Spec PyProof.Rows SO
abbrev kk (l:Int × Int):List aM:=[Sum.inl l.1,Sum.inl l.2]
theorem aT7 {α β:Type}{R:α->β->Prop}{xs ys:List α} (h:xs.Perm ys):∀ {ks:List β},Paired R xs ks->∃ ks',ks'.Perm ks/\Paired R ys ks':=by
 induction h with
 | nil=>intro ks r; exact⟨ks,bx1 _,r⟩
 | cons v _ ih=>
  intro ks r
  cases r with
  | cons r t=>
   obtain ⟨xs',p,r'⟩:=ih t
   exact⟨_ :: xs',p.cons _,.cons r r'⟩
 | swap u v l=>
  intro xs r
  cases r with
  | cons r t=>cases t with
   | cons r2 t2=>exact⟨_,bB6 _ _ _,.cons r2 (.cons r t2)⟩
 | trans _ _ ih1 ih2=>
  intro xs r
  obtain ⟨x1,p1,r1⟩:=ih1 r
  obtain ⟨x2,p2,r2⟩:=ih2 r1
  exact⟨x2,p2.trans p1,r2⟩
theorem Z5 {α β:Type}{R:α->β->Prop}:∀ {xs:List α}{ys:List β},Paired R xs ys->∀ y ∈ ys,∃ x ∈ xs,R x y
 | _,_,.nil,y,h=>nomatch h
 | _,_,.cons r p,y,h=>by
  rcases bk6.mp h with rfl | h
  ·exact⟨_,bl6,r⟩
  ·obtain ⟨x,hx,rx⟩:=Z5 p y h
   exact⟨x,bl2 _ hx,rx⟩
theorem Z6 {α β:Type}{R:α->β->Prop}:∀ {xs:List α}{ys:List β},Paired R xs ys->∀ x ∈ xs,∃ y ∈ ys,R x y
 | _,_,.nil,y,h=>nomatch h
 | _,_,.cons r p,y,h=>by
  rcases bk6.mp h with rfl | h
  ·exact⟨_,bl6,r⟩
  ·obtain ⟨x,hx,rx⟩:=Z6 p y h
   exact⟨x,bl2 _ hx,rx⟩
theorem Z7 {α β:Type}{J:α->β->Prop}{R:α->α->Prop}{S:β->β->Prop}:∀ {xs:List α}{ys:List β},Paired J xs ys->xs.Pairwise R->(∀ u v a b,a ∈ ys->b ∈ ys->J u a->J v b->R u v->S a b)->ys.Pairwise S
 | _,_,.nil,_,_=>.nil
 | _,_,.cons (a:=x) (b:=y) r p,.cons h t,f=>by
  refine .cons (fun b hb=>?_) (Z7 p t fun u v a b ha hb=>f u v a b (bl2 _ ha) (bl2 _ hb))
  obtain ⟨v,hv,jv⟩:=Z5 p b hb
  exact f x v y b bl6 (bl2 _ hb) r jv (h v hv)
end L2
namespace PP
open PySem L2
section
variable {X : Cx} {o e f : Expr} {td tk tx : aB} {pos apos cpos : Pos} {σ : St} {H : Hp} {Q' : VK}
def yD (td tk tx:aB):aB:=fun ρ Q=>td ρ fun x _=>∃ ps,x = .dT ps/\tk ρ fun y _=>tx ρ fun z _=>∃ k,y = .tup (k.map kP)/\flat ((cB ps k).getD z)=true/\Q ((cB ps k).getD z) .fr
theorem aT8 (h:LE X (yD td tk tx) σ H Q'):F0 (LE X td) (LE X tk) (LE X tx) σ H Q':=by
 obtain ⟨W,ρ,Q,px,q,k⟩:=h
 refine⟨W,ρ,_,px,q,?_⟩
 rintro v H1 x g s r ⟨ps,rfl,q⟩
 have r0:=r
 cases r with
 | @dT a kvs _ m h e rr=>
  refine⟨a,rfl,.inr ⟨kvs,.inl h⟩,W,ρ,_,px.mono s,q,fun w H2 y g' s2 r2 q2=>⟨W,ρ,_,(px.mono s).mono s2,q2,?_⟩⟩
  rintro w3 H3 z gz s3 r3 ⟨kk,rfl,fl,q⟩
  obtain ⟨a',o',ea,dg,h1,h2⟩:=vY (.inr ⟨ps,kk,rfl,rfl,rfl⟩) (r0.same (s2.trans s3) fun _ z=>z) (r2.same s3 fun _ z=>z)
  cases ea
  refine⟨o',dg,?_⟩
  cases hv:cB ps kk with
  | none=>
   rw [hv] at fl q
   rw [h1 hv]
   exact k _ _ _ .fr ((s.trans s2).trans s3) (r3.flat fl) q
  | some z'=>
   rw [hv] at fl q
   obtain ⟨u,rfl,ru⟩:=h2 z' hv
   exact k _ _ _ .fr ((s.trans s2).trans s3) (ru.flat fl) q
theorem aT9 (hu:X.A.units+1 < cLine) (ho:QE X o td) (he:QE X e tk) (hf:QE X f tx) (m:M2 X o "get" apos e f cpos:=by exact⟨rfl,rfl,rfl,rfl⟩):QE X (.Call (.Attribute o "get" apos) [e,f] [] cpos) (yD td tk tx):=cK (aw1 hu ho he hf m) fun _ _ _=>aT8
def m9 (p p':Int->Int->Bool) (ta tb tc:aB):aB:=fun ρ Q=>ta ρ fun x _=>tb ρ fun y _=>∃ i j,x = .int i/\y = .int j/\if p i j=true then tc ρ fun z _=>∃ k,z = .int k/\Q (.bl (p' j k)) .fr else Q (.bl false) .fr
theorem Z8 {p p':Int->Int->Bool}{ta tb tc:aB} (h:LE X (m9 p p' ta tb tc) σ H Q'):A0 (eR fun i j=>.bl (p i j)) (eR fun i j=>.bl (p' i j)) (LE X ta) (LE X tb) (LE X tc) σ H Q':=by
 obtain ⟨W,ρ,Q,px,q,k⟩:=h
 refine⟨W,ρ,_,px,q,?_⟩
 rintro v H1 x g s r q
 refine⟨W,ρ,_,px.mono s,q,?_⟩
 rintro u H2 y g' s2 r2 ⟨i,j,rfl,rfl,q⟩
 cases r; cases r2
 refine⟨i,j,rfl,rfl,p i j,rfl,?_⟩
 cases hp:p i j with
 | false=>
  rw [hp] at q
  rw [if_neg (by decide)] at q
  rw [if_neg (by decide)]
  exact k _ _ _ .fr (s.trans s2) (.bl false) q
 | true=>
  rw [hp,if_pos rfl] at q
  rw [if_pos rfl]
  refine⟨W,ρ,_,(px.mono s).mono s2,q,?_⟩
  rintro w H3 z gz s3 r3 ⟨m,rfl,q⟩
  cases r3
  exact⟨j,m,rfl,rfl,k _ _ _ .fr ((s.trans s2).trans s3) (.bl _) q⟩
section
variable {a b c : Expr} {ta tb tc : aB}
theorem Z9 (ha:QE X a ta) (hb:QE X b tb) (hc:QE X c tc) (hm:lastMarks [.LtE,.Lt] [b,c]=false:=by with_unfolding_all rfl):QT X (.Compare a [.LtE,.Lt] [b,c] pos) (aW (m9 (fun i j=>decide (i<=j)) (fun i j=>decide (i < j)) ta tb tc)):=lJ (A1 kY qJ ha hb hc hm) fun _ _ _ h=>Z8 (mT h)
theorem aa0 (ha:QE X a ta) (hb:QE X b tb) (hc:QE X c tc) (hm:lastMarks [.LtE,.LtE] [b,c]=false:=by with_unfolding_all rfl):QT X (.Compare a [.LtE,.LtE] [b,c] pos) (aW (m9 (fun i j=>decide (i<=j)) (fun i j=>decide (i<=j)) ta tb tc)):=lJ (A1 kY kY ha hb hc hm) fun _ _ _ h=>Z8 (mT h)
end
end
end PP
namespace Core
open PySem L2 PP
def gD (K:List (Int × Int)):List (List aM × PV):=K.map fun l=>(cS l,PV.bl true)
theorem aa1 {a b:Int × Int} (h:cS a=cS b):a=b:=by
 unfold cS at h
 injection h with h1 h2
 injection h2 with h2
 exact bv7 (Sum.inl.inj h1) (Sum.inl.inj h2)
theorem aa2 (K:List (Int × Int)):(gD K).length=K.length:=by unfold gD; rw [bk8]
theorem aa3 (K:List (Int × Int)) (x:Int × Int):(cB (gD K) (cS x)).isSome=decide (x ∈ K):=by
 rw [<- nN,bs3,List.any_eq_true,bm4]
 unfold gD
 refine⟨fun ⟨p,hp,e⟩=>?_,fun h=>⟨_,bm9.mpr ⟨x,h,rfl⟩,bk4 rfl⟩⟩
 obtain ⟨y,hy,rfl⟩:=bm9.mp hp
 rw [<- aa1 (by2 e:cS y=cS x)]; exact hy
theorem aa4 {K:List (Int × Int)}{x:Int × Int} (h:x ∉ K):dW (gD K) (cS x) (.bl true)=gD (K ++ [x]):=by
 have:((gD K).any fun kv=>decide (kv.1=cS x))=false:=by
  rw [nN,aa3,bk1 h]
 unfold dW
 rw [this]
 unfold gD
 rw [bm5]; rfl
def kL (ps:List (List aM × PV)) (f:Int × Int->Nat):Prop:=∀ x,(cB ps (cS x)).getD (.int 0) = .int (f x)
theorem kL.nil:kL [] fun _=>0:=fun _=>rfl
theorem kL.put {ps:List (List aM × PV)}{f:Int × Int->Nat} (h:kL ps f) (s:Int × Int) (v:PV) (hv:v = .int ((f s+1:Nat):Int)):kL (dW ps (cS s) v) (fun x=>if x=s then f x+1 else f x):=fun x=>by
 rw [S9]
 dsimp only
 by_cases e:x=s
 ·subst e; rw [if_pos rfl,if_pos rfl,hv]; rfl
 ·rw [if_neg (fun z=>e (aa1 z)),if_neg e]; exact h x
inductive iJ (r c:Int) (S:List (Int × Int)):Int × Int->Prop
 | seed {x:Int × Int}:x ∈ S->iJ r c S x
 | kin {x a b:Int × Int}:bF r c x=true->a ∈ bD r c x->b ∈ bD r c x->a ≠ b->iJ r c S a->iJ r c S b->iJ r c S x
theorem t5 {r c:Int}{x y:Int × Int} (hx:bF r c x=true) (h:y ∈ bD r c x):x ∈ bD r c y:=by
 unfold bD at h ⊢
 obtain ⟨h1,_⟩:=bo1.mp h
 refine bo1.mpr ⟨?_,hx⟩
 unfold gQ at h1 ⊢
 simp only [bk6,bl4,bo6,Prod.ext_iff] at h1 ⊢
 omega
theorem aa5 {r c:Int}{x y:Int × Int} (h:y ∈ bD r c x):bF r c y=true:=(bo1.mp h).2
theorem aa6 (r c:Int) (x:Int × Int):(bD r c x).Nodup:=by
 unfold bD
 refine List.Pairwise.filter _ (?_:(gQ x).Nodup)
 unfold gQ
 simp only [bv9,bk6,bl4,bo6,Prod.ext_iff,not_false_eq_true,List.nodup_nil,and_true]
 omega
def cU (r c:Int) (P:List (Int × Int)) (x:Int × Int):Nat:=(P.filter fun p=>decide (x ∈ bD r c p)).length
theorem aa7 (r c:Int) (P:List (Int × Int)) (p x:Int × Int):cU r c (P ++ [p]) x=cU r c P x+(if x ∈ bD r c p then 1 else 0):=by
 unfold cU
 rw [List.filter_append,bn2]
 by_cases h:x ∈ bD r c p <;> simp [h]
theorem aU0 {r c:Int}{P:List (Int × Int)}{x a b:Int × Int} (ha:a ∈ P) (hb:b ∈ P) (ne:a ≠ b) (xa:x ∈ bD r c a) (xb:x ∈ bD r c b):2<=cU r c P x:=by
 unfold cU
 have ma:a ∈ P.filter fun p=>decide (x ∈ bD r c p):=bo1.mpr ⟨ha,bk4 xa⟩
 have mb:b ∈ P.filter fun p=>decide (x ∈ bD r c p):=bo1.mpr ⟨hb,bk4 xb⟩
 generalize P.filter (fun p=>decide (x ∈ bD r c p))=l at ma mb
 match l with
 | []=>cases ma
 | [y]=>rw [bk9.mp ma,bk9.mp mb] at ne; exact absurd rfl ne
 | _ :: _ :: _=>simp
theorem aU1 {r c:Int}{P:List (Int × Int)}{x:Int × Int} (h:1<=cU r c P x):∃ q ∈ P,x ∈ bD r c q:=by
 unfold cU at h
 cases hl:P.filter fun p=>decide (x ∈ bD r c p) with
 | nil=>rw [hl] at h; cases h
 | cons q t=>
  have:q ∈ P.filter fun p=>decide (x ∈ bD r c p):=by rw [hl]; exact bl6
  exact⟨q,(bo1.mp this).1,by2 (bo1.mp this).2⟩
structure Wk (r c:Int) (S K P:List (Int × Int)):Prop where
 nd:K.Nodup
 ndP:P.Nodup
 sub:∀ x ∈ P,x ∈ K
 brn:∀ x ∈ K,iJ r c S x
 sd:∀ x ∈ S,x ∈ K
 bd:∀ x ∈ K,bF r c x=true
 low:∀ x,x ∉ K->cU r c P x < 2
def dN (r c:Int) (K P:List (Int × Int)) (s:Int × Int):Bool:=!decide (s ∈ K) && decide (cU r c P s=1)
theorem Wk.step {r c:Int}{S K P:List (Int × Int)}{p:Int × Int} (w:Wk r c S K P) (hp:p ∈ K) (np:p ∉ P):Wk r c S (K ++ (bD r c p).filter (dN r c K P)) (P ++ [p]):=by
 have new:∀ s ∈ (bD r c p).filter (dN r c K P),s ∈ bD r c p/\s ∉ K/\cU r c P s=1:=fun s hs=>by
  obtain ⟨h1,h2⟩:=bo1.mp hs
  unfold dN at h2
  rw [br1,Bool.not_eq_true',bu3,bm4] at h2
  exact⟨h1,h2.1,h2.2⟩
 refine⟨by3.mpr ⟨w.nd,List.Pairwise.filter _ (aa6 r c p),fun a ha b hb e=>(new b hb).2.1 (e ▸ ha)⟩,by3.mpr ⟨w.ndP,bp4 _ _,fun a ha b hb e=>np (by rw [<- bk9.mp hb,<- e]; exact ha)⟩,fun x hx=>?_,fun x hx=>?_,fun x hx=>bn0 _ (w.sd x hx),fun x hx=>?_,fun x hx=>?_⟩
 ·rcases bn5.mp hx with h | h
  ·exact bn0 _ (w.sub x h)
  ·rw [bk9.mp h]; exact bn0 _ hp
 ·rcases bn5.mp hx with h | h
  ·exact w.brn x h
  ·obtain ⟨h1,h2,h3⟩:=new x h
   obtain ⟨q,hq,xq⟩:=aU1 (r:=r) (c:=c) (P:=P) (x:=x) (by omega)
   have qK:=w.sub q hq
   exact .kin (aa5 h1) (t5 (w.bd p hp) h1) (t5 (w.bd q qK) xq) (fun e=>np (e ▸ hq)) (w.brn p hp) (w.brn q qK)
 ·rcases bn5.mp hx with h | h
  ·exact w.bd x h
  ·exact aa5 (new x h).1
 ·have nK:x ∉ K:=fun h=>hx (bn0 _ h)
  have lo:=w.low x nK
  rw [aa7]
  by_cases h:x ∈ bD r c p
  ·rw [if_pos h]
   have:cU r c P x ≠ 1:=fun e=>hx (bn4 _ (bo1.mpr ⟨h,by unfold dN; rw [bk1 nK,bk4 e]; rfl⟩))
   omega
  ·rw [if_neg h]; omega
theorem Wk.all {r c:Int}{S K P:List (Int × Int)} (w:Wk r c S K P) (h:∀ x ∈ K,x ∈ P) (x:Int × Int):x ∈ K ↔ iJ r c S x:=by
 refine⟨w.brn x,fun b=>?_⟩
 induction b with
 | seed hs=>exact w.sd _ hs
 | @kin x a b bx sa sb ne _ _ ia ib=>
  refine Classical.byContradiction fun nx=>?_
  have:=aU0 (h a ia) (h b ib) ne (t5 bx sa) (t5 bx sb)
  have:=w.low x nx
  omega
theorem Wk.init {r c:Int}{S:List (Int × Int)} (nd:S.Nodup) (bd:∀ x ∈ S,bF r c x=true):Wk r c S S []:=⟨nd,.nil,(fun _ h=>nomatch h),fun x h=>.seed h,fun x h=>h,bd,fun x _=>(by decide:(0:Nat) < 2)⟩
theorem yE {r c:Int} (ok:bE r c) {K:List (Int × Int)} (nd:K.Nodup) (bd:∀ x ∈ K,bF r c x=true):K.length<=1600:=by
 have:=pO 1600 (K.map fun l=>(l.1 * 40+l.2).toNat) (by
  refine bu2.mpr (nd.imp_of_mem fun {a b} ha hb hab e=>hab ?_)
  have i1:=eM.mp (bd a ha)
  have i2:=eM.mp (bd b hb)
  have:=ok.2.2.2
  exact bv7 (by omega) (by omega)) fun x hx=>by
   obtain ⟨l,hl,rfl⟩:=bm9.mp hx
   have i1:=eM.mp (bd l hl)
   have:=ok.2.1
   have:=ok.2.2.2
   omega
 rwa [bk8] at this
theorem pT {α:Type}{l:List α}{i:Nat}{x:α} (nd:l.Nodup) (h:l[i]? = some x):x ∉ l.take i:=fun z=>by
 have:(l.take (i+1)).Nodup:=nd.sublist (List.take_sublist _ _)
 rw [bo8,h] at this
 exact (by3.mp this).2.2 x z x (by simp) rfl
def iK (r c:Int) (P:List (Int × Int)) (ss:List (Int × Int)) (x:Int × Int):Nat:=cU r c P x+(if x ∈ ss then 1 else 0)
theorem aU2 {r c:Int}{P ss:List (Int × Int)}{j:Nat}{s:Int × Int} (nd:ss.Nodup) (h:ss[j]? = some s):(fun x=>if x=s then iK r c P (ss.take j) x+1 else iK r c P (ss.take j) x)=iK r c P (ss.take (j+1)):=by
 funext x
 unfold iK
 have tk:ss.take (j+1)=ss.take j ++ [s]:=by rw [bo8,h]; rfl
 rw [tk]
 by_cases e:x=s
 ·subst e
  rw [if_pos rfl,if_neg (pT nd h),if_pos (by simp)]
 ·rw [if_neg e]
  by_cases m:x ∈ ss.take j
  ·rw [if_pos m,if_pos (bn0 _ m)]
  ·rw [if_neg m,if_neg (fun z=>by rcases bn5.mp z with z | z; exact m z; exact e (bk9.mp z))]
def t6:bS:=fun xs Q=>∃ (r c:Int) (l:Int × Int),xs = [.int r,.int c,.tup [.int l.1,.int l.2]]/\Q (.lst (aF (bD r c l)))
def aa8:aP:=(aH (nO (gN 3 4) (a5 2))
 (aH (bB 5 (fL (a6 (dY (a6 (eI (a5 3) (qC (.int 1))) (a6 (a5 4) aA))) (a6 (dY (a6 (a5 3) (a6 (eI (a5 4) (qC (.int 1))) aA))) (a6 (dY (a6 (a5 3) (a6 (dC (a5 4) (qC (.int 1))) aA))) (a6 (dY (a6 (dC (a5 3) (qC (.int 1))) (a6 (a5 4) aA))) aA))))))
 (bG (hJ (dI (a5 5)) [none,some 0,some 1] (cQ 0) (jI (aW (m9 (fun i j=>decide (i<=j)) (fun i j=>decide (i < j)) (qC (.int 0)) (b8 (a5 0) (qC (.int 0))) (a5 1))) (aW (m9 (fun i j=>decide (i<=j)) (fun i j=>decide (i < j)) (qC (.int 0)) (b8 (a5 0) (qC (.int 1))) (a5 2)))) (a5 0)))))
theorem aU3:cV aa8 ["rows","columns","cell","row","column","around"] t6:=by
 rintro xs Q ⟨r,c,l,rfl,q⟩
 refine⟨_,rfl,trivial,_,_,rfl,?_⟩
 refine⟨_,rfl,_,_,rfl,rfl,_,rfl,by show 2<=1000; decide,rfl,_,rfl,_,rfl,_,_,rfl,rfl,by show 2<=1000; decide,rfl,_,rfl,_,rfl,_,_,rfl,rfl,by show 2<=1000; decide,rfl,_,rfl,_,_,rfl,rfl,_,rfl,by show 2<=1000; decide,rfl,by show 4<=1000; decide,rfl,trivial,?_⟩
 refine⟨_,rfl,aF (gQ l),rfl,(fun z=>by cases z),by show 4<=16000000; decide,fun i acc=>acc=aF (((gQ l).take i).filter (bF r c)),rfl,?_,?_⟩
 ·rintro i z acc hz rfl
  obtain ⟨w,rfl,hw⟩:=lU hz
  have tk:=pF (p:=bF r c) hw
  have no:bF r c w=false->aF (((gQ l).take i).filter (bF r c))=aF (((gQ l).take (i+1)).filter (bF r c)):=fun e=>by
   rw [e,if_neg (by decide),bo5] at tk
   rw [tk]
  refine⟨_,rfl,_,_,_,rfl,rfl,rfl,0,w.1,rfl,rfl,?_⟩
  show if decide ((0:Int)<=w.1)=true then _ else _
  by_cases a1:(0:Int)<=w.1
  ·rw [bk4 a1]
   refine b7 ⟨_,rfl,r,rfl,_,rfl,?_⟩
   show if decide (w.1 < r)=true then _ else _
   by_cases a2:w.1 < r
   ·rw [bk4 a2]
    refine b7 ⟨_,rfl,_,_,_,rfl,rfl,rfl,0,w.2,rfl,rfl,?_⟩
    show if decide ((0:Int)<=w.2)=true then _ else _
    by_cases a3:(0:Int)<=w.2
    ·rw [bk4 a3]
     refine b7 ⟨_,rfl,c,rfl,_,rfl,?_⟩
     show if decide (w.2 < c)=true then _ else _
     by_cases a4:w.2 < c
     ·rw [bk4 a4]
      have b:bF r c w=true:=eM.mpr ⟨a1,a2,a3,a4⟩
      rw [b,if_pos rfl] at tk
      refine b7 ⟨_,rfl,trivial,?_⟩
      dsimp only
      rw [tk]
      unfold aF
      rw [bm5]; rfl
     ·rw [bk1 a4]
      exact aJ (no (by unfold bF; rw [bk1 a4,bn8,bn8,bn8]))
    ·rw [bk1 a3]
     exact aJ ⟨_,rfl,aJ (no (by unfold bF; rw [bk1 a3,bq2,bn8,bn8]))⟩
   ·rw [bk1 a2]
    exact aJ (aJ (no (by unfold bF; rw [bk1 a2,bq2,bn8])))
  ·rw [bk1 a1]
   exact aJ ⟨_,rfl,aJ (aJ (no (by unfold bF; rw [bk1 a1,bq2])))⟩
 ·rintro acc rfl
  rw [show (aF (gQ l)).length=4 from rfl,show (gQ l).take 4=gQ l from rfl]
  exact⟨trivial,q⟩
def t7:bS:=fun xs Q=>∃ c:Int,xs = [.int c]/\∀ a b:Int,bE a b->Q (.tup [.int a,.int b])
def aa9:aP:=(aH (bB 1 (dC (qC (.int 1)) (dD (a5 0) (qC (.int 9)))))
 (aH (bB 2 (dC (qC (.int 1)) (dD (gO (a5 0) (qC (.int 9))) (qC (.int 9)))))
 (aH (bR (aW (nC (dD (gO (a5 0) (qC (.int 81))) (qC (.int 8))) (qC (.int 1)))) (aH (bB 1 (dC (qC (.int 1)) (dD (gO (a5 0) (qC (.int 648))) (qC (.int 40)))))
  (bB 2 (dC (qC (.int 1)) (dD (gO (a5 0) (qC (.int 25920))) (qC (.int 40)))))) bW)
 (bG (dY (a6 (a5 1) (a6 (a5 2) aA)))))))
theorem aU4:cV aa9 ["cell","rows","columns"] t7:=by
 rintro xs Q ⟨c,rfl,q⟩
 refine⟨_,rfl,_,_,rfl,rfl,(by show (0:Int) < 9; decide),_,_,rfl,rfl,trivial,?_⟩
 refine⟨_,rfl,_,_,rfl,rfl,⟨by decide,by decide⟩,_,_,rfl,rfl,(by show (0:Int) < 9; decide),_,_,rfl,rfl,trivial,?_⟩
 refine⟨_,rfl,_,_,rfl,rfl,⟨by decide,by decide⟩,_,_,rfl,rfl,(by show (0:Int) < 8; decide),.inl ⟨_,_,rfl,rfl,_,rfl,?_⟩⟩
 show if decide (c / 81 % 8=1)=true then _ else _
 cases decide (c / 81 % 8=1) with
 | false=>exact aJ ⟨_,rfl,_,rfl,by show 2<=1000; decide,rfl,trivial,q _ _ ⟨by omega,by omega,by omega,by omega⟩⟩
 | true=>
  refine b7 ⟨_,rfl,_,_,rfl,rfl,⟨by decide,by decide⟩,_,_,rfl,rfl,(by show (0:Int) < 40; decide),_,_,rfl,rfl,trivial,?_⟩
  refine⟨_,rfl,_,_,rfl,rfl,⟨by decide,by decide⟩,_,_,rfl,rfl,(by show (0:Int) < 40; decide),_,_,rfl,rfl,trivial,?_⟩
  exact⟨_,rfl,_,rfl,by show 2<=1000; decide,rfl,trivial,q _ _ ⟨by omega,by omega,by omega,by omega⟩⟩
def t8:bS:=fun xs Q=>∃ (ns:List Int) (k:Int),xs = [.scr ns,.int k]/\ns.length<=63/\0<=k/\k<=1000/\∀ z:Int,Q (.int z)
def ab0:aP:=(aH (bR (aW (iS (a5 1) (aG fZ (a6 (a5 0) aA)))) (bG (b8 (a5 0) (a5 1))) bW)
 (aH (bB 2 (dD (lI (dC (dC (dD (aG jV (a6 (a5 0) (a6 (dD (a5 1) (aG kE (a6 (qC (.int 1)) (a6 (aG fZ (a6 (a5 0) aA)) aA)))) aA))) (qC (.int 1000000007))) (lI (qC (.int 977)) (a5 1))) (qC (.int 1))) (qC (.int 48271))) (qC (.int 2147483647))))
 (bG (gO (dD (lI (a5 2) (a5 2)) (qC (.int 2147483647))) (qC (.int 8))))))
theorem aU5:cV ab0 ["script","k","stir"] t8:=by
 rintro xs Q ⟨ns,k,rfl,hl,k0,k1,q⟩
 refine⟨_,rfl,_,rfl,_,_,rfl,rfl,_,_,rfl,rfl,_,rfl,?_⟩
 show if decide (k < (ns.length:Int))=true then _ else _
 by_cases h:k < (ns.length:Int)
 ·rw [bk4 h]
  have hk:L2.atI (intz ns) k=some (.int (ns.getD k.toNat 0)):=T3 k0 h
  exact b7 ⟨_,rfl,_,rfl,_,_,_,rfl,rfl,hk,trivial,q _⟩
 ·rw [bk1 h]
  refine aJ ?_
  have mx:(0:Int) < (if (ns.length:Int) > 1 then (ns.length:Int) else 1):=by split <;> omega
  refine⟨_,rfl,_,rfl,_,rfl,_,_,rfl,rfl,_,_,rfl,_,_,rfl,rfl,mx,_,ns,_,rfl,.inl rfl,bA2 _ (Int.ne_of_gt mx),?_⟩
  refine⟨_,_,rfl,rfl,(by show (0:Int) < 1000000007; decide),_,rfl,_,_,rfl,rfl,.inl ⟨by decide,by decide⟩,_,_,rfl,rfl,_,_,rfl,rfl,_,_,rfl,rfl,.inr ⟨by decide,by decide⟩,_,_,rfl,rfl,(by show (0:Int) < 2147483647; decide),trivial,?_⟩
  dsimp only
  generalize hv:(ns.getD (k % (if (ns.length:Int) > 1 then (ns.length:Int) else 1)).toNat 0 % 1000000007+977 * k+1) * 48271 % 2147483647=v
  have v0:0<=v:=by rw [<- hv]; exact bA2 _ (by decide)
  have v1:v < 2147483647:=by rw [<- hv]; exact Int.emod_lt_of_pos _ (by decide)
  exact⟨_,rfl,_,rfl,_,_,rfl,rfl,.inl ⟨by omega,by omega⟩,_,_,rfl,rfl,(by show (0:Int) < 2147483647; decide),_,_,rfl,rfl,⟨by decide,by decide⟩,trivial,q _⟩
def t9:bS:=fun xs Q=>∃ (ns:List Int) (a r c:Int),xs = [.scr ns,.int a,.int r,.int c]/\ns.length<=63/\0<=a/\a<=10/\bE r c/\∀ ls,bY r c ls->ls.length<=200->Q (.tup (aF ls))
def yF:aP:=(aH (gL 5 (fL aA))
 (aH (bB 8 (qC (.int 0)))
 (aH (bB 9 (qC (.int 0)))
 (aH (dB (oP (a5 7)) (cQ 10)
  (aH (bB 4 (aG t8 (a6 (a5 0) (a6 (dC (a5 1) (a5 10)) aA))))
  (aH (bR (aW (nC (dD (a5 4) (qC (.int 4))) (qC (.int 0)))) (aH (bB 8 (dD (gO (a5 4) (qC (.int 4))) (a5 2)))
   (bB 9 (dD (gO (a5 4) (qC (.int 169))) (a5 3)))) (aH (bB 8 (dD (eI (dC (a5 8) (dD (gO (a5 4) (qC (.int 4))) (qC (.int 5)))) (qC (.int 2))) (a5 2)))
   (bB 9 (dD (eI (dC (a5 9) (dD (gO (a5 4) (qC (.int 23))) (qC (.int 5)))) (qC (.int 2))) (a5 3)))))
  (bR (jI (aW (q2 sR (dY (a6 (a5 8) (a6 (a5 9) aA))) (a5 5))) (aW (nB (dD (gO (a5 4) (qC (.int 127))) (qC (.int 3))) (qC (.int 0))))) (iQ 5 (dY (a6 (a5 8) (a6 (a5 9) aA)))) bW))))
 (bG (aG oT (a6 (aG sO (a6 (a5 5) aA)) aA)))))))
def ab1:aP:=(aH (bB 4 (aG jV (a6 (a5 0) (a6 (a5 1) aA))))
 (aH (bR (jI (aW (nC (dD (a5 4) (qC (.int 2))) (qC (.int 1)))) (aW (iS (lI (a5 2) (a5 3)) (qC (.int 101))))) (aH (gL 5 (fL aA))
  (aH (dB (oP (lI (a5 2) (a5 3))) (cQ 6)
   (aH (bB 4 (gO (a5 4) (qC (.int 2))))
   (bR (aW (nC (dD (a5 4) (qC (.int 2))) (qC (.int 1)))) (iQ 5 (dY (a6 (gO (a5 6) (a5 3)) (a6 (dD (a5 6) (a5 3)) aA)))) bW)))
  (bG (aG oT (a6 (a5 5) aA))))) bW)
 (aH (bB 7 (eI (aG fZ (a6 (a5 0) aA)) (a5 1)))
 (aH (bR (aW (iS (a5 7) (qC (.int 1)))) (bB 7 (qC (.int 1))) bW)
 yF))))
theorem aU6 {c:Int}{a b:Int × Int} (h:a.1 * c+a.2 < b.1 * c+b.2) (a0:0<=a.2) (b1:b.2 < c) (c1:1<=c):fN a b:=by
 unfold fN
 rcases Int.lt_trichotomy a.1 b.1 with z | z | z
 ·exact .inl z
 ·rw [z] at h; exact .inr ⟨z,by omega⟩
 ·have:=bv1 (show b.1+1<=a.1 by omega) (show 0<=c by omega)
  rw [Int.add_mul,Int.one_mul] at this
  omega
theorem aU7 {x:Int × Int}{ls:List (Int × Int)}:decide (two x ∈ ls.map two)=decide (x ∈ ls):=by
 rw [bs3,bm4,bm4]
 refine⟨fun h=>?_,fun h=>bm9.mpr ⟨x,h,rfl⟩⟩
 obtain ⟨y,hy,e⟩:=bm9.mp h
 unfold two at e
 injection e with e1 e2
 injection e2 with e2
 rw [<- bv7 e1 e2]; exact hy
section
variable {ns : List Int} {a r c m : Int} {y4 y5 y6 : Option Slot} {Q : PV → Prop}
theorem ab2 (hl:ns.length<=63) (a0:0<=a) (a1:a<=10) (ok:bE r c) (m1:1<=m) (m2:m<=63) (q:∀ ls,bY r c ls->ls.length<=200->Q (.tup (aF ls))) :
  yF { nx:=fun _=>Q .non,rt:=Q } [some (.sh true (.scr ns)),si a,si r,si c,y4,y5,y6,si m,none,none,none]:=by
 obtain ⟨r1,r2,c1,c2⟩:=id ok
 refine⟨by decide,rfl,rfl,rfl,trivial,trivial,?_⟩
 refine⟨_,rfl,m,rfl,by omega,by omega,fun i ρ=>∃ (y4 y10:Option Slot) (x y:Int) (ls:List (Int × Int)),ρ = [some (.sh true (.scr ns)),si a,si r,si c,y4,some (.own (.lst (aF ls))),y6,si m,si x,si y,y10]/\ls.Nodup/\(∀ l ∈ ls,bF r c l=true)/\ls.length<=i,
  ⟨y4,none,0,0,[],rfl,.nil,(fun _ h=>nomatch h),bl1 _⟩,?_,?_⟩
 ·rintro i y ρ hy ⟨y4,y10,x,y,ls,rfl,nd,bd,len⟩
  obtain ⟨rfl,hi⟩:=x5 hy
  rw [show (0:Int)+(i:Int)=(i:Int) by omega]
  refine⟨_,rfl,_,rfl,_,rfl,_,_,rfl,rfl,ns,a+(i:Int),rfl,hl,by omega,by omega,fun z=>⟨trivial,?_⟩⟩
  have tail:∀ x y:Int,0<=x->x < r->0<=y->y < c->(bR (jI (aW (q2 sR (dY (a6 (a5 8) (a6 (a5 9) aA))) (a5 5))) (aW (nB (dD (gO (a5 4) (qC (.int 127))) (qC (.int 3))) (qC (.int 0))))) (iQ 5 (dY (a6 (a5 8) (a6 (a5 9) aA)))) bW) { nx:=fun ρ=>∃ (y4 y10:Option Slot) (x y:Int) (ls:List (Int × Int)),ρ = [some (.sh true (.scr ns)),si a,si r,si c,y4,some (.own (.lst (aF ls))),y6,si m,si x,si y,y10]/\ls.Nodup/\(∀ l ∈ ls,bF r c l=true)/\ls.length<=i+1,rt:=Q } [some (.sh true (.scr ns)),si a,si r,si c,si z,some (.own (.lst (aF ls))),y6,si m,si x,si y,si (i:Nat)]:=by
   intro x y x0 x1 y0 y1
   refine⟨_,rfl,_,rfl,by show 2<=1000; decide,rfl,_,rfl,[x,y],ls.map two,rfl,by rw [pJ]; rfl,_,rfl,?_⟩
   rw [show decide ([x,y] ∈ ls.map two)=decide ((x,y) ∈ ls) from aU7 (x:=(x,y))]
   by_cases h1:(x,y) ∈ ls
   ·rw [bk4 h1]
    exact aJ (aJ ⟨si z,si (i:Nat),x,y,ls,rfl,nd,bd,by omega⟩)
   ·rw [bk1 h1]
    refine b7 ⟨_,rfl,_,_,rfl,rfl,⟨by decide,by decide⟩,_,_,rfl,rfl,(by show (0:Int) < 3; decide),_,_,rfl,rfl,_,rfl,?_⟩
    show if decide (z / 127 % 3 > 0)=true then _ else _
    cases decide (z / 127 % 3 > 0) with
    | false=>exact aJ ⟨si z,si (i:Nat),x,y,ls,rfl,nd,bd,by omega⟩
    | true=>
     refine b7 ⟨_,rfl,_,rfl,_,rfl,by show 2<=1000; decide,rfl,trivial,by rw [fF]; omega,si z,si (i:Nat),x,y,ls ++ [(x,y)],?_,by3.mpr ⟨nd,bp4 _ _,fun u hu v hv e=>h1 (by rw [bk9.mp hv] at e; rw [<- e]; exact hu)⟩,fun l hl=>?_,by rw [bn2,bq3]; omega⟩
     ·unfold aF
      rw [bm5]; rfl
     ·rcases bn5.mp hl with h | h
      ·exact bd l h
      ·rw [bk9.mp h]; exact eM.mpr ⟨x0,x1,y0,y1⟩
  refine⟨_,rfl,_,_,rfl,rfl,(by show (0:Int) < 4; decide),.inl ⟨_,_,rfl,rfl,_,rfl,?_⟩⟩
  show if decide (z % 4=0)=true then _ else _
  have em:=fun u:Int=>bA2 u (show r ≠ 0 by omega)
  have el:=fun u:Int=>Int.emod_lt_of_pos u (show 0 < r by omega)
  have fm:=fun u:Int=>bA2 u (show c ≠ 0 by omega)
  have fl:=fun u:Int=>Int.emod_lt_of_pos u (show 0 < c by omega)
  cases decide (z % 4=0) with
  | true=>
   refine b7 ⟨_,rfl,_,_,rfl,rfl,⟨by decide,by decide⟩,_,rfl,_,_,rfl,rfl,by omega,trivial,_,rfl,_,_,rfl,rfl,⟨by decide,by decide⟩,_,rfl,_,_,rfl,rfl,by omega,trivial,?_⟩
   exact tail _ _ (em _) (el _) (fm _) (fl _)
  | false=>
   refine aJ ⟨_,rfl,_,rfl,_,_,rfl,rfl,⟨by decide,by decide⟩,_,_,rfl,rfl,(by show (0:Int) < 5; decide),_,_,rfl,rfl,_,_,rfl,rfl,_,rfl,_,_,rfl,rfl,by omega,trivial,_,rfl,_,rfl,_,_,rfl,rfl,⟨by decide,by decide⟩,_,_,rfl,rfl,(by show (0:Int) < 5; decide),_,_,rfl,rfl,_,_,rfl,rfl,_,rfl,_,_,rfl,rfl,by omega,trivial,?_⟩
   exact tail _ _ (em _) (el _) (fm _) (fl _)
 ·rintro ρ ⟨y4,y10,x,y,ls,rfl,nd,bd,len⟩
  rw [mY] at len
  refine⟨_,rfl,ls.map two,by rw [pJ]; rfl,by rw [bk8]; omega,fun r hr=>by obtain ⟨l,_,rfl⟩:=bm9.mp hr; rfl,fun Z pz so=>?_⟩
  obtain ⟨l2,rfl,pp⟩:=U1 pz
  rw [show ((l2.map two).map fun r=>PV.tup (intz r))=aF l2 from (pJ _).symm]
  exact⟨⟨_,_,rfl,rfl,iX _,trivial,q l2 ⟨U2 so (pp.nodup_iff.mpr nd),fun l hl=>bd l (pp.mem_iff.mp hl)⟩ (by rw [pp.length_eq]; omega)⟩,fun ns z=>by cases z⟩
end
theorem aU8:cV ab1 ["script","at","rows","columns","cell","seeds","place","many","row","column","k"] t9:=by
 rintro xs Q ⟨ns,a,r,c,rfl,hl,a0,a1,ok,q⟩
 obtain ⟨r1,r2,c1,c2⟩:=id ok
 refine⟨_,rfl,_,rfl,_,ns,a,rfl,.inl rfl,a0,trivial,?_⟩
 generalize ns.getD a.toNat 0=v
 have two:(aH (bB 7 (eI (aG fZ (a6 (a5 0) aA)) (a5 1)))
  (aH (bR (aW (iS (a5 7) (qC (.int 1)))) (bB 7 (qC (.int 1))) bW)
  yF)) { nx:=fun _=>Q .non,rt:=Q } [some (.sh true (.scr ns)),si a,si r,si c,si v,none,none,none,none,none,none]:=by
  refine⟨_,rfl,_,_,rfl,rfl,_,rfl,_,_,rfl,rfl,trivial,?_⟩
  refine⟨_,rfl,_,_,rfl,rfl,_,rfl,?_⟩
  show if decide ((ns.length:Int) - a < 1)=true then _ else _
  by_cases h:(ns.length:Int) - a < 1
  ·rw [bk4 h]
   exact b7 ⟨trivial,ab2 hl a0 a1 ok (by decide) (by decide) q⟩
  ·rw [bk1 h]
   exact aJ (ab2 (m:=(ns.length:Int) - a) hl a0 a1 ok (by omega) (by omega) q)
 have hp:0<=r * c:=Int.mul_nonneg (by omega) (by omega)
 refine⟨_,rfl,_,_,rfl,rfl,(by show (0:Int) < 2; decide),.inl ⟨_,_,rfl,rfl,_,rfl,?_⟩⟩
 show if decide (v % 2=1)=true then _ else _
 cases decide (v % 2=1) with
 | false=>exact aJ (aJ two)
 | true=>
  refine b7 ⟨_,rfl,_,rfl,_,_,rfl,rfl,.inl ⟨by omega,by omega⟩,_,_,rfl,rfl,_,rfl,?_⟩
  show if decide (r * c < 101)=true then _ else _
  by_cases h:r * c < 101
  ·rw [bk4 h]
   refine b7 ⟨by decide,rfl,rfl,rfl,?_⟩
   refine⟨_,rfl,_,rfl,_,_,rfl,rfl,.inl ⟨by omega,by omega⟩,r * c,rfl,by omega,by omega,fun i ρ=>∃ (v:Int) (y6:Option Slot) (ls:List (Int × Int)),ρ = [some (.sh true (.scr ns)),si a,si r,si c,si v,some (.own (.lst (aF ls))),y6,none,none,none,none]/\ls.Pairwise fN/\(∀ l ∈ ls,bF r c l=true/\l.1 * c+l.2 < (i:Int))/\ls.length<=i,
    ⟨v,none,[],rfl,.nil,(fun _ h=>nomatch h),bl1 _⟩,?_,?_⟩
   ·rintro i y ρ hy ⟨v,y6,ls,rfl,ord,bd,len⟩
    obtain ⟨rfl,hi⟩:=x5 hy
    rw [show (0:Int)+(i:Int)=(i:Int) by omega]
    have im:(i:Int) < r * c:=by omega
    have d1:=Int.mul_ediv_add_emod (i:Int) c
    have d2:=bA2 (i:Int) (show c ≠ 0 by omega)
    have d3:=Int.emod_lt_of_pos (i:Int) (show 0 < c by omega)
    have d4:(i:Int) / c < r:=Int.ediv_lt_of_lt_mul (by omega) im
    have d5:0<=(i:Int) / c:=Int.ediv_nonneg (by omega) (by omega)
    rw [Int.mul_comm] at d1
    refine⟨_,rfl,_,_,rfl,rfl,⟨by decide,by decide⟩,trivial,?_⟩
    refine⟨_,rfl,_,_,rfl,rfl,(by show (0:Int) < 2; decide),.inl ⟨_,_,rfl,rfl,_,rfl,?_⟩⟩
    show if decide (v / 2 % 2=1)=true then _ else _
    cases decide (v / 2 % 2=1) with
    | false=>exact aJ ⟨v / 2,si (i:Nat),ls,rfl,ord,fun l hl=>⟨(bd l hl).1,by have:=(bd l hl).2; omega⟩,by omega⟩
    | true=>
     refine b7 ⟨_,rfl,_,rfl,_,rfl,_,_,rfl,rfl,⟨by omega,by omega⟩,_,rfl,_,rfl,_,_,rfl,rfl,by omega,by show 2<=1000; decide,rfl,trivial,by rw [fF]; omega,v / 2,si (i:Nat),ls ++ [((i:Int) / c,(i:Int) % c)],?_,bo0.mpr ⟨ord,bp4 _ _,fun u hu w hw=>?_⟩,fun l hl=>?_,by rw [bn2,bq3]; omega⟩
     ·unfold aF
      rw [bm5]; rfl
     ·rw [bk9.mp hw]
      have bu:=bd u hu
      have iu:=eM.mp bu.1
      exact aU6 (by show u.1 * c+u.2 < (i:Int) / c * c+(i:Int) % c; omega) (by omega) d3 c1
     ·rcases bn5.mp hl with h | h
      ·exact⟨(bd l h).1,by have:=(bd l h).2; omega⟩
      ·rw [bk9.mp h]
       exact⟨eM.mpr ⟨d5,d4,d2,d3⟩,by show (i:Int) / c * c+(i:Int) % c < _; omega⟩
   ·rintro ρ ⟨v,y6,ls,rfl,ord,bd,len⟩
    rw [mY] at len
    exact⟨_,rfl,⟨_,_,rfl,rfl,iX _,trivial,q ls ⟨ord,fun l hl=>(bd l hl).1⟩ (by omega)⟩,fun ns z=>by cases z⟩
  ·rw [bk1 h]
   exact aJ two
def kN (c:Int) (x:Int × Int):Int:=x.1 * c+x.2
end Core
namespace L2
open PySem PySem.Spec PyProof.Rows SO
abbrev kn (ns:List Int):List aM:=ns.map Sum.inl
def k6 (h:Heap) (ys:List (List Int)) (v:Value):Prop:=∃ ns ∈ ys,ns ≠ []/\iI h v ns
theorem iI.keep {h h':Heap}{v:Value}{ns:List Int} (z:iI h v ns) (k:∀ b o,h.get? b=some o->h'.get? b=some o):iI h' v ns:=by
 obtain ⟨b,ob,us,n,e1,e2,e3,e4,e5⟩:=z.at_
 exact⟨⟨b,ob,us,n,e1,k _ _ e2,e3,e4,e5⟩⟩
theorem k6.keep {h h':Heap}{ys:List (List Int)}{v:Value} (z:k6 h ys v) (k:∀ b o,h.get? b=some o->h'.get? b=some o):k6 h' ys v:=by
 obtain ⟨ns,m,ne,z⟩:=z
 exact⟨ns,m,ne,z.keep k⟩
theorem aU9 {prog:Program}{w:World}{A:Around}{E:Value->Shared->Prop}{s:Shared} (ys:List (List Int)):SO.cL prog w A E s (tuples' true) (fun x=>k6 s.heap ys x.1) (nQ s.heap ys):=by
 rintro x y ⟨ns,m1,_,z⟩ ⟨ms,m2,_,z'⟩ st Q hk hq
 unfold nQ at hq
 rw [z.ints,z'.ints,<- X7 m1 m2] at hq
 obtain ⟨b,ob,us,n,e1,e2,e3,e4,e5⟩:=z.at_
 obtain ⟨b',ob',us',n',e1',e2',e3',e4',e5'⟩:=z'.at_
 rw [lt'_eq]
 refine bl3 (wpS_get ?_)
 rw [hk,e1,e1']
 refine bl3 (wpS_lift (bB1 (PySem.W.kat_lt e2 e4 e2' e4' ?_)))
 have:=vH (prog:=prog) (w:=w) (A:=A) (s:=s) (Q:=fun a s'=>s'=s/\wpS (model prog w) A E s (pure (some a)) Q st) 0 e5 e5' ⟨rfl,bm0 hq⟩
 simpa using this
theorem aV0 {h:Heap}{ys:List (List Int)}:∀ {vs:List Value},(∀ v ∈ vs,k6 h ys v)->∃ fs:List Value,PySem.W.KatTups h vs fs/\fs.length=vs.length/\∀ v ∈ fs,∃ i t,v=Value.int i t:=by
 intro vs
 induction vs with
 | nil=>intro _; exact⟨[],PySem.W.KatTups.nil,rfl,fun _ z=>nomatch z⟩
 | cons v vs ih=>
  intro hh
  obtain ⟨fs,t1,t2,t3⟩:=ih fun y hy=>hh y (bl2 _ hy)
  obtain ⟨ns,_,ne,z⟩:=hh v bl6
  obtain ⟨b,ob,us,n,rfl,e2,e3,e4,e5⟩:=z.at_
  cases e5 with
  | nil=>exact absurd rfl ne
  | cons p t e6=>exact⟨Value.int p t :: fs,PySem.W.KatTups.cons e2 e3 e4 (by simp) t1,by simp [t2],fun v hv=>(bk6.mp hv).elim (fun z=>⟨p,t,z⟩) (t3 v)⟩
theorem aV1 {M:Model}{A:Around}{E:Value->Shared->Prop}{s:Shared}{ys:List (List Int)}{vs:List Value}{Q:SortKind->Shared->Prop} (hh:∀ v ∈ vs,k6 s.heap ys v) (h2:2<=vs.length) (hQ:Q (tuples' true) s):wpAny M A (keyKind' vs.toArray) Q E s:=by
 obtain ⟨fs,t1,t2,t3⟩:=aV0 hh
 refine PySem.W.kat_kind (T:=.type "int") t1 (by omega) (fun v hv=>?_) (by decide) ?_
 ·obtain ⟨i,t,rfl⟩:=t3 v hv
  exact PySem.W.Looks.now
 ·have eT:(Value.type "int" != Value.type "tuple")=true:=by decide
  rw [eT]; exact hQ
theorem aV2 {h:Heap}{ys:List (List Int)}{u v:Value}{p q:List Int} (z:iI h u p) (z':iI h v q) (hp:p ∈ ys) (hq:q ∈ ys) (le:nQ h ys (u,u)<=nQ h ys (v,v)):HT.aR q p=false:=by
 unfold nQ at le
 rw [z.ints,z'.ints] at le
 rw [X7 hq hp]
 exact bk1 (by omega)
theorem aV3 {prog:Program}{w:World}{A:Around}{E:Value->Shared->Prop}{s:Shared}{T:String}{r d:Addr}{n:Nat}{P:Nat->Value->Prop}{OK:Heap->Prop}{Q:Value->Shared->Prop}{ys:List (List Int)} (K:PySem.W.KdlSrc prog w T r d n P OK) (hh:A.handled=none) (hok:OK s.heap) (hn:n<=sizeLine)
  (hI:∀ acc,ItemsOf P acc n->∀ v ∈ acc.toList,k6 s.heap ys v)
  (h:∀ h' tk a (acc:Array Value) (out:List Value) e,(∀ b o,s.heap.get? b=some o->h'.get? b=some o)->s.heap.objs.size<=a->h'.get? a=some (seqObj "list" out.toArray e)->ItemsOf P acc n->out.Perm acc.toList->out.Pairwise (fun u v=>∀ p q,p ∈ ys->q ∈ ys->iI s.heap u p->iI s.heap v q->HT.aR q p=false)->Q (.ref a) { s with heap:=h',toks:=tk }) :
  wpAny (model prog w) A (call (.builtin "sorted") [.ref r]) Q E s:=by
 refine Calls.call_function_entry kind_sorted plain_sorted entry_sorted (args_sorted1 _) ?_
 unfold Builtin.«sorted»
 refine bj8 (m:=checkCount "sorted" 1 1 _) (bk2 ?_)
 refine bj8 (Raw.aO3 (s:=s) K hh hok hn fun h' tk acc kp hs it=>?_)
 have hz:acc.toList.length<=sizeLine:=by rw [bp7,it.1]; exact hn
 refine bj8 (wpAny_newList ?_ hz)
 have hoL:(h'.push (seqObj "list" acc.toList.toArray 0)).get? h'.objs.size=some (seqObj "list" acc.toList.toArray 0):=bl7 _ rfl
 show wpAny _ _ _ _ _ { s with heap:=h'.push (seqObj "list" acc.toList.toArray 0),toks:=tk }
 refine bj8 (br7 (br0 slot_list_sort ⟨_,hoL,rfl⟩ entry_list_sort ?_ (args_list_sort _)))
 have keepS:∀ out:List Value,∀ b o,s.heap.get? b=some o->(sortedHeap (h'.push (seqObj "list" acc.toList.toArray 0)) h'.objs.size acc.toList out.toArray).get? b=some o:=fun out b o hb=>by
  have lt:=bl5 (kp b o hb)
  rw [sortedHeap_old (bn9 lt) (by rw [size_push']; exact Nat.lt_succ_of_lt lt)]
  exact bk0 _ (kp b o hb)
 by_cases h2:acc.toList.length < 2
 ·refine G1 (s:={ s with heap:=h'.push (seqObj "list" acc.toList.toArray 0),toks:=tk }) hoL h2 ⟨_,rfl,bk2 ⟨_,rfl,?_⟩⟩
  obtain ⟨e,he⟩:=sortedHeap_at (vs:=acc.toList) (out:=acc.toList.toArray) hoL
  refine h _ tk h'.objs.size acc acc.toList e (keepS acc.toList) hs he it (bx1 _) ?_
  match hl:acc.toList,h2 with
  | [],_=>exact by1
  | [_],_=>exact bp4 _ _
  | _ :: _ :: _,h2=>simp at h2; omega
 ·have kM:∀ b o,s.heap.get? b=some o->(dL (h'.push (seqObj "list" acc.toList.toArray 0)) h'.objs.size acc.toList).get? b=some o:=fun b o hb=>by
   have lt:=bl5 (kp b o hb)
   exact R0 (bn9 lt) (bk0 _ (kp b o hb))
  have allp:∀ v ∈ acc.toList,k6 (dL (h'.push (seqObj "list" acc.toList.toArray 0)) h'.objs.size acc.toList) ys v:=fun v hv=>(hI acc it v hv).keep kM
  refine R3 (s:={ s with heap:=h'.push (seqObj "list" acc.toList.toArray 0),toks:=tk }) (κ:=tuples' true) (Ok:=fun x=>k6 (dL (h'.push (seqObj "list" acc.toList.toArray 0)) h'.objs.size acc.toList) ys x.1) (rk:=nQ (dL (h'.push (seqObj "list" acc.toList.toArray 0)) h'.objs.size acc.toList) ys) hoL (by omega) hz (fun Q hQ=>?_)
   (aU9 (s:={ s with heap:=dL (h'.push (seqObj "list" acc.toList.toArray 0)) h'.objs.size acc.toList,toks:=tk }) ys) (fun v hv=>allp v hv) fun out pm so=>⟨_,rfl,bk2 ⟨_,rfl,?_⟩⟩
  ·exact aV1 (s:={ s with heap:=dL (h'.push (seqObj "list" acc.toList.toArray 0)) h'.objs.size acc.toList,toks:=tk }) allp (by omega) hQ
  ·obtain ⟨e,he⟩:=sortedHeap_at (vs:=acc.toList) (out:=out.toArray) hoL
   exact h _ tk h'.objs.size acc out e (keepS out) hs he it pm (so.imp fun {u v} le p q hp hq z z'=>aV2 (z.keep kM) (z'.keep kM) hp hq le)
def ab3:List V->Hp->VK->Prop:=fun xs H Q=>∃ (a:Addr) (kvs:List (List aM × V)) (ls:List (List Int)),xs = [.ref a]/\H a=some (.dT kvs)/\kvs.map (·.1)=ls.map kn/\(∀ k ∈ ls,k ≠ [])/\∀ (l:Addr) (zs:List V) (ms:List (List Int)),H l=none->ms.Perm ls->ms.Pairwise (fun u v=>HT.aR v u=false)->Paired (kC H) zs (ms.map kn)->Q (.ref l) (upd H l (.lst zs))
theorem ab4 {H:Hp}:∀ {ys:List V}{vs:List Value}{ls:List (List Int)},aS ys vs->Paired (kC H) ys (ls.map kn)->Paired (fun v l=>∃ y,aV y v/\kC H y (kn l)) vs ls
 | _,_,[],.nil,_=>.nil
 | _,_,[],.cons _ _,p=>nomatch p
 | _,_,l :: ls,.cons r t,.cons k p=>.cons ⟨_,r,k⟩ (ab4 t p)
theorem ab5 {H:Hp}:∀ {vs:List Value}{ls:List (List Int)},Paired (fun v l=>∃ y,aV y v/\kC H y (kn l)) vs ls->∃ ys:List V,aS ys vs/\Paired (kC H) ys (ls.map kn)
 | _,_,.nil=>⟨[],.nil,.nil⟩
 | _,_,.cons ⟨y,r,k⟩ p=>by
  obtain ⟨ys,t,q⟩:=ab5 p
  exact⟨y :: ys,.cons r t,.cons k q⟩
theorem ab6 (l:List Int):(kn l).map kV=l.map V.int:=by unfold kn; rw [bq4]; rfl
theorem aV4 {X:Cx} (hc:X.calm=true):cO X (.builtin "sorted") ab3:=by
 intro pins s σ H xs us Q I r h
 obtain ⟨a,kvs,ls,rfl,ha,hk,hne,q⟩:=h
 obtain ⟨u,rfl,ru⟩:=gU r
 cases ru
 obtain ⟨es,ep,ys,rd,far,pk,vk,z⟩:=ay0 I ha
 rw [hk] at pk
 have hl:=vk.length
 have hl2:=pk.length
 have hl3:=congrArg List.length hk
 rw [bk8] at hl hl2 hl3
 rw [bk8] at hl3
 have hsz:es.toList.length=es.size:=bp7
 have pv:∀ {y:V}{v:Value}{l:List Int},aV y v->kC H y (kn l)->iI s.heap v l:=fun {y v l} ry ka=>by
  obtain ⟨b,rfl,hb⟩:=ka
  cases ry
  rw [ab6] at hb
  obtain ⟨us,ru,⟨ob,e1,c1,n1,d1⟩,_⟩:=I.tuple (show aU X.K H b (l.map V.int) from aU.of hb)
  exact⟨⟨b,ob,us,n1,rfl,e1,c1,d1,jC ru⟩⟩
 have jt:=ab4 vk pk
 refine aV3 (ys:=ls) (Raw.ax9 far) (I.ok.hd hc) rd (by omega) (fun acc it v hv=>?_) fun h' tk l acc out e kp hn he it pm so=>?_
 ·rw [G2 it] at hv
  obtain ⟨m,hm,y,ry,ka⟩:=Z6 jt v hv
  exact⟨m,hm,hne m hm,pv ry ka⟩
 ·rw [G2 it] at pm
  obtain ⟨ms,pms,jo⟩:=aT7 pm.symm jt
  obtain ⟨zs,vz,pz⟩:=ab5 jo
  have lz:=vz.length
  have lo:=pm.length_eq
  rw [bk8] at lo
  refine⟨.ref l,upd H l (.lst zs),I.laid (t':=tk) kp hn ⟨by omega,out,e,vz,he⟩,rfl,q l zs ms (I.hok.fresh hn) pms ?_ pz⟩
  exact Z7 jo so fun u v a b ha hb ⟨y,ry,ka⟩ ⟨y',ry',kb⟩ le=>le _ _ (pms.mem_iff.mp ha) (pms.mem_iff.mp hb) (pv ry ka) (pv ry' kb)
end L2
namespace PP
open PySem L2
section
variable {X : Cx} {e : Expr} {tr : cP} {pos p2 : Pos}
abbrev iL (rs:List (List Int)):List PV:=rs.map fun r=>PV.tup (intz r)
def yG:List PV->(PV->Prop)->Prop:=fun xs Q=>∃ (ps:List (List aM × PV)) (ls:List (List Int)),xs = [.dT ps]/\ps.map (·.1)=ls.map kn/\(∀ k ∈ ls,k ≠ [])/\∀ ms:List (List Int),ms.Perm ls->ms.Pairwise (fun u v=>HT.aR v u=false)->Q (.lst (iL ms))
theorem ab7 {K:PySem.W.Frag}{M:Addr->Prop}{H:Hp}:∀ {zs:List V}{ms:List (List Int)},Paired (kC H) zs (ms.map kn)->Reps K M H zs (iL ms)
 | _,[],.nil=>.nil
 | _,l :: ms,.cons ⟨q,e,h⟩ p=>by
  subst e
  rw [ab6] at h
  exact .cons (.tup h (Reps.intz l)) (ab7 p)
theorem aV5:eY X yG ab3:=by
 rintro H vs xs Q Q' r ⟨ps,ls,rfl,e,hne,q⟩ k
 obtain ⟨v,rfl,r1⟩:=r.one
 cases r1 with
 | @dT a kvs _ m h e2 r2=>
  exact⟨a,kvs,ls,rfl,h,e2.trans e,hne,fun l zs ms hl' p o pz=>k _ _ _ (cA hl' _) (.lst hl' cH ((ab7 pz).same (cA hl' _) fun _ z=>z)) (q ms p o)⟩
theorem aV6 (B:Bt X.mg) (hc:X.calm=true) (ha:QA X [e] tr) (hg:Gl X "sorted":=by rfl) (he:starEach [e] X.env=(false,eval e X.env) :: starEach [] X.env:=by rfl) (hpl:(backTo pos (starEach [] X.env)).any (·.1)=false:=by rfl):QE X (.Call (.Name "sorted" p2) [e] [] pos) (aG yG tr):=
 iV (aV4 hc) aV5 hg B.sorted PyProof.Rows.boot_sorted ha (he:=he) (hpl:=hpl)
end
end PP
namespace HT
open PySem PyProof.Rows
section
open PySem.SeqAt
open PySem.MeetsSeq PySem.MeetsSeq2 PySem.MeetsSeq3
theorem aV7 (A:Around) (s:Shared) (a:Int) (t:Tok) (c:Int) (u:Tok) (prog:Program) (w:World) (E:Value->Shared->Prop) (Q:Value->Shared->Prop) (h:Q (.bool (decide (c < a))) s) :
  wpAny (model prog w) A (richCompare .Gt (.int a t) (.int c u)) Q E s:=
 (PyProof.Rows.gt_int h:wpAny (model prog w) A (compareOp .Gt (.int a t) (.int c u)) Q E s)
theorem aV8 (l b:Addr) (items items2:Array Value) (n n2:Nat) (dd dd2:Option Addr) (sl sl2:Array (Option Value)) (ns ms:List Int) (hi:IntsAre items.toList ns) (hj:IntsAre items2.toList ms) :
  Meets (Builtin.«tuple.__gt__» ⟨[.ref l,.ref b],[]⟩)
   (fun _ R s=>s.heap.get? l=some { cls:=.type "tuple",dict:=dd,data:=.seq items n,slots:=sl }/\s.heap.get? b=some { cls:=.type "tuple",dict:=dd2,data:=.seq items2 n2,slots:=sl2 }/\
    R (.ok (.ret (.bool (aR ms ns)))) s):=
 .of_wp fun prog w A R s h=>by
  obtain ⟨hp,g,d,tk,os⟩:=s; obtain ⟨hl,hb,h⟩:=h
  have f2:=AutoSeq1.sub_tuple_tuple
  have z1:items.size=ns.length:=by rw [<- hi.length]; simp
  have z2:items2.size=ms.length:=by rw [<- hj.length]; simp
  wp_walk using bu8 hl,bu8 hb,wpAny_forIn_list _ (fun cM b s'=>b.1=none/\s'=⟨hp,g,d,tk,os⟩/\∃ (vs ws:List Value) (ns' ms':List Int),cM=vs.zip ws/\
   IntsAre vs ns'/\IntsAre ws ms'/\ns'.length+items2.size=ms'.length+items.size/\R (.ok (.ret (.bool (aR ms' ns')))) ⟨hp,g,d,tk,os⟩) _
  case turn=>
   rintro ⟨y,x⟩ cM b s' ⟨hb',rfl,vs,ws,ns',ms',hz,hvi,hwi,hlen,hR⟩
   cases hvi with
   | nil=>rw [List.zip_nil_left] at hz; cases hz
   | cons a t hvi'=>
    cases hwi with
    | nil=>rw [List.zip_nil_right] at hz; cases hz
    | cons c u hwi'=>
     rw [bt3] at hz
     injection hz with hyx hrest
     injection hyx with hy hx
     subst hy hx
     rw [gX] at hR
     simp only [bp1] at hlen
     obtain ⟨e,he,hiff⟩:=B3 A.in1 ⟨hp,g,d,tk,os⟩ a t c u
     refine bj8 (he prog w _ _ ?_)
     cases e with
     | true=>
      rw [if_pos (hiff.mp rfl).symm] at hR
      wp_walk
      exact⟨rfl,rfl,_,_,_,_,hrest,hvi',hwi',by omega,hR⟩
     | false=>
      rw [if_neg (fun q=>absurd (hiff.mpr (Eq.symm q)) bm6)] at hR
      have hri:=aV7 A.in1 ⟨hp,g,d,tk,os⟩ a t c u prog w
      wp_walk using hri
      exact⟨_,rfl,by simpa using hR⟩
  case fin=>
   rintro ⟨b1,b2⟩ s' ⟨hb',rfl,vs,ws,ns',ms',hz,hvi,hwi,hlen,hR⟩
   simp only at hb'
   subst hb'
   have hv:aR ms' ns'=decide (items.size > items2.size):=by
    cases hvi with
    | nil=>
     cases hwi with
     | nil=>
      simp only [by5] at hlen
      rw [qN]
      exact (bk1 (by omega)).symm
     | cons c u hw=>
      simp only [by5,bp1] at hlen
      rw [B2]
      exact (bk1 (by omega)).symm
    | cons a t hv=>
     cases hwi with
     | nil=>
      simp only [by5,bp1] at hlen
      rw [B1]
      exact (bk4 (by omega)).symm
     | cons c u hw=>
      rw [bt3] at hz
      cases hz
   rw [hv] at hR
   wp_walk
   exact⟨_,rfl,by simpa [Builtin.Tuple.tupleCompareSizes] using hR⟩
  case h=>
   exact⟨rfl,rfl,items.toList,items2.toList,ns,ms,rfl,hi,hj,by omega,h⟩
end
section
variable {prog : Program} {w : World} {A : Around} {E : Value → Shared → Prop} {s : Shared}
theorem aV9 {l b:Addr}{items items2:Array Value}{ns ms:List Int}{Q:Value->Shared->Prop} (hl:IsTup s.heap l items) (hb:IsTup s.heap b items2) (hi:IntsAre items.toList ns) (hj:IntsAre items2.toList ms)
  (hu:A.units < cLine) (h:Q (.bool (aR ms ns)) s):wpAny (model prog w) A (richCompare .Gt (.ref l) (.ref b)) Q E s:=by
 obtain ⟨⟨cls,dd,data,sl⟩,ho,hc,n,hd⟩:=id hl
 obtain ⟨⟨cls2,dd2,data2,sl2⟩,ho2,hc2,n2,hd2⟩:=id hb
 simp only at hc hd hc2 hd2
 subst hc hd hc2 hd2
 exact richCompare_meets_room (op:=.Gt) ⟨_,ho,rfl⟩ ⟨_,ho2,rfl⟩ PySem.F.slot_tuple_gt PySem.F.entry_tuple_gt (PySem.F.args_tuple_gt_2 _ _) (aV8 l b items items2 n n2 dd dd2 sl sl2 ns ms hi hj)
  ⟨ho,ho2,show Value.bool (aR ms ns) ≠ Value.notImplemented/\Q (.bool (aR ms ns)) s from ⟨(fun x=>nomatch x),h⟩⟩ hu
end
end HT
namespace L2
open PySem PySem.Spec PyProof.Rows PP
section
variable {prog : Program} {w : World} {A : Around} {R : Result → Shared → Prop} {I S : Addr} {n : Nat} {s0 : Shared} {a b : Value} {lt : Bool} {fp : List Addr} {P : Nat → Value → Prop} {St : Nat → Heap → Prop}
theorem aW0 (W:Walks prog w A.in1 I fp [I] 2 P St) (p0:∀ v,P 0 v->v=a) (p1:∀ v,P 1 v->v=b) (sI:S ≠ I) (sf:S ∉ fp) (fI:s0.heap.get? I=none) (fS:s0.heap.get? S=none)
  (ask:∀ (h:Heap) (k:Nat) (Q E:Value->Shared->Prop),dM s0.heap h->Q (.bool lt) (at_ s0 h k)->wpAny (model prog w) A.in1 (richCompare .Lt b a) Q E (at_ s0 h k))
  (fin:∀ h k,dM s0.heap h->R (.ok (.ret (if lt=true then b else a))) (at_ s0 h k)) {h:Heap}{k c:Nat} (old:dM s0.heap h) (st:St 0 h)
  (hS:h.get? S=some { cls:=.type "list",dict:=none,data:=.seq #[] c,slots:=#[] }):codeAny (model prog w) A (.builtin "min.loop" ⟨[.ref I,.none,.ref S],[]⟩) R (at_ s0 h k):=by
 have nm:(toString "min" ++ toString ".loop" : String)="min.loop":=by decide
 have nS:S ∉ [I]:=fun z=>sI (bk9.mp z)
 have put:∀ {h h':Heap},dM s0.heap h->(∀ b o,b ∉ [I]->h.get? b=some o->h'.get? b=some o)->dM s0.heap h':=fun {h h'} o1 o2 b o e=>o2 b o (fun z=>by rw [bk9.mp z,fI] at e; cases e) (o1 b o e)
 have put2:∀ {h:Heap}{f:Obj->Obj},dM s0.heap h->dM s0.heap (h.update S f):=fun {h f} o1 b o e=>(by8 _ _ (fun z:S=b=>by rw [<- z,fS] at e; cases e)).trans (o1 b o e)
 have last:∀ (h:Heap) (k c:Nat),dM s0.heap h->St 2 h->h.get? S=some { cls:=.type "list",dict:=none,data:=.seq #[if lt=true then b else a,if lt=true then b else a] c,slots:=#[] }->codeAny (model prog w) A (.builtin "min.loop" ⟨[.ref I,.none,.ref S],[]⟩) R (at_ s0 h k):=fun h k c old st hS=>by
  refine bu9 PySem.F.entry_min_loop ?_
  rw [br5 bv3]
  refine bj8 (bs9 hS rfl ?_)
  refine bj8 (bz7 (W.done _ _ _ st fun h2 k2 o2=>?_))
  exact bj8 (bA3 (o2 S _ nS hS) rfl (bj8 (bx3 (bk2 (fin _ k2 (put2 (put old o2)))))))
 have fr:∀ {h:Heap}{f:Obj->Obj}{j:Nat},St j h->St j (h.update S f):=fun {h f j} st=>W.frame _ _ _ st fun b hb o e=>(by8 _ _ (fun z:S=b=>sf (by rw [z]; exact hb))).trans e
 refine bu9 PySem.F.entry_min_loop ?_
 rw [br5 bv3]
 refine bj8 (bs9 hS rfl ?_)
 refine bj8 (bz7 (W.item 0 _ _ _ (by decide) st fun v h2 k2 hv st2 o2=>?_))
 obtain rfl:=p0 v hv
 have hS2:=o2 S _ nS hS
 refine bj8 (bk2 ?_)
 refine bj8 (m:=updateSeq _ (fun _=>#[v,v])) (bA3 hS2 rfl ?_)
 rw [nm]
 refine bk2 ⟨bw7 bv3 _,bu9 PySem.F.entry_min_loop ?_⟩
 rw [br5 bv3]
 have hS3:(h2.update S (Obj.mapSeq fun _=>#[v,v])).get? S=some (Obj.mapSeq (fun _=>#[v,v]) { cls:=.type "list",dict:=none,data:=.seq #[] c,slots:=#[] }):=bt9 _ hS2 rfl
 refine bj8 (bs9 hS3 rfl ?_)
 refine bj8 (bz7 (W.item 1 _ _ _ (by decide) (fr st2) fun u h4 k4 hu st4 o4=>?_))
 obtain rfl:=p1 u hu
 have hS4:=o4 S _ nS hS3
 have old4:=put (put2 (f:=Obj.mapSeq fun _=>#[v,v]) (put old o2)) o4
 refine bj8 (bk2 ?_)
 refine bj8 (m:=tryCatch (holding [u,u] (richCompare .Lt u v >>= _)) _) (bz7 (br7 (bj8 (ask h4 k4 _ _ old4 ?_))))
 refine bj8 (br7 (bq1 (bj8 (bx3 (bk2 ?_)))))
 cases lt with
 | false=>
  simp only [bn3,bt1]
  refine bj8 (bx3 ?_)
  rw [nm]
  exact bk2 ⟨bw7 bv3 _,last h4 k4 _ old4 st4 hS4⟩
 | true=>
  simp only [if_true]
  refine bj8 (bA3 hS4 rfl (bj8 (bx3 ?_)))
  rw [nm]
  exact bk2 ⟨bw7 bv3 _,last _ k4 _ (put2 old4) (fr st4) (bt9 _ hS4 rfl)⟩
theorem aW1 {Q E:Value->Shared->Prop} (hh:A.in1.handled=none)
  (ask:∀ (h:Heap) (k:Nat) (Q E:Value->Shared->Prop),dM s0.heap h->Q (.bool lt) (at_ s0 h k)->wpAny (model prog w) A.in1 (richCompare .Lt b a) Q E (at_ s0 h k))
  (fin:∀ h k,dM s0.heap h->Q (if lt=true then b else a) (at_ s0 h k)):wpAny (model prog w) A (call (.builtin "min") [a,b]) Q E s0:=by
 have nm:(toString "min" ++ toString ".loop" : String)="min.loop":=by decide
 refine call_function_tree PySem.F.kind_min PySem.F.plain_min PySem.F.entry_min (PySem.F.args_min2 _ _) ?_
 refine bj8 (wpAny_of_eq (show Builtin.Builtins.bindParams "min" ["key","default"] 0 ⟨[],[]⟩=pure [none,none] from rfl) ?_)
 show wpAny _ A.in1 (newTuple [a,b] >>= _) _ _ _
 refine bj8 (bp0 ?_)
 have hT:(s0.heap.push { cls:=.type "tuple",data:=.seq #[a,b] }).IsTuple s0.heap.objs.size #[a,b]:=⟨_,bl7 _ rfl,rfl,0,rfl⟩
 have z1:(s0.heap.push { cls:=.type "tuple",data:=.seq #[a,b] }).objs.size=s0.heap.objs.size+1:=bs8 ..
 refine bj8 (bx6 hT ?_)
 refine bj8 (bp0 ?_)
 rw [nm]
 have z2:((s0.heap.push { cls:=.type "tuple",data:=.seq #[a,b] }).push { cls:=.type "tuple_iterator",data:=.fields #[.ref s0.heap.objs.size,.int 0 0] }).objs.size=s0.heap.objs.size+2:=by rw [bs8,z1]
 have ne:s0.heap.objs.size ≠ (s0.heap.push { cls:=.type "tuple",data:=.seq #[a,b] }).objs.size:=by omega
 refine bk2 ⟨bw7 bv3 _,aW0 (lt:=lt) (Walks.tuple (A:=A.in1) hh _ s0.heap.objs.size ne #[a,b]) (fun v hv=>?_) (fun v hv=>?_) (fun z=>?_) (fun z=>?_) (sV (bo3 (Nat.le_succ _) (Nat.le_of_eq z1.symm))) (sV (bo3 (bv2 _ 2) (Nat.le_of_eq z2.symm))) ask fin (fun b o e=>bk0 _ (bk0 _ (bk0 _ e)))
  ⟨⟨_,bk0 _ (bl7 _ rfl),rfl,rfl⟩,(hT.push _).push _⟩ (bl7 _ rfl)⟩
 ·exact (bn1 (show some a=some v from hv)).symm
 ·exact (bn1 (show some b=some v from hv)).symm
 ·have z:=z2.symm.trans (z.trans z1)
  omega
 ·rcases bk6.mp z with z | z
  ·have z:=z2.symm.trans (z.trans z1)
   omega
  ·have z:=z2.symm.trans (bk9.mp z)
   omega
end
section
variable {prog : Program} {w : World} {A : Around} {R : Result → Shared → Prop} {I S : Addr} {n : Nat} {s0 : Shared} {a b : Value} {lt : Bool} {fp : List Addr} {P : Nat → Value → Prop} {St : Nat → Heap → Prop}
theorem aW2 (W:Walks prog w A.in1 I fp [I] 2 P St) (p0:∀ v,P 0 v->v=a) (p1:∀ v,P 1 v->v=b) (sI:S ≠ I) (sf:S ∉ fp) (fI:s0.heap.get? I=none) (fS:s0.heap.get? S=none)
  (ask:∀ (h:Heap) (k:Nat) (Q E:Value->Shared->Prop),dM s0.heap h->Q (.bool lt) (at_ s0 h k)->wpAny (model prog w) A.in1 (richCompare .Gt b a) Q E (at_ s0 h k))
  (fin:∀ h k,dM s0.heap h->R (.ok (.ret (if lt=true then b else a))) (at_ s0 h k)) {h:Heap}{k c:Nat} (old:dM s0.heap h) (st:St 0 h)
  (hS:h.get? S=some { cls:=.type "list",dict:=none,data:=.seq #[] c,slots:=#[] }):codeAny (model prog w) A (.builtin "max.loop" ⟨[.ref I,.none,.ref S],[]⟩) R (at_ s0 h k):=by
 have nm:(toString "max" ++ toString ".loop" : String)="max.loop":=by decide
 have nS:S ∉ [I]:=fun z=>sI (bk9.mp z)
 have put:∀ {h h':Heap},dM s0.heap h->(∀ b o,b ∉ [I]->h.get? b=some o->h'.get? b=some o)->dM s0.heap h':=fun {h h'} o1 o2 b o e=>o2 b o (fun z=>by rw [bk9.mp z,fI] at e; cases e) (o1 b o e)
 have put2:∀ {h:Heap}{f:Obj->Obj},dM s0.heap h->dM s0.heap (h.update S f):=fun {h f} o1 b o e=>(by8 _ _ (fun z:S=b=>by rw [<- z,fS] at e; cases e)).trans (o1 b o e)
 have last:∀ (h:Heap) (k c:Nat),dM s0.heap h->St 2 h->h.get? S=some { cls:=.type "list",dict:=none,data:=.seq #[if lt=true then b else a,if lt=true then b else a] c,slots:=#[] }->codeAny (model prog w) A (.builtin "max.loop" ⟨[.ref I,.none,.ref S],[]⟩) R (at_ s0 h k):=fun h k c old st hS=>by
  refine bu9 PySem.F.entry_max_loop ?_
  rw [br5 bv4]
  refine bj8 (bs9 hS rfl ?_)
  refine bj8 (bz7 (W.done _ _ _ st fun h2 k2 o2=>?_))
  exact bj8 (bA3 (o2 S _ nS hS) rfl (bj8 (bx3 (bk2 (fin _ k2 (put2 (put old o2)))))))
 have fr:∀ {h:Heap}{f:Obj->Obj}{j:Nat},St j h->St j (h.update S f):=fun {h f j} st=>W.frame _ _ _ st fun b hb o e=>(by8 _ _ (fun z:S=b=>sf (by rw [z]; exact hb))).trans e
 refine bu9 PySem.F.entry_max_loop ?_
 rw [br5 bv4]
 refine bj8 (bs9 hS rfl ?_)
 refine bj8 (bz7 (W.item 0 _ _ _ (by decide) st fun v h2 k2 hv st2 o2=>?_))
 obtain rfl:=p0 v hv
 have hS2:=o2 S _ nS hS
 refine bj8 (bk2 ?_)
 refine bj8 (m:=updateSeq _ (fun _=>#[v,v])) (bA3 hS2 rfl ?_)
 rw [nm]
 refine bk2 ⟨bw7 bv4 _,bu9 PySem.F.entry_max_loop ?_⟩
 rw [br5 bv4]
 have hS3:(h2.update S (Obj.mapSeq fun _=>#[v,v])).get? S=some (Obj.mapSeq (fun _=>#[v,v]) { cls:=.type "list",dict:=none,data:=.seq #[] c,slots:=#[] }):=bt9 _ hS2 rfl
 refine bj8 (bs9 hS3 rfl ?_)
 refine bj8 (bz7 (W.item 1 _ _ _ (by decide) (fr st2) fun u h4 k4 hu st4 o4=>?_))
 obtain rfl:=p1 u hu
 have hS4:=o4 S _ nS hS3
 have old4:=put (put2 (f:=Obj.mapSeq fun _=>#[v,v]) (put old o2)) o4
 refine bj8 (bk2 ?_)
 refine bj8 (m:=tryCatch (holding [u,u] (richCompare .Gt u v >>= _)) _) (bz7 (br7 (bj8 (ask h4 k4 _ _ old4 ?_))))
 refine bj8 (br7 (bq1 (bj8 (bx3 (bk2 ?_)))))
 cases lt with
 | false=>
  simp only [bn3,bt1]
  refine bj8 (bx3 ?_)
  rw [nm]
  exact bk2 ⟨bw7 bv4 _,last h4 k4 _ old4 st4 hS4⟩
 | true=>
  simp only [if_true]
  refine bj8 (bA3 hS4 rfl (bj8 (bx3 ?_)))
  rw [nm]
  exact bk2 ⟨bw7 bv4 _,last _ k4 _ (put2 old4) (fr st4) (bt9 _ hS4 rfl)⟩
theorem aW3 {Q E:Value->Shared->Prop} (hh:A.in1.handled=none)
  (ask:∀ (h:Heap) (k:Nat) (Q E:Value->Shared->Prop),dM s0.heap h->Q (.bool lt) (at_ s0 h k)->wpAny (model prog w) A.in1 (richCompare .Gt b a) Q E (at_ s0 h k))
  (fin:∀ h k,dM s0.heap h->Q (if lt=true then b else a) (at_ s0 h k)):wpAny (model prog w) A (call (.builtin "max") [a,b]) Q E s0:=by
 have nm:(toString "max" ++ toString ".loop" : String)="max.loop":=by decide
 refine call_function_tree PySem.F.kind_max PySem.F.plain_max PySem.F.entry_max (PySem.F.args_max2 _ _) ?_
 refine bj8 (wpAny_of_eq (show Builtin.Builtins.bindParams "max" ["key","default"] 0 ⟨[],[]⟩=pure [none,none] from rfl) ?_)
 show wpAny _ A.in1 (newTuple [a,b] >>= _) _ _ _
 refine bj8 (bp0 ?_)
 have hT:(s0.heap.push { cls:=.type "tuple",data:=.seq #[a,b] }).IsTuple s0.heap.objs.size #[a,b]:=⟨_,bl7 _ rfl,rfl,0,rfl⟩
 have z1:(s0.heap.push { cls:=.type "tuple",data:=.seq #[a,b] }).objs.size=s0.heap.objs.size+1:=bs8 ..
 refine bj8 (bx6 hT ?_)
 refine bj8 (bp0 ?_)
 rw [nm]
 have z2:((s0.heap.push { cls:=.type "tuple",data:=.seq #[a,b] }).push { cls:=.type "tuple_iterator",data:=.fields #[.ref s0.heap.objs.size,.int 0 0] }).objs.size=s0.heap.objs.size+2:=by rw [bs8,z1]
 have ne:s0.heap.objs.size ≠ (s0.heap.push { cls:=.type "tuple",data:=.seq #[a,b] }).objs.size:=by omega
 refine bk2 ⟨bw7 bv4 _,aW2 (lt:=lt) (Walks.tuple (A:=A.in1) hh _ s0.heap.objs.size ne #[a,b]) (fun v hv=>?_) (fun v hv=>?_) (fun z=>?_) (fun z=>?_) (sV (bo3 (Nat.le_succ _) (Nat.le_of_eq z1.symm))) (sV (bo3 (bv2 _ 2) (Nat.le_of_eq z2.symm))) ask fin (fun b o e=>bk0 _ (bk0 _ (bk0 _ e)))
  ⟨⟨_,bk0 _ (bl7 _ rfl),rfl,rfl⟩,(hT.push _).push _⟩ (bl7 _ rfl)⟩
 ·exact (bn1 (show some a=some v from hv)).symm
 ·exact (bn1 (show some b=some v from hv)).symm
 ·have z:=z2.symm.trans (z.trans z1)
  omega
 ·rcases bk6.mp z with z | z
  ·have z:=z2.symm.trans (z.trans z1)
   omega
  ·have z:=z2.symm.trans (bk9.mp z)
   omega
end
section
variable {X : Cx}
theorem aW4 (hc:X.calm=true) (hu:X.A.units+3 < cLine):cO X (.builtin "min") (fun xs H Q=>∃ a b ns ms,xs = [.ref a,.ref b]/\H a=some (.tup (ns.map V.int))/\H b=some (.tup (ms.map V.int))/\Q (if HT.aR ms ns=true then .ref b else .ref a) H):=by
 intro pins s σ H xs us Q I r h
 obtain ⟨a,b,ns,ms,rfl,ha,hb,q⟩:=h
 obtain ⟨u,w',rfl,r1,r2⟩:=k9 r
 cases r1
 cases r2
 refine aW1 (lt:=HT.aR ms ns) (I.ok.hd hc) (fun h k Q E old hq=>?_) fun h k old=>⟨_,H,I.kept (t':=k) old,?_,q⟩
 ·have I2:a7 X pins σ H (at_ s h k):=I.kept (t':=k) old
  obtain ⟨its,v1,t1,_⟩:=I2.tuple (aU.of (K:=X.K) ha)
  obtain ⟨its2,v2,t2,_⟩:=I2.tuple (aU.of (K:=X.K) hb)
  exact (HT.B4 t2 t1 (jC v2) (jC v1) (by show X.A.units+1 < cLine; omega) hq:wpAny (model X.prog X.w) X.A.in1 (compareOp .Lt _ _) Q E (at_ s h k))
 ·split <;> rfl
theorem aW5 (hc:X.calm=true) (hu:X.A.units+3 < cLine):cO X (.builtin "max") (fun xs H Q=>∃ a b ns ms,xs = [.ref a,.ref b]/\H a=some (.tup (ns.map V.int))/\H b=some (.tup (ms.map V.int))/\Q (if HT.aR ns ms=true then .ref b else .ref a) H):=by
 intro pins s σ H xs us Q I r h
 obtain ⟨a,b,ns,ms,rfl,ha,hb,q⟩:=h
 obtain ⟨u,w',rfl,r1,r2⟩:=k9 r
 cases r1
 cases r2
 refine aW3 (lt:=HT.aR ns ms) (I.ok.hd hc) (fun h k Q E old hq=>?_) fun h k old=>⟨_,H,I.kept (t':=k) old,?_,q⟩
 ·have I2:a7 X pins σ H (at_ s h k):=I.kept (t':=k) old
  obtain ⟨its,v1,t1,_⟩:=I2.tuple (aU.of (K:=X.K) ha)
  obtain ⟨its2,v2,t2,_⟩:=I2.tuple (aU.of (K:=X.K) hb)
  exact HT.aV9 t2 t1 (jC v2) (jC v1) (by show X.A.units+1 < cLine; omega) hq
 ·split <;> rfl
theorem aW6 (hc:X.calm=true):cO X (.builtin "max") (fun xs H Q=>∃ i j k,xs = [.int i,.int j,.int k]/\Q (.int (max i (max j k))) H):=by
 intro pins s σ H xs us Q I r h
 obtain ⟨i,j,k,rfl,q⟩:=h
 cases r with
 | cons r1 r2=>
  obtain ⟨u,w',rfl,⟨t',rfl⟩,⟨t'',rfl⟩⟩:=k9 r2
  obtain ⟨t,rfl⟩:=r1
  refine max_three_ints (I.ok.hd hc) fun h' tk kp=>⟨_,H,I.kept kp,?_,q⟩
  by_cases h1:j > i
  ·rw [if_pos h1]
   by_cases h2:k > j
   ·rw [if_pos h2,show max i (max j k)=k by omega]; exact⟨_,rfl⟩
   ·rw [if_neg h2,show max i (max j k)=j by omega]; exact⟨_,rfl⟩
  ·rw [if_neg h1]
   by_cases h2:k > i
   ·rw [if_pos h2,show max i (max j k)=k by omega]; exact⟨_,rfl⟩
   ·rw [if_neg h2,show max i (max j k)=i by omega]; exact⟨_,rfl⟩
end
end L2
namespace PP
open PySem L2
section
variable {X : Cx} {a b c e : Expr} {ta tb te : aB} {tr : cP} {pos p2 : Pos} {σ : St} {H : Hp} {D : cZ}
theorem Reps.three {K:PySem.W.Frag}{M:Addr->Prop}{H:Hp}{vs:List V}{x y z:PV} (r:Reps K M H vs [x,y,z]):∃ v w u,vs = [v,w,u]/\aD K M H v x/\aD K M H w y/\aD K M H u z:=by
 cases r with
 | cons r t=>
  obtain ⟨w,u,rfl,q1,q2⟩:=t.two
  exact⟨_,_,_,rfl,r,q1,q2⟩
def yH:List PV->(PV->Prop)->Prop:=fun xs Q=>∃ i j k:Int,xs = [.int i,.int j,.int k]/\Q (.int (max i (max j k)))
theorem aW7:eY X yH (fun xs H Q=>∃ i j k,xs = [.int i,.int j,.int k]/\Q (.int (max i (max j k))) H):=by
 rintro H vs xs Q Q' r ⟨i,j,k,rfl,q⟩ kk
 obtain ⟨v,w,u,rfl,r1,r2,r3⟩:=r.three
 cases r1; cases r2; cases r3
 exact⟨i,j,k,rfl,kk _ _ _ (aE.refl _) (.int _) q⟩
theorem aW8 (B:Bt X.mg) (hc:X.calm=true) (ha:QA X [a,b,c] tr) (hg:Gl X "max":=by rfl) (he:starEach [a,b,c] X.env=(false,eval a X.env) :: starEach [b,c] X.env:=by rfl) (hpl:(backTo pos (starEach [b,c] X.env)).any (·.1)=false:=by rfl):QE X (.Call (.Name "max" p2) [a,b,c] [] pos) (aG yH tr):=
 iV (aW6 hc) aW7 hg B.max PyProof.Rows.boot_max ha (he:=he) (hpl:=hpl)
def yI:List PV->(PV->Prop)->Prop:=fun xs Q=>∃ ns ms:List Int,xs = [.tup (intz ns),.tup (intz ms)]/\Q (.tup (intz (if HT.aR ms ns=true then ms else ns)))
def yJ:List PV->(PV->Prop)->Prop:=fun xs Q=>∃ ns ms:List Int,xs = [.tup (intz ns),.tup (intz ms)]/\Q (.tup (intz (if HT.aR ns ms=true then ms else ns)))
theorem aW9:eY X yI (fun xs H Q=>∃ a b ns ms,xs = [.ref a,.ref b]/\H a=some (.tup (ns.map V.int))/\H b=some (.tup (ms.map V.int))/\Q (if HT.aR ms ns=true then .ref b else .ref a) H):=by
 rintro H vs xs Q Q' r ⟨ns,ms,rfl,q⟩ k
 obtain ⟨v,w,rfl,r1,r2⟩:=r.two
 obtain ⟨p,us,rfl,h1,q1⟩:=r1.sqT
 obtain ⟨p',us',rfl,h2,q2⟩:=r2.sqT
 obtain rfl:=q1.ofInts
 obtain rfl:=q2.ofInts
 refine⟨p,p',ns,ms,rfl,h1,h2,k _ _ _ (aE.refl _) ?_ q⟩
 split
 ·exact .tup h2 (Reps.intz _)
 ·exact .tup h1 (Reps.intz _)
theorem aX0:eY X yJ (fun xs H Q=>∃ a b ns ms,xs = [.ref a,.ref b]/\H a=some (.tup (ns.map V.int))/\H b=some (.tup (ms.map V.int))/\Q (if HT.aR ns ms=true then .ref b else .ref a) H):=by
 rintro H vs xs Q Q' r ⟨ns,ms,rfl,q⟩ k
 obtain ⟨v,w,rfl,r1,r2⟩:=r.two
 obtain ⟨p,us,rfl,h1,q1⟩:=r1.sqT
 obtain ⟨p',us',rfl,h2,q2⟩:=r2.sqT
 obtain rfl:=q1.ofInts
 obtain rfl:=q2.ofInts
 refine⟨p,p',ns,ms,rfl,h1,h2,k _ _ _ (aE.refl _) ?_ q⟩
 split
 ·exact .tup h2 (Reps.intz _)
 ·exact .tup h1 (Reps.intz _)
theorem aX1 (B:Bt X.mg) (hc:X.calm=true) (hu:X.A.units+3 < cLine) (ha:QA X [a,b] tr) (hg:Gl X "min":=by rfl) (he:starEach [a,b] X.env=(false,eval a X.env) :: starEach [b] X.env:=by rfl) (hpl:(backTo pos (starEach [b] X.env)).any (·.1)=false:=by rfl):QE X (.Call (.Name "min" p2) [a,b] [] pos) (aG yI tr):=
 iV (aW4 hc hu) aW9 hg B.min PyProof.Rows.boot_min ha (he:=he) (hpl:=hpl)
theorem aX2 (B:Bt X.mg) (hc:X.calm=true) (hu:X.A.units+3 < cLine) (ha:QA X [a,b] tr) (hg:Gl X "max":=by rfl) (he:starEach [a,b] X.env=(false,eval a X.env) :: starEach [b] X.env:=by rfl) (hpl:(backTo pos (starEach [b] X.env)).any (·.1)=false:=by rfl):QE X (.Call (.Name "max" p2) [a,b] [] pos) (aG yJ tr):=
 iV (aW5 hc hu) aX0 hg B.max PyProof.Rows.boot_max ha (he:=he) (hpl:=hpl)
end
end PP
namespace HT
open PySem PyProof.Rows
section
open PySem.SeqAt
open PySem.MeetsSeq PySem.MeetsSeq2 PySem.MeetsSeq3
theorem aX3 (l:Addr) (items:Array Value) (n:Nat) (x:Value) (e:Value->Bool) (j:Nat) (hj:j < items.size) (hit:e items[j]=true) (hs1:items.size<=sizeLine) (k:Nat) :
  ∀ i:Nat,j - i=k->i<=j->(∀ m (hm:m < items.size),i<=m->m < j->e items[m]=false)->Meets (Builtin.«list.remove.loop» ⟨[.ref l,x,rawInt i],[]⟩)
   (fun A R s=>s.heap.get? l=some (seqObj "list" items n)/\(∀ y,y ∈ items->EqAt A.in1 s y x (e y))/\R (.ok (.ret .none)) { s with heap:=s.heap.update l (Obj.mapSeq fun xs=>xs.eraseIdxIfInBounds j) }):=by
 have fits:∀ i,(items.eraseIdxIfInBounds i).size<=sizeLine+1:=fun i=>bo3 (size_erased items _) (Nat.le_succ_of_le hs1)
 induction k with
 | zero=>
  intro i hk hij hno prog w A R s h
  obtain ⟨hp,g,d,tk,os⟩:=s
  obtain ⟨hl,he,h⟩:=h
  obtain rfl:i=j:=by omega
  have hl':hp.get? l=some { cls:=.type "list",dict:=none,data:=.seq items n,slots:=#[] }:=hl
  wp_walk using bu8 hl'
  rw [show items[((i:Nat):Int).toNat]? = some items[i] by simp [hj]]
  refine bj8 (he _ (bo7 hj) prog w _ _ ?_)
  rw [hit]
  wp_walk using (bA3 hl' rfl (hz:=hs1) (_hz':=fits i)),bu8 hl'
  simpa using h
 | succ k ih=>
  intro i hk hij hno prog w A R s h
  obtain ⟨hp,g,d,tk,os⟩:=s
  obtain ⟨hl,he,h⟩:=h
  have hlt:i < items.size:=by omega
  have hl':hp.get? l=some { cls:=.type "list",dict:=none,data:=.seq items n,slots:=#[] }:=hl
  wp_walk using bu8 hl'
  rw [show items[((i:Nat):Int).toNat]? = some items[i] by simp [hlt]]
  refine bj8 (he _ (bo7 hlt) prog w _ _ ?_)
  rw [hno i hlt (bl1 _) (by omega)]
  wp_walk
  rw [show ((i:Int)+1)=((i+1:Nat):Int) by omega]
  refine⟨bw7 plain_remove_loop _,bu9 entry_remove_loop ?_⟩
  rw [br5 plain_remove_loop _]
  exact ih (i+1) (by omega) (by omega) (fun m hm h1 h2=>hno m hm (by omega) h2) prog w A R _ ⟨hl,he,h⟩
theorem aX4 (l:Addr) (items:Array Value) (n:Nat) (x:Value) (e:Value->Bool) (j:Nat) (hj:j < items.size) (hit:e items[j]=true) (hno:∀ m (hm:m < items.size),m < j->e items[m]=false) (hs1:items.size<=sizeLine) :
  Meets (Builtin.«list.remove» ⟨[.ref l,x],[]⟩)
   (fun A R s=>s.heap.get? l=some (seqObj "list" items n)/\(∀ y,y ∈ items->EqAt A.in1 s y x (e y))/\R (.ok (.ret .none)) { s with heap:=s.heap.update l (Obj.mapSeq fun xs=>xs.eraseIdxIfInBounds j) }):=by
 intro prog w A R s h
 obtain ⟨hp,g,d,tk,os⟩:=s
 obtain ⟨hl,he,h⟩:=h
 have hl':hp.get? l=some { cls:=.type "list",dict:=none,data:=.seq items n,slots:=#[] }:=hl
 wp_walk using bu8 hl'
 refine⟨bw7 plain_remove_loop _,bu9 entry_remove_loop ?_⟩
 rw [br5 plain_remove_loop _]
 exact aX3 l items n x e j hj hit hs1 _ 0 rfl (bu5 _) (fun m hm _ h2=>hno m hm h2) prog w A R _ ⟨hl,he,h⟩
end
end HT
namespace PP
open PySem L2
section
variable {X : Cx} {σ : St} {H : Hp} {D : cZ} {te : aB} {e : Expr} {pos : Pos}
def ab8 (K:PySem.W.Frag):V->List V->Hp->VK->Prop:=fun x vs H Q=>∃ (p:Addr) (us:List V) (w:V) (ns:List Int) (rs:List (List Int)) (j:Nat),x = .ref p/\vs = [w]/\H p=some (.lst us)/\aD K (fun _=>True) H w (.tup (intz ns))/\Reps K (fun _=>True) H us (rs.map fun r=>PV.tup (intz r))/\rs[j]? = some ns/\(∀ k,k < j->rs[k]? ≠ some ns)/\us.length < 16000000/\Q .non (upd H p (.lst (us.eraseIdx j)))
theorem ab9:∀ (j:Nat) {us:List V}{its:List Value},aS us its->aS (us.eraseIdx j) (its.eraseIdx j)
 | _,_,_,.nil=>.nil
 | 0,_,_,.cons _ t=>t
 | j+1,_,_,.cons r t=>.cons r (ab9 j t)
theorem aX5 (hu:X.A.units+3 < cLine):uT X "list.remove" (ab8 X.K):=by
 intro pins s σ H x vs v us Q I rx rv h
 obtain ⟨p,ws,w,ns,rs,j,rfl,rfl,hp,rn,rr,hj,hno,hl,q⟩:=h
 cases rx
 obtain ⟨u,rfl,ru⟩:=gU rv
 obtain ⟨z,its,n,r,hl2,e⟩:=I.lstM hp
 have lr:=r.length
 have lp:=rr.length
 rw [bk8] at lp
 have jl:=(bl0.mp hj).1
 have hsz:sizeLine=16777216:=sizeLine_eq
 obtain ⟨f,key⟩:=X9 (A:=X.A.in1) (by show X.A.units+1+2 < cLine; omega) I ru r rn rr
 have jz:j < its.toArray.size:=by rw [bk3]; omega
 refine call_meets PySem.F.slot_list_remove ⟨_,e,rfl⟩ PySem.F.entry_list_remove (PySem.F.args_list_remove_2 _ _) (HT.aX4 p its.toArray n u f j jz ?_ ?_ (by rw [bk3]; omega)) ⟨e,fun y hy=>?_,.non,_,I.lset (its':=its.eraseIdx j) hp e ?_ (ab9 j r) ?_,rfl,q⟩
 ·obtain ⟨m,hm,_,h2⟩:=key j its[j] (bk5 (by omega))
  rw [hj] at hm
  cases hm
  show f its[j]=true
  rw [h2]; exact bk4 rfl
 ·intro k hk hlt
  rw [bk3] at hk
  obtain ⟨m,hm,_,h2⟩:=key k its[k] (bk5 hk)
  show f its[k]=false
  rw [h2]
  exact bk1 fun z=>hno k hlt (by rw [hm,z])
 ·have hy:y ∈ its:=by simpa using hy
  obtain ⟨k,hk⟩:=bw4 hy
  obtain ⟨m,_,h1,_⟩:=key k y hk
  exact h1
 ·simp [Array.eraseIdxIfInBounds,jz]
  omega
 ·have:=List.length_eraseIdx_le ws j
  omega
def yK (i:Nat) (te:aB):aP:=fun D ρ=>∃ rs:List (List Int),ρ[i]? = some (some (.own (.lst (rs.map fun r=>PV.tup (intz r)))))/\te ρ fun y _=>∃ (ns:List Int) (j:Nat),y = .tup (intz ns)/\rs[j]? = some ns/\(∀ k,k < j->rs[k]? ≠ some ns)/\rs.length < 16000000/\D.nx (ρ.set i (some (.own (.lst ((rs.eraseIdx j).map fun r=>PV.tup (intz r))))))
theorem aX6 {i:Nat} (h:LS X (yK i te) D σ H):o8 (uS X.K "list" (ab8 X.K) (kU i) (kA (LE X te) kZ)) D σ H:=by
 obtain ⟨W,ρ,D',px,⟨rs,hi,q⟩,k⟩:=h
 obtain ⟨v,ev,a,rfl,wa,us,ea,r⟩:=px.sl i _ hi
 have lr:=r.length
 rw [bk8] at lr
 refine⟨_,ev,G4 (aT.of ea),W,ρ,_,px,q,?_⟩
 rintro w H1 y g s ry ⟨ns,j,rfl,hj,hno,hl,q⟩
 have ea2:=s _ _ ea
 refine⟨a,us,w,ns,rs,j,rfl,rfl,ea2,ry.same (aE.refl _) (fun _ _=>trivial),r.same s (fun _ _=>trivial),hj,hno,by omega,?_⟩
 refine k.nx W σ _ _ ((Ev.same s).trans (Ev.upd wa)) ((px.mono s).updL hi ev wa ?_) q
 have r2:=(r.same (M':=Ms X.H₀ W true) s fun _ z=>z).eraseIdx j
 rw [<- Raw.jS] at r2
 exact r2.keep (.upd ea2 rfl fun b m=>⟨oK wa m,m⟩)
theorem aX7 (i:Nat) {x:Str}{apos cpos xpos:Pos} (hu:X.A.units+3 < cLine) (he:QE X e te) (hN:X.N[i]? = some x:=by rfl) (hv:jA X.env.scope x:=by first | exact Or.inl rfl | exact Or.inr (Or.inl rfl) | exact Or.inr (Or.inr rfl)) (hd:(x == ("__debug__" : Str))=false:=by decide) (hcd:(x == ("__classdict__" : Str))=false:=by decide)
  (hbase:attributeBase (.Name x xpos) "remove" X.env (eval (.Name x xpos) X.env)=eval (.Name x xpos) X.env:=by rfl)
  (hfew:((backTo cpos (starEach [e] X.env)).all (fun x=>!x.1) && (backToKw cpos (keywordEach [] X.env)).all (fun x=>x.1.isSome) && decide (([e]:List Expr).length+([]:List Keyword).length+(if ([]:List Keyword).isEmpty then 0 else 1) < 30))=true:=by rfl)
  (hline:(apos.endLine == cpos.line)=true:=by rfl) (hs:starEach [e] X.env=(false,eval e X.env) :: starEach [] X.env:=by rfl) (hplain:(backTo cpos (starEach [] X.env)).any (·.1)=false:=by rfl)
  (hsw:swapsWith (.Call (.Attribute (.Name x xpos) "remove" apos) [e] [] cpos) none pos.line X.env=pure false:=by rfl) :
  QS X (.Expr (.Call (.Attribute (.Name x xpos) "remove" apos) [e] [] cpos) pos) (yK i te):=
 dZ (qA (C5 PySem.F.plainAttrs_list PySem.F.slot_list_remove PySem.F.type_list_remove (aX5 hu) (mK hN hv hd hcd) (fV he iO hs) hbase hfew hline hs hplain) hsw) fun _ _ _=>aX6
def nR (i j k l:Nat):iE:=fun x g ρ Q=>∃ y z u w,x = .tup [y,z,u,w]/\Q ((((ρ.set i (some (.sh (g || flat y) y))).set j (some (.sh (g || flat z) z))).set k (some (.sh (g || flat u) u))).set l (some (.sh (g || flat w) w)))
abbrev ac0 (K:PySem.W.Frag) (i j k l:Nat):TG:=mM K 4 (gF (dA i) (gF (dA j) (gF (dA k) (gF (dA l) mL))))
theorem Reps.four {K:PySem.W.Frag}{M:Addr->Prop}{H:Hp}{vs:List V}{x y z u:PV} (r:Reps K M H vs [x,y,z,u]):∃ v1 v2 v3 v4,vs = [v1,v2,v3,v4]/\aD K M H v1 x/\aD K M H v2 y/\aD K M H v3 z/\aD K M H v4 u:=by
 cases r with
 | cons r t=>
  obtain ⟨v,w,u,rfl,q1,q2,q3⟩:=t.three
  exact⟨_,_,_,_,rfl,r,q1,q2,q3⟩
theorem ac1 (K:PySem.W.Frag) (i j k l:Nat):lF K (fun n=>n=i ∨ n=j ∨ n=k ∨ n=l) (nR i j k l) (ac0 K i j k l):=by
 intro H0 W σ ρ H v x g Q Q' px r q kk
 obtain ⟨y,z,u,w,rfl,q⟩:=q
 obtain ⟨a,us,rfl,h,r⟩:=r.sqT
 obtain ⟨u1,u2,u3,u4,rfl,r1,r2,r3,r4⟩:=r.four
 refine⟨a,_,rfl,aU.of h,rfl,u1,_,rfl,u2,_,rfl,u3,_,rfl,u4,_,rfl,rfl,kk _ _ ((((px.setSh (kG r1)).setSh (kG r2)).setSh (kG r3)).setSh (kG r4)) (fun n hn=>?_) (by simp only [bs5]) q⟩
 rw [bm8 (fun e=>hn (.inr (.inr (.inr e.symm)))),bm8 (fun e=>hn (.inr (.inr (.inl e.symm)))),bm8 (fun e=>hn (.inr (.inl e.symm))),bm8 (fun e=>hn (.inl e.symm))]
structure Nm (X:Cx) (i:Nat) (x:Str):Prop where
 a:X.N[i]? = some x
 b:gR X.env.scope x
 c:X.fn x=true ∨ X.env.scope.names.lookup x=some .local
theorem ac2 {x y z u:Str}{tp xp yp zp up:Pos}{kt i j k l:Nat} (hN:X.N.Nodup) (hc:X.calm=true) (n1:Nm X i x) (n2:Nm X j y) (n3:Nm X k z) (n4:Nm X l u):PG X (.Tuple [.Name x xp,.Name y yp,.Name z zp,.Name u up] kt tp) (ac0 X.K i j k l):=
 qE hc (iM (gS hN n1.a n1.b n1.c) (iM (gS hN n2.a n2.b n2.c) (iM (gS hN n3.a n3.b n3.c) (iM (gS hN n4.a n4.b n4.c) qD))))
theorem aX8 (i j k l:Nat) {x y z u:Str}{tp xp yp zp up:Pos}{kt:Nat} (hN:X.N.Nodup) (he:QE X e te)
  (n1:Nm X i x:=by exact⟨rfl,by first | exact Or.inl rfl | exact Or.inr rfl,by first | exact .inl rfl | exact .inr rfl⟩) (n2:Nm X j y:=by exact⟨rfl,by first | exact Or.inl rfl | exact Or.inr rfl,by first | exact .inl rfl | exact .inr rfl⟩)
  (n3:Nm X k z:=by exact⟨rfl,by first | exact Or.inl rfl | exact Or.inr rfl,by first | exact .inl rfl | exact .inr rfl⟩) (n4:Nm X l u:=by exact⟨rfl,by first | exact Or.inl rfl | exact Or.inr rfl,by first | exact .inl rfl | exact .inr rfl⟩) (hc:X.calm=true:=by rfl)
  (hs:swapsWithSole [.Tuple [.Name x xp,.Name y yp,.Name z zp,.Name u up] kt tp] e pos.line X.env=pure false:=by rfl) (hw:swappedStores [.Tuple [.Name x xp,.Name y yp,.Name z zp,.Name u up] kt tp] e X.env=pure none:=by rfl) :
  QS X (.Assign [.Tuple [.Name x xp,.Name y yp,.Name z zp,.Name u up] kt tp] e pos) (nO (nR i j k l) te):=
 dZ (zK he (ac2 hN hc n1 n2 n3 n4) hs hw) fun _ _ _=>U9 (ac1 _ i j k l)
theorem aX9 (i j k l:Nat) {x y z u:Str}{tp xp yp zp up:Pos}{kt:Nat}{body:List Stmt}{ti:fB}{t:aP} (hN:X.N.Nodup) (hi:QI X (.Tuple [.Name x xp,.Name y yp,.Name z zp,.Name u up] kt tp) e ti) (hb:eJ X body t)
  (n1:Nm X i x:=by exact⟨rfl,by first | exact Or.inl rfl | exact Or.inr rfl,by first | exact .inl rfl | exact .inr rfl⟩) (n2:Nm X j y:=by exact⟨rfl,by first | exact Or.inl rfl | exact Or.inr rfl,by first | exact .inl rfl | exact .inr rfl⟩)
  (n3:Nm X k z:=by exact⟨rfl,by first | exact Or.inl rfl | exact Or.inr rfl,by first | exact .inl rfl | exact .inr rfl⟩) (n4:Nm X l u:=by exact⟨rfl,by first | exact Or.inl rfl | exact Or.inr rfl,by first | exact .inl rfl | exact .inr rfl⟩)
  (hp:PassesOwn (model X.prog X.w) X.A X.env X.xe:=by exact PassesOwn.never) (hc:X.calm=true:=by rfl) (hs:∀ x,foldedSetIterable e X.env x=pure x:=by intro _; rfl) :
  QS X (.For (.Tuple [.Name x xp,.Name y yp,.Name z zp,.Name u up] kt tp) e body [] pos) (dB ti (nR i j k l) t):=
 wI hp hc hi (ac2 hN hc n1 n2 n3 n4) (ac1 _ i j k l) hb hs
end
end PP
namespace Core
open PySem L2 PP
structure Bx where
 t:Int
 l:Int
 b:Int
 r:Int
deriving DecidableEq
def Bx.k (x:Bx):List Int:=[x.t,x.l,x.b,x.r]
theorem Bx.k_inj {x y:Bx} (h:x.k=y.k):x=y:=by
 obtain ⟨a,b,c,d⟩:=x
 obtain ⟨a',b',c',d'⟩:=y
 unfold Bx.k at h
 simp only [List.cons.injEq,and_true] at h
 obtain ⟨rfl,rfl,rfl,rfl⟩:=h
 rfl
def fO (s e s' e':Int):Int:=max 0 (max (s' - e) (s - e'))
def bT (x y:Bx):Bool:=decide (fO x.t x.b y.t y.b+fO x.l x.r y.l y.r<=2)
def bL (x y:Bx):Bx:=⟨min x.t y.t,min x.l y.l,max x.b y.b,max x.r y.r⟩
def okX (x:Bx):Prop:=x.t<=x.b/\x.l<=x.r
def aQ (x:Bx) (p:Int × Int):Prop:=x.t<=p.1/\p.1<=x.b/\x.l<=p.2/\p.2<=x.r
def bA (x y:Bx):Prop:=y.t<=x.t/\y.l<=x.l/\x.b<=y.b/\x.r<=y.r
def cX (p:Int × Int):Bx:=⟨p.1,p.2,p.1,p.2⟩
def i5 (x a:Int × Int):Prop:=(a.1=x.1/\(a.2=x.2 - 1 ∨ a.2=x.2+1)) ∨ (a.2=x.2/\(a.1=x.1 - 1 ∨ a.1=x.1+1))
theorem j5 {a b:Int × Int} (h:a.1 ≠ b.1 ∨ a.2 ≠ b.2):a ≠ b:=fun e=>by subst e; exact h.elim (fun z=>z rfl) fun z=>z rfl
theorem ac3 (s e s' e':Int):0<=fO s e s' e'/\s' - e<=fO s e s' e'/\s - e'<=fO s e s' e':=
 ⟨bA4 ..,bo4 (bA4 ..) (bw5 ..),bo4 (bw5 ..) (bw5 ..)⟩
theorem ac4 {s e s' e' g:Int} (h0:0<=g) (h1:s' - e<=g) (h2:s - e'<=g):fO s e s' e'<=g:=Int.max_le.mpr ⟨h0,Int.max_le.mpr ⟨h1,h2⟩⟩
theorem ac5 {x y:Bx} (h:bT x y=true):∃ g h:Int,0<=g/\0<=h/\g+h<=2/\y.t - x.b<=g/\x.t - y.b<=g/\y.l - x.r<=h/\x.l - y.r<=h:=
 have a:=ac3 x.t x.b y.t y.b
 have b:=ac3 x.l x.r y.l y.r
 ⟨_,_,a.1,b.1,by2 h,a.2.1,a.2.2,b.2.1,b.2.2⟩
theorem yL {x y:Bx}{g h:Int} (g0:0<=g) (h0:0<=h) (gh:g+h<=2) (a1:y.t - x.b<=g) (a2:x.t - y.b<=g) (b1:y.l - x.r<=h) (b2:x.l - y.r<=h):bT x y=true:=
 bk4 (bo4 (Int.add_le_add (ac4 g0 a1 a2) (ac4 h0 b1 b2)) gh)
theorem yM (x y:Bx):bT x y=bT y x:=by
 have go:∀ x y:Bx,bT x y=true->bT y x=true:=fun x y h=>by
  obtain ⟨g,h,g0,h0,gh,a1,a2,b1,b2⟩:=ac5 h
  exact yL g0 h0 gh a2 a1 b2 b1
 exact bs3.mpr ⟨go x y,go y x⟩
theorem tD {x y:Bx}{p:Int × Int} (h1:aQ x p) (h2:aQ y p):bT x y=true:=
 yL (g:=0) (h:=0) (bk7 _) (bk7 _) (by decide) (Int.sub_nonpos_of_le (bo4 h2.1 h1.2.1)) (Int.sub_nonpos_of_le (bo4 h1.1 h2.2.1)) (Int.sub_nonpos_of_le (bo4 h2.2.2.1 h1.2.2.2)) (Int.sub_nonpos_of_le (bo4 h1.2.2.1 h2.2.2.2))
theorem aY0 {x:Bx} (ok:okX x):bT x x=true:=tD (p:=(x.t,x.l)) ⟨bk7 _,ok.1,bk7 _,ok.2⟩ ⟨bk7 _,ok.1,bk7 _,ok.2⟩
theorem pU (x y:Bx):bA x (bL x y):=⟨Int.min_le_left ..,Int.min_le_left ..,bA4 ..,bA4 ..⟩
theorem tE (x y:Bx):bA y (bL x y):=⟨Int.min_le_right ..,Int.min_le_right ..,bw5 ..,bw5 ..⟩
theorem aY1 {x y z:Bx} (h:bA x z) (h':bA y z):bA (bL x y) z:=⟨Int.le_min.mpr ⟨h.1,h'.1⟩,Int.le_min.mpr ⟨h.2.1,h'.2.1⟩,Int.max_le.mpr ⟨h.2.2.1,h'.2.2.1⟩,Int.max_le.mpr ⟨h.2.2.2,h'.2.2.2⟩⟩
theorem bA.in_ {x y:Bx} (s:bA x y) {p:Int × Int} (h:aQ x p):aQ y p:=⟨bo4 s.1 h.1,bo4 h.2.1 s.2.2.1,bo4 s.2.1 h.2.2.1,bo4 h.2.2.2 s.2.2.2⟩
theorem bA.refl (x:Bx):bA x x:=⟨bk7 _,bk7 _,bk7 _,bk7 _⟩
theorem bA.trans {x y z:Bx} (h:bA x y) (h':bA y z):bA x z:=⟨bo4 h'.1 h.1,bo4 h'.2.1 h.2.1,bo4 h.2.2.1 h'.2.2.1,bo4 h.2.2.2 h'.2.2.2⟩
theorem aY2 {x y:Bx} (h:okX x):okX (bL x y):=
 have s:=pU x y
 ⟨bo4 s.1 (bo4 h.1 s.2.2.1),bo4 s.2.1 (bo4 h.2 s.2.2.2)⟩
theorem aY3 (x y:Bx):bL x y=bL y x:=by unfold bL; rw [Int.min_comm x.t,Int.min_comm x.l,Int.max_comm x.b,Int.max_comm x.r]
theorem aY4 {x y:Bx}{p:Int × Int} (h:aQ x p):aQ (bL x y) p:=(pU x y).in_ h
theorem yN {x y:Bx}{p:Int × Int} (h:aQ y p):aQ (bL x y) p:=(tE x y).in_ h
def fP (B:Bx) (U:Int × Int->Prop):Prop:=∀ x a b,aQ B x->i5 x a->i5 x b->a ≠ b->U a->U b->U x
def cY (U:Int × Int->Prop) (x:Bx):Prop:=∀ p,aQ x p->U p
theorem aY5 {U:Int × Int->Prop}{x y:Bx} (f:cY U y) (s:bA x y):cY U x:=fun p h=>f p (s.in_ h)
section
variable {B : Bx} {U : Int × Int → Prop}
theorem aY6 (cl:fP B U) {y y' l r c0:Int} (hy:y'=y - 1 ∨ y'=y+1) (bd:∀ c,l<=c->c<=r->aQ B (y,c)) (f:∀ c,l<=c->c<=r->U (y',c)) (h0:l<=c0/\c0<=r) (u0:U (y,c0)):∀ (n:Nat) (c:Int),l<=c->c<=r->(c - c0).natAbs=n->U (y,c):=by
 have ny:y ≠ y':=by omega
 intro n
 induction n with
 | zero=>intro c h1 h2 h3; rw [show c=c0 by omega]; exact u0
 | succ n ih=>
  intro c h1 h2 h3
  have go:∀ d:Int,(d=c - 1 ∨ d=c+1)->l<=d->d<=r->(d - c0).natAbs=n->U (y,c):=fun d hd g1 g2 g3=>
   cl (y,c) (y,d) (y',c) (bd c h1 h2) (.inl ⟨rfl,hd⟩) (.inr ⟨rfl,hy⟩) (j5 (.inl ny)) (ih d g1 g2 g3) (f c h1 h2)
  by_cases g:c0 < c
  ·exact go (c - 1) (.inl rfl) (by omega) (by omega) (by omega)
  ·exact go (c+1) (.inr rfl) (by omega) (by omega) (by omega)
theorem aY7 (cl:fP B U) {y y' l r c0:Int} (hy:y'=y - 1 ∨ y'=y+1) (bd:∀ c,l<=c->c<=r->aQ B (c,y)) (f:∀ c,l<=c->c<=r->U (c,y')) (h0:l<=c0/\c0<=r) (u0:U (c0,y)):∀ (n:Nat) (c:Int),l<=c->c<=r->(c - c0).natAbs=n->U (c,y):=by
 have ny:y ≠ y':=by omega
 intro n
 induction n with
 | zero=>intro c h1 h2 h3; rw [show c=c0 by omega]; exact u0
 | succ n ih=>
  intro c h1 h2 h3
  have go:∀ d:Int,(d=c - 1 ∨ d=c+1)->l<=d->d<=r->(d - c0).natAbs=n->U (c,y):=fun d hd g1 g2 g3=>
   cl (c,y) (d,y) (c,y') (bd c h1 h2) (.inr ⟨rfl,hd⟩) (.inl ⟨rfl,hy⟩) (j5 (.inr ny)) (ih d g1 g2 g3) (f c h1 h2)
  by_cases g:c0 < c
  ·exact go (c - 1) (.inl rfl) (by omega) (by omega) (by omega)
  ·exact go (c+1) (.inr rfl) (by omega) (by omega) (by omega)
variable {t l b r : Int}
theorem ac6 (cl:fP B U) (f:cY U ⟨t,l,b,r⟩) {y y' c0:Int} (hy:y'=y - 1 ∨ y'=y+1) (h1:t<=y'/\y'<=b) (u:U (y,c0)) (h2:l<=c0/\c0<=r) {R:Bx} (s:bA R B) (hl:R.l=l) (hr:R.r=r) (iy:R.t<=y/\y<=R.b) (old:∀ q:Int × Int,aQ R q->q.1 ≠ y->t<=q.1/\q.1<=b):cY U R:=by
 intro q hq
 have a3:l<=q.2:=hl ▸ hq.2.2.1
 have a4:q.2<=r:=hr ▸ hq.2.2.2
 by_cases e:q.1=y
 ·have:=aY6 cl hy (fun c g1 g2=>s.in_ ⟨iy.1,iy.2,hl.symm ▸ g1,hr.symm ▸ g2⟩) (fun c g1 g2=>f (y',c) ⟨h1.1,h1.2,g1,g2⟩) h2 u _ q.2 a3 a4 rfl
  rw [show q=(y,q.2) from bv7 e rfl]; exact this
 ·have o:=old q hq e
  exact f q ⟨o.1,o.2,a3,a4⟩
theorem ac7 (cl:fP B U) (f:cY U ⟨t,l,b,r⟩) {y y' c0:Int} (hy:y'=y - 1 ∨ y'=y+1) (h1:l<=y'/\y'<=r) (u:U (c0,y)) (h2:t<=c0/\c0<=b) {R:Bx} (s:bA R B) (ht:R.t=t) (hb:R.b=b) (iy:R.l<=y/\y<=R.r) (old:∀ q:Int × Int,aQ R q->q.2 ≠ y->l<=q.2/\q.2<=r):cY U R:=by
 intro q hq
 have a3:t<=q.1:=ht ▸ hq.1
 have a4:q.1<=b:=hb ▸ hq.2.1
 by_cases e:q.2=y
 ·have:=aY7 cl hy (fun c g1 g2=>s.in_ ⟨ht.symm ▸ g1,hb.symm ▸ g2,iy.1,iy.2⟩) (fun c g1 g2=>f (c,y') ⟨g1,g2,h1.1,h1.2⟩) h2 u _ q.1 a3 a4 rfl
  rw [show q=(q.1,y) from bv7 rfl e]; exact this
 ·have o:=old q hq e
  exact f q ⟨a3,a4,o.1,o.2⟩
theorem tF (cl:fP B U) (f:cY U ⟨t,l,b,r⟩) (tb:t<=b) {c0:Int} (u:U (b+1,c0)) (h2:l<=c0/\c0<=r) (s:bA ⟨t,l,b+1,r⟩ B):cY U ⟨t,l,b+1,r⟩:=
 ac6 cl f (y:=b+1) (y':=b) (.inl (by omega)) ⟨tb,bk7 _⟩ u h2 s rfl rfl ⟨by show t<=b+1; omega,bk7 _⟩ fun q hq ne=>⟨hq.1,by have:q.1<=b+1:=hq.2.1; omega⟩
theorem tG (cl:fP B U) (f:cY U ⟨t,l,b,r⟩) (tb:t<=b) {c0:Int} (u:U (t - 1,c0)) (h2:l<=c0/\c0<=r) (s:bA ⟨t - 1,l,b,r⟩ B):cY U ⟨t - 1,l,b,r⟩:=
 ac6 cl f (y:=t - 1) (y':=t) (.inr (by omega)) ⟨bk7 _,tb⟩ u h2 s rfl rfl ⟨bk7 _,by show t - 1<=b; omega⟩ fun q hq ne=>⟨by have:t - 1<=q.1:=hq.1; omega,hq.2.1⟩
theorem yO (cl:fP B U) (f:cY U ⟨t,l,b,r⟩) (lr:l<=r) {c0:Int} (u:U (c0,r+1)) (h2:t<=c0/\c0<=b) (s:bA ⟨t,l,b,r+1⟩ B):cY U ⟨t,l,b,r+1⟩:=
 ac7 cl f (y:=r+1) (y':=r) (.inl (by omega)) ⟨lr,bk7 _⟩ u h2 s rfl rfl ⟨by show l<=r+1; omega,bk7 _⟩ fun q hq ne=>⟨hq.2.2.1,by have:q.2<=r+1:=hq.2.2.2; omega⟩
theorem yP (cl:fP B U) (f:cY U ⟨t,l,b,r⟩) (lr:l<=r) {c0:Int} (u:U (c0,l - 1)) (h2:t<=c0/\c0<=b) (s:bA ⟨t,l - 1,b,r⟩ B):cY U ⟨t,l - 1,b,r⟩:=
 ac7 cl f (y:=l - 1) (y':=l) (.inr (by omega)) ⟨bk7 _,lr⟩ u h2 s rfl rfl ⟨bk7 _,by show l - 1<=r; omega⟩ fun q hq ne=>⟨by have:l - 1<=q.2:=hq.2.2.1; omega,hq.2.2.2⟩
def k7 (B:Bx) (U:Int × Int->Prop) (R:Bx) (p:Int × Int):Prop:=∃ R',okX R'/\bA R R'/\aQ R' p/\bA R' B/\cY U R'
theorem k7.step {R R1:Bx}{p:Int × Int} (s:bA R R1) (h:k7 B U R1 p):k7 B U R p:=by
 obtain ⟨R',h1,h2,h3,h4,h5⟩:=h
 exact⟨R',h1,s.trans h2,h3,h4,h5⟩
section
variable (cl : fP B U) {p1 p2 : Int} (u : U (p1, p2)) (ip : aQ B (p1, p2))
include cl u ip
theorem yQ (f:cY U ⟨t,l,b,r⟩) (tb:t<=b) (lr:l<=r) (s:bA ⟨t,l,b,r⟩ B) (h:t<=p1/\p1<=b) (g1:p2 - r<=2) (g2:l - p2<=2):k7 B U ⟨t,l,b,r⟩ (p1,p2):=by
 obtain ⟨s1,s2,s3,s4⟩:=s
 obtain ⟨i1,i2,i3,i4⟩:=ip
 dsimp only at *
 by_cases a:p2<=r
 ·by_cases a':l<=p2
  ·exact⟨_,⟨tb,lr⟩,bA.refl _,⟨h.1,h.2,a',a⟩,⟨s1,s2,s3,s4⟩,f⟩
  ·have u1:U (p1,l - 1):=by
    by_cases e:p2=l - 1
    ·rw [<- e]; exact u
    ·exact cl (p1,l - 1) (p1,p2) (p1,l) ⟨i1,i2,by show B.l<=l - 1; omega,by show l - 1<=B.r; omega⟩ (.inl ⟨rfl,.inl (by show p2=l - 1 - 1; omega)⟩) (.inl ⟨rfl,.inr (by show l=l - 1+1; omega)⟩) (j5 (.inr (by show p2 ≠ l; omega))) u (f _ ⟨h.1,h.2,bk7 _,lr⟩)
   have f1:=yP cl f lr u1 h ⟨s1,by show B.l<=l - 1; omega,s3,s4⟩
   by_cases e:p2=l - 1
   ·exact⟨⟨t,l - 1,b,r⟩,⟨tb,by show l - 1<=r; omega⟩,⟨bk7 _,by show l - 1<=l; omega,bk7 _,bk7 _⟩,⟨h.1,h.2,by show l - 1<=p2; omega,a⟩,⟨s1,by show B.l<=l - 1; omega,s3,s4⟩,f1⟩
   ·have e2:p2=l - 1 - 1:=by omega
    have f2:=yP cl f1 (by omega) (c0:=p1) (by rw [<- e2]; exact u) h ⟨s1,by show B.l<=l - 1 - 1; omega,s3,s4⟩
    exact⟨⟨t,l - 1 - 1,b,r⟩,⟨tb,by show l - 1 - 1<=r; omega⟩,⟨bk7 _,by show l - 1 - 1<=l; omega,bk7 _,bk7 _⟩,⟨h.1,h.2,by show l - 1 - 1<=p2; omega,a⟩,⟨s1,by show B.l<=l - 1 - 1; omega,s3,s4⟩,f2⟩
 ·have u1:U (p1,r+1):=by
   by_cases e:p2=r+1
   ·rw [<- e]; exact u
   ·exact cl (p1,r+1) (p1,p2) (p1,r) ⟨i1,i2,by show B.l<=r+1; omega,by show r+1<=B.r; omega⟩ (.inl ⟨rfl,.inr (by show p2=r+1+1; omega)⟩) (.inl ⟨rfl,.inl (by show r=r+1 - 1; omega)⟩) (j5 (.inr (by show p2 ≠ r; omega))) u (f _ ⟨h.1,h.2,lr,bk7 _⟩)
  have f1:=yO cl f lr u1 h ⟨s1,s2,s3,by show r+1<=B.r; omega⟩
  by_cases e:p2=r+1
  ·exact⟨⟨t,l,b,r+1⟩,⟨tb,by show l<=r+1; omega⟩,⟨bk7 _,bk7 _,bk7 _,by show r<=r+1; omega⟩,⟨h.1,h.2,by show l<=p2; omega,by show p2<=r+1; omega⟩,⟨s1,s2,s3,by show r+1<=B.r; omega⟩,f1⟩
  ·have e2:p2=r+1+1:=by omega
   have f2:=yO cl f1 (by omega) (c0:=p1) (by rw [<- e2]; exact u) h ⟨s1,s2,s3,by show r+1+1<=B.r; omega⟩
   exact⟨⟨t,l,b,r+1+1⟩,⟨tb,by show l<=r+1+1; omega⟩,⟨bk7 _,bk7 _,bk7 _,by show r<=r+1+1; omega⟩,⟨h.1,h.2,by show l<=p2; omega,by show p2<=r+1+1; omega⟩,⟨s1,s2,s3,by show r+1+1<=B.r; omega⟩,f2⟩
theorem aY8 (f:cY U ⟨t,l,b,r⟩) (tb:t<=b) (lr:l<=r) (s:bA ⟨t,l,b,r⟩ B) {g h:Int} (g0:0<=g) (h0:0<=h) (gh:g+h<=2) (a1:p1 - b<=g) (a2:t - p1<=g) (b1:p2 - r<=h) (b2:l - p2<=h):k7 B U ⟨t,l,b,r⟩ (p1,p2):=by
 by_cases c1:p1<=b
 ·by_cases c2:t<=p1
  ·exact yQ cl u ip f tb lr s ⟨c2,c1⟩ (by omega) (by omega)
  ·
   obtain ⟨s1,s2,s3,s4⟩:=s
   obtain ⟨i1,i2,i3,i4⟩:=ip
   dsimp only at *
   have go:∀ c0,U (t - 1,c0)->l<=c0/\c0<=r->p1=t - 1->k7 B U ⟨t,l,b,r⟩ (p1,p2):=fun c0 u0 hc e=>
    k7.step (R1:=⟨t - 1,l,b,r⟩) ⟨by show t - 1<=t; omega,bk7 _,bk7 _,bk7 _⟩ (yQ cl u ⟨i1,i2,i3,i4⟩ (tG cl f tb u0 hc ⟨by show B.t<=t - 1; omega,s2,s3,s4⟩) (by omega) lr ⟨by show B.t<=t - 1; omega,s2,s3,s4⟩ ⟨by omega,by omega⟩ (by omega) (by omega))
   by_cases e:p1=t - 1
   ·by_cases d1:p2<=r
    ·by_cases d2:l<=p2
     ·exact go p2 (by rw [<- e]; exact u) ⟨d2,d1⟩ e
     ·exact go l (cl (t - 1,l) (p1,p2) (t,l) ⟨by show B.t<=t - 1; omega,by show t - 1<=B.b; omega,s2,by show l<=B.r; omega⟩ (.inl ⟨e,.inl (by show p2=l - 1; omega)⟩) (.inr ⟨rfl,.inr (by show t=t - 1+1; omega)⟩) (j5 (.inl (by show p1 ≠ t; omega))) u (f _ ⟨bk7 _,tb,bk7 _,lr⟩)) ⟨bk7 _,lr⟩ e
    ·exact go r (cl (t - 1,r) (p1,p2) (t,r) ⟨by show B.t<=t - 1; omega,by show t - 1<=B.b; omega,by show B.l<=r; omega,s4⟩ (.inl ⟨e,.inr (by show p2=r+1; omega)⟩) (.inr ⟨rfl,.inr (by show t=t - 1+1; omega)⟩) (j5 (.inl (by show p1 ≠ t; omega))) u (f _ ⟨bk7 _,tb,lr,bk7 _⟩)) ⟨lr,bk7 _⟩ e
   ·have hc:l<=p2/\p2<=r:=⟨by omega,by omega⟩
    have e2:p1=t - 1 - 1:=by omega
    have u1:U (t - 1,p2):=cl (t - 1,p2) (p1,p2) (t,p2) ⟨by show B.t<=t - 1; omega,by show t - 1<=B.b; omega,i3,i4⟩ (.inr ⟨rfl,.inl e2⟩) (.inr ⟨rfl,.inr (by show t=t - 1+1; omega)⟩) (j5 (.inl (by show p1 ≠ t; omega))) u (f _ ⟨bk7 _,tb,hc.1,hc.2⟩)
    have f1:=tG cl f tb u1 hc ⟨by show B.t<=t - 1; omega,s2,s3,s4⟩
    have f2:=tG cl f1 (by omega) (c0:=p2) (by rw [<- e2]; exact u) hc ⟨by show B.t<=t - 1 - 1; omega,s2,s3,s4⟩
    exact⟨⟨t - 1 - 1,l,b,r⟩,⟨by show t - 1 - 1<=b; omega,lr⟩,⟨by show t - 1 - 1<=t; omega,bk7 _,bk7 _,bk7 _⟩,⟨by show t - 1 - 1<=p1; omega,c1,hc.1,hc.2⟩,⟨by show B.t<=t - 1 - 1; omega,s2,s3,s4⟩,f2⟩
 ·
  obtain ⟨s1,s2,s3,s4⟩:=s
  obtain ⟨i1,i2,i3,i4⟩:=ip
  dsimp only at *
  have go:∀ c0,U (b+1,c0)->l<=c0/\c0<=r->p1=b+1->k7 B U ⟨t,l,b,r⟩ (p1,p2):=fun c0 u0 hc e=>
   k7.step (R1:=⟨t,l,b+1,r⟩) ⟨bk7 _,bk7 _,by show b<=b+1; omega,bk7 _⟩ (yQ cl u ⟨i1,i2,i3,i4⟩ (tF cl f tb u0 hc ⟨s1,s2,by show b+1<=B.b; omega,s4⟩) (by omega) lr ⟨s1,s2,by show b+1<=B.b; omega,s4⟩ ⟨by omega,by omega⟩ (by omega) (by omega))
  by_cases e:p1=b+1
  ·by_cases d1:p2<=r
   ·by_cases d2:l<=p2
    ·exact go p2 (by rw [<- e]; exact u) ⟨d2,d1⟩ e
    ·exact go l (cl (b+1,l) (p1,p2) (b,l) ⟨by show B.t<=b+1; omega,by show b+1<=B.b; omega,s2,by show l<=B.r; omega⟩ (.inl ⟨e,.inl (by show p2=l - 1; omega)⟩) (.inr ⟨rfl,.inl (by show b=b+1 - 1; omega)⟩) (j5 (.inl (by show p1 ≠ b; omega))) u (f _ ⟨tb,bk7 _,bk7 _,lr⟩)) ⟨bk7 _,lr⟩ e
   ·exact go r (cl (b+1,r) (p1,p2) (b,r) ⟨by show B.t<=b+1; omega,by show b+1<=B.b; omega,by show B.l<=r; omega,s4⟩ (.inl ⟨e,.inr (by show p2=r+1; omega)⟩) (.inr ⟨rfl,.inl (by show b=b+1 - 1; omega)⟩) (j5 (.inl (by show p1 ≠ b; omega))) u (f _ ⟨tb,bk7 _,lr,bk7 _⟩)) ⟨lr,bk7 _⟩ e
  ·have hc:l<=p2/\p2<=r:=⟨by omega,by omega⟩
   have e2:p1=b+1+1:=by omega
   have u1:U (b+1,p2):=cl (b+1,p2) (p1,p2) (b,p2) ⟨by show B.t<=b+1; omega,by show b+1<=B.b; omega,i3,i4⟩ (.inr ⟨rfl,.inr e2⟩) (.inr ⟨rfl,.inl (by show b=b+1 - 1; omega)⟩) (j5 (.inl (by show p1 ≠ b; omega))) u (f _ ⟨tb,bk7 _,hc.1,hc.2⟩)
   have f1:=tF cl f tb u1 hc ⟨s1,s2,by show b+1<=B.b; omega,s4⟩
   have f2:=tF cl f1 (by omega) (c0:=p2) (by rw [<- e2]; exact u) hc ⟨s1,s2,by show b+1+1<=B.b; omega,s4⟩
   exact⟨⟨t,l,b+1+1,r⟩,⟨by show t<=b+1+1; omega,lr⟩,⟨bk7 _,bk7 _,by show b<=b+1+1; omega,bk7 _⟩,⟨by show t<=p1; omega,by show p1<=b+1+1; omega,hc.1,hc.2⟩,⟨s1,s2,by show b+1+1<=B.b; omega,s4⟩,f2⟩
end
theorem aY9 (cl:fP B U) {C:Bx} (fC:cY U C) (sC:bA C B) {p:Int × Int} (pC:aQ C p):∀ (n:Nat) (t l b r:Int),aQ ⟨t,l,b,r⟩ p->cY U ⟨t,l,b,r⟩->bA ⟨t,l,b,r⟩ B->(t - C.t).toNat+(l - C.l).toNat+(C.b - b).toNat+(C.r - r).toNat=n->∃ R,cY U R/\bA ⟨t,l,b,r⟩ R/\bA C R:=by
 obtain ⟨c1,c2,c3,c4⟩:=pC
 obtain ⟨d1,d2,d3,d4⟩:=sC
 intro n
 induction n with
 | zero=>
  intro t l b r pR f s h
  exact⟨_,f,bA.refl _,by show t<=C.t; omega,by show l<=C.l; omega,by show C.b<=b; omega,by show C.r<=r; omega⟩
 | succ n ih=>
  rintro t l b r ⟨a1,a2,a3,a4⟩ f ⟨s1,s2,s3,s4⟩ h
  dsimp only at a1 a2 a3 a4 s1 s2 s3 s4
  have tb:=bo4 a1 a2
  have lr:=bo4 a3 a4
  by_cases h1:C.t < t
  ·have s':bA ⟨t - 1,l,b,r⟩ B:=⟨by show B.t<=t - 1; omega,s2,s3,s4⟩
   have u:=fC (t - 1,p.2) ⟨by show C.t<=t - 1; omega,by show t - 1<=C.b; omega,c3,c4⟩
   obtain ⟨R,g1,g2,g3⟩:=ih (t - 1) l b r ⟨by show t - 1<=p.1; omega,a2,a3,a4⟩ (tG cl f tb u ⟨a3,a4⟩ s') s' (by omega)
   exact⟨R,g1,bA.trans (y:=⟨t - 1,l,b,r⟩) ⟨by show t - 1<=t; omega,bk7 _,bk7 _,bk7 _⟩ g2,g3⟩
  ·by_cases h2:C.l < l
   ·have s':bA ⟨t,l - 1,b,r⟩ B:=⟨s1,by show B.l<=l - 1; omega,s3,s4⟩
    have u:=fC (p.1,l - 1) ⟨c1,c2,by show C.l<=l - 1; omega,by show l - 1<=C.r; omega⟩
    obtain ⟨R,g1,g2,g3⟩:=ih t (l - 1) b r ⟨a1,a2,by show l - 1<=p.2; omega,a4⟩ (yP cl f lr u ⟨a1,a2⟩ s') s' (by omega)
    exact⟨R,g1,bA.trans (y:=⟨t,l - 1,b,r⟩) ⟨bk7 _,by show l - 1<=l; omega,bk7 _,bk7 _⟩ g2,g3⟩
   ·by_cases h3:b < C.b
    ·have s':bA ⟨t,l,b+1,r⟩ B:=⟨s1,s2,by show b+1<=B.b; omega,s4⟩
     have u:=fC (b+1,p.2) ⟨by show C.t<=b+1; omega,by show b+1<=C.b; omega,c3,c4⟩
     obtain ⟨R,g1,g2,g3⟩:=ih t l (b+1) r ⟨a1,by show p.1<=b+1; omega,a3,a4⟩ (tF cl f tb u ⟨a3,a4⟩ s') s' (by omega)
     exact⟨R,g1,bA.trans (y:=⟨t,l,b+1,r⟩) ⟨bk7 _,bk7 _,by show b<=b+1; omega,bk7 _⟩ g2,g3⟩
    ·have h4:r < C.r:=by omega
     have s':bA ⟨t,l,b,r+1⟩ B:=⟨s1,s2,s3,by show r+1<=B.r; omega⟩
     have u:=fC (p.1,r+1) ⟨c1,c2,by show C.l<=r+1; omega,by show r+1<=C.r; omega⟩
     obtain ⟨R,g1,g2,g3⟩:=ih t l b (r+1) ⟨a1,a2,a3,by show p.2<=r+1; omega⟩ (yO cl f lr u ⟨a1,a2⟩ s') s' (by omega)
     exact⟨R,g1,bA.trans (y:=⟨t,l,b,r+1⟩) ⟨bk7 _,bk7 _,bk7 _,by show r<=r+1; omega⟩ g2,g3⟩
theorem ac8 {a b c d g:Int} (ab:a<=b) (cd:c<=d) (g0:0<=g) (h1:c - b<=g) (h2:a - d<=g):∃ p,c<=p/\p<=d/\p - b<=g/\a - p<=g:=by
 by_cases e1:a<=c
 ·exact⟨c,bk7 _,cd,h1,by omega⟩
 ·by_cases e2:a<=d
  ·exact⟨a,by omega,e2,by omega,by omega⟩
  ·exact⟨d,cd,bk7 _,by omega,h2⟩
theorem aZ0 {A C:Bx} (okA:okX A) (okC:okX C) (nr:bT A C=true) (cl:fP (bL A C) U) (fA:cY U A) (fC:cY U C):cY U (bL A C):=by
 obtain ⟨g,h,g0,h0,gh,a1,a2,b1,b2⟩:=ac5 nr
 obtain ⟨p1,q1,q2,q3,q4⟩:=ac8 okA.1 okC.1 g0 a1 a2
 obtain ⟨p2,r1,r2,r3,r4⟩:=ac8 okA.2 okC.2 h0 b1 b2
 have pC:aQ C (p1,p2):=⟨q1,q2,r1,r2⟩
 obtain ⟨⟨t,l,b,r⟩,k1,k2,k3,k4,k5⟩:=aY8 cl (fC _ pC) (yN pC) (t:=A.t) (l:=A.l) (b:=A.b) (r:=A.r) fA okA.1 okA.2 (pU A C) g0 h0 gh q3 q4 r3 r4
 obtain ⟨R,m1,m2,m3⟩:=aY9 cl fC (tE A C) pC _ t l b r k3 k5 k4 rfl
 exact aY5 m1 (aY1 (bA.trans k2 m2) m3)
end
theorem ac9 {x a:Int × Int} (h:i5 x a):∃ g k:Int,0<=g/\0<=k/\g+k<=1/\a.1 - x.1<=g/\x.1 - a.1<=g/\a.2 - x.2<=k/\x.2 - a.2<=k:=by
 rcases h with ⟨h1,h2⟩ | ⟨h1,h2⟩
 ·exact⟨0,1,by decide,by decide,by decide,by omega,by omega,by omega,by omega⟩
 ·exact⟨1,0,by decide,by decide,by decide,by omega,by omega,by omega,by omega⟩
theorem ad0 {T:List Bx} (pw:∀ x ∈ T,∀ y ∈ T,bT x y=true->x=y) (B:Bx):fP B (fun p=>∃ x ∈ T,aQ x p):=by
 rintro x a b _ xa xb ne ⟨A,hA,ia⟩ ⟨C,hC,ib⟩
 obtain ⟨g,k,g0,k0,gk,d1,d2,d3,d4⟩:=ac9 xa
 obtain ⟨g',k',g0',k0',gk',d1',d2',d3',d4'⟩:=ac9 xb
 obtain ⟨i1,i2,i3,i4⟩:=ia
 obtain ⟨j1,j2,j3,j4⟩:=ib
 have nr:bT A C=true:=yL (g:=g+g') (h:=k+k') (by omega) (by omega) (by omega) (by omega) (by omega) (by omega) (by omega)
 have:=pw A hA C hC nr
 subst this
 refine⟨A,hA,?_⟩
 rcases xa with ⟨e1,e2⟩ | ⟨e1,e2⟩
 ·rcases xb with ⟨e3,e4⟩ | ⟨e3,e4⟩
  ·have:a.2 ≠ b.2:=fun z=>ne (bv7 (e1.trans e3.symm) z)
   exact⟨by omega,by omega,by omega,by omega⟩
  ·exact⟨by omega,by omega,by omega,by omega⟩
 ·rcases xb with ⟨e3,e4⟩ | ⟨e3,e4⟩
  ·exact⟨by omega,by omega,by omega,by omega⟩
  ·have:a.1 ≠ b.1:=fun z=>ne (bv7 z (e1.trans e3.symm))
   exact⟨by omega,by omega,by omega,by omega⟩
abbrev aO:=Int × Int
inductive dO (B:Bx) (S:aO->Prop):aO->Prop
 | seed {x:aO}:S x->dO B S x
 | kin {x a b:aO}:aQ B x->i5 x a->i5 x b->a ≠ b->dO B S a->dO B S b->dO B S x
theorem dO.clo {B B':Bx}{S:aO->Prop} (s:bA B' B):fP B' (dO B S):=fun x a b h1 h2 h3 h4 h5 h6=>.kin (s.in_ h1) h2 h3 h4 h5 h6
theorem dO.mono {B B':Bx}{S S':aO->Prop} (s:bA B B') (h:∀ x,S x->S' x) {x:aO} (b:dO B S x):dO B' S' x:=by
 induction b with
 | seed z=>exact .seed (h _ z)
 | kin h1 h2 h3 h4 _ _ i1 i2=>exact .kin (s.in_ h1) h2 h3 h4 i1 i2
theorem dO.least {B:Bx}{S U:aO->Prop} (cl:fP B U) (h:∀ x,S x->U x) {x:aO} (b:dO B S x):U x:=by
 induction b with
 | seed z=>exact h _ z
 | kin h1 h2 h3 h4 _ _ i1 i2=>exact cl _ _ _ h1 h2 h3 h4 i1 i2
abbrev kO (r c:Int):Bx:=⟨0,0,r - 1,c - 1⟩
theorem tH {r c:Int}{p:aO}:aQ (kO r c) p ↔ bF r c p=true:=by
 rw [eM]; unfold aQ; dsimp only; omega
theorem tI {r c:Int}{x a:aO}:a ∈ bD r c x ↔ i5 x a/\bF r c a=true:=by
 unfold bD
 rw [bo1]
 refine and_congr_left fun _=>?_
 unfold gQ i5
 simp only [bk6,bl4,bo6,Prod.ext_iff]
 omega
theorem aZ1 {r c:Int}{S:List aO} (bd:∀ x ∈ S,bF r c x=true) {p:aO} (h:iJ r c S p):bF r c p=true:=by
 cases h with
 | seed h=>exact bd _ h
 | kin h1 _ _ _ _ _=>exact h1
theorem tJ {r c:Int}{S:List aO} (bd:∀ x ∈ S,bF r c x=true) {p:aO}:iJ r c S p ↔ dO (kO r c) (· ∈ S) p:=by
 have bd':∀ {q:aO},dO (kO r c) (· ∈ S) q->bF r c q=true:=fun {q} h=>by
  cases h with
  | seed h=>exact bd _ h
  | kin h1 _ _ _ _ _=>exact tH.mp h1
 constructor
 ·intro h
  induction h with
  | seed h=>exact .seed h
  | kin h1 h2 h3 h4 _ _ i1 i2=>exact .kin (tH.mpr h1) (tI.mp h2).1 (tI.mp h3).1 h4 i1 i2
 ·intro h
  induction h with
  | seed h=>exact .seed h
  | kin h1 h2 h3 h4 b1 b2 i1 i2=>exact .kin (tH.mp h1) (tI.mpr ⟨h2,bd' b1⟩) (tI.mpr ⟨h3,bd' b2⟩) h4 i1 i2
def k8 (x:Bx):Int:=(x.b - x.t+1)+(x.r - x.l+1)
structure i6 (G:List aO) (x:Bx):Prop where
 ok:okX x
 ins:∀ s ∈ G,aQ x s
 full:∀ p,aQ x p->dO x (· ∈ G) p
 few:k8 x<=2 * (G.length:Int)
theorem i6.cell (p:aO):i6 [p] (cX p):=by
 refine⟨by unfold okX cX; exact⟨bk7 _,bk7 _⟩,fun s hs=>?_,fun q hq=>.seed ?_,?_⟩
 ·rw [bk9.mp hs]; unfold aQ cX; dsimp only; omega
 ·unfold aQ cX at hq
  dsimp only at hq
  exact bk9.mpr (bv7 (by omega) (by omega))
 ·unfold k8 cX; dsimp only; simp only [bq3]; omega
theorem aZ2 {x y:Bx} (h1:okX x) (h2:okX y) (nr:bT x y=true):k8 (bL x y)<=k8 x+k8 y:=by
 have nr:=by2 nr
 unfold fO at nr; unfold okX at h1 h2; unfold k8 bL; dsimp only; omega
theorem i6.hull {G G':List aO}{x y:Bx} (h:i6 G x) (h':i6 G' y) (nr:bT x y=true):i6 (G ++ G') (bL x y):=by
 refine⟨aY2 h.ok,fun s hs=>?_,?_,?_⟩
 ·rcases bn5.mp hs with z | z
  ·exact aY4 (h.ins s z)
  ·exact yN (h'.ins s z)
 ·exact aZ0 h.ok h'.ok nr (dO.clo (bA.refl _)) (fun p hp=>(h.full p hp).mono (pU x y) fun s hs=>bn0 _ hs) (fun p hp=>(h'.full p hp).mono (tE x y) fun s hs=>bn4 _ hs)
 ·have:=aZ2 h.ok h'.ok nr
  have:=h.few
  have:=h'.few
  rw [bn2]; omega
theorem i6.same {G G':List aO}{x:Bx} (h:i6 G x) (h':∀ s ∈ G',aQ x s):i6 (G ++ G') x:=by
 refine⟨h.ok,fun s hs=>?_,fun p hp=>(h.full p hp).mono (bA.refl _) fun s hs=>bn0 _ hs,?_⟩
 ·rcases bn5.mp hs with z | z
  ·exact h.ins s z
  ·exact h' s z
 ·have:=h.few
  rw [bn2]; omega
def fQ (T:List Bx) (s:Bx × Bx):Bool:=decide (s.1 ∈ T) && (decide (s.2 ∈ T) && (HT.aR s.1.k s.2.k && bT s.1 s.2))
def fR (T:List Bx) (s:Bx × Bx):List Bx:=(T.erase s.1).erase s.2
def eN (T:List Bx) (s:Bx × Bx):List Bx:=if bL s.1 s.2 ∈ fR T s then fR T s else fR T s ++ [bL s.1 s.2]
def eC (s:Bx × Bx) (T:List Bx):Option (List Bx):=if fQ T s=true then some (eN T s) else none
def bM (T:List Bx) (sts:List (Bx × Bx)):Option (List Bx):=sts.foldl (fun o s=>o.bind (eC s)) (some T)
theorem mB (T:List Bx) (sts:List (Bx × Bx)) (s:Bx × Bx):bM T (sts ++ [s])=(bM T sts).bind (eC s):=by unfold bM; rw [List.foldl_append]; rfl
theorem yR {T:List Bx}:∀ {a b:List (Bx × Bx)},bM T a=none->bM T (a ++ b)=none:=by
 intro a b h
 unfold bM at *
 rw [List.foldl_append,h]
 induction b with
 | nil=>rfl
 | cons x r ih=>exact ih
theorem pV {T:List Bx}{s:Bx × Bx}:fQ T s=true ↔ s.1 ∈ T/\s.2 ∈ T/\HT.aR s.1.k s.2.k=true/\bT s.1 s.2=true:=by
 unfold fQ
 simp only [br1,bm4]
def bU (S:List aO) (T:List Bx):Prop:=∃ f:List (Bx × List aO),T=f.map (·.1)/\(∀ e ∈ f,i6 e.2 e.1)/\(f.map (·.2)).flatten.Perm S
theorem bU.init (S:List aO):bU S (S.map cX):=by
 refine⟨S.map fun p=>(cX p,[p]),by rw [bq4]; rfl,fun e he=>?_,?_⟩
 ·obtain ⟨p,_,rfl⟩:=bm9.mp he
  exact i6.cell p
 ·rw [bq4]
  have:(S.map ((·.2) ∘ fun p:aO=>(cX p,[p]))).flatten=S:=by
   induction S with
   | nil=>rfl
   | cons a r ih=>show [a] ++ _=_; rw [ih]; rfl
  rw [this]
theorem bU.perm {S:List aO}{T T':List Bx} (p:T'.Perm T) (h:bU S T):bU S T':=by
 obtain ⟨f,rfl,h1,h2⟩:=h
 obtain ⟨g,pg,rfl⟩:∃ g:List (Bx × List aO),g.Perm f/\T'=g.map (·.1):=by
  clear h1 h2
  generalize hm:f.map (·.1)=m at p
  induction p generalizing f with
  | nil=>exact⟨f,bx1 _,hm.symm⟩
  | cons x _ ih=>
   cases f with
   | nil=>cases hm
   | cons e f=>
    cases hm
    obtain ⟨g,pg,hg⟩:=ih f rfl
    exact⟨e :: g,pg.cons _,by rw [hg]; rfl⟩
  | swap x y l=>
   match f,hm with
   | e :: e' :: f,hm=>
    cases hm
    exact⟨e' :: e :: f,bB6 _ _ _,rfl⟩
  | trans _ _ ih1 ih2=>
   obtain ⟨g,pg,hg⟩:=ih2 f hm
   obtain ⟨g',pg',hg'⟩:=ih1 g hg.symm
   exact⟨g',pg'.trans pg,hg'⟩
 exact⟨g,rfl,fun e he=>h1 e (pg.mem_iff.mp he),((pg.map _).flatten).trans h2⟩
theorem bU.join {S:List aO}{x y:Bx}{T:List Bx} (h:bU S (x :: y :: T)) (nr:bT x y=true):bU S (bL x y :: T):=by
 obtain ⟨f,e,h1,h2⟩:=h
 match f,e with
 | ex :: ey :: f,e=>
  cases e
  refine⟨(bL ex.1 ey.1,ex.2 ++ ey.2) :: f,rfl,fun e he=>?_,?_⟩
  ·rcases bk6.mp he with rfl | he
   ·exact (h1 ex bl6).hull (h1 ey (bl2 _ bl6)) nr
   ·exact h1 e (bl2 _ (bl2 _ he))
  ·have:(((bL ex.1 ey.1,ex.2 ++ ey.2) :: f).map (·.2)).flatten=((ex :: ey :: f).map (·.2)).flatten:=by
    simp only [bp9,List.flatten_cons,bm1]
   rw [this]; exact h2
theorem bU.dup {S:List aO}{x:Bx}{T:List Bx} (h:bU S (x :: T)) (hx:x ∈ T):bU S T:=by
 obtain ⟨f,e,h1,h2⟩:=h
 match f,e with
 | ex :: f,e=>
  cases e
  obtain ⟨ey,hy,e2⟩:=bm9.mp hx
  obtain ⟨a,b,rfl⟩:=List.append_of_mem hy
  refine⟨a ++ (ey.1,ey.2 ++ ex.2) :: b,by simp,fun e he=>?_,?_⟩
  ·rcases bn5.mp he with z | z
   ·exact h1 e (bl2 _ (bn0 _ z))
   ·rcases bk6.mp z with rfl | z
    ·refine (h1 ey (by simp)).same fun s hs=>?_
     have e2:ey.1=ex.1:=e2
     rw [e2]
     exact (h1 ex bl6).ins s hs
    ·exact h1 e (bl2 _ (bn4 _ (bl2 _ z)))
  ·refine List.Perm.trans ?_ h2
   simp only [bm5,bp9,List.flatten_append,List.flatten_cons]
   have p1:(ey.2 ++ ex.2 ++ (b.map (·.2)).flatten).Perm (ex.2 ++ (ey.2 ++ (b.map (·.2)).flatten)):=by
    rw [bm1]
    refine bs0.trans ?_
    rw [bm1]
    exact bz9 _ bs0
   refine (bz9 _ p1).trans ?_
   rw [<- bm1,<- bm1 ex.2]
   exact List.Perm.append_right _ bs0
theorem ad1 {x y:Bx} (h:HT.aR x.k y.k=true):x ≠ y:=fun e=>by
 subst e
 have:=lB h
 rw [h] at this; cases this
theorem yS {T:List Bx}{s:Bx × Bx} (ok:fQ T s=true):T.Perm (s.1 :: s.2 :: fR T s):=by
 obtain ⟨h1,h2,h3,_⟩:=pV.mp ok
 have:s.2 ∈ T.erase s.1:=(List.mem_erase_of_ne (ad1 h3).symm).mpr h2
 exact (List.perm_cons_erase h1).trans ((List.perm_cons_erase this).cons _)
theorem bU.step {S:List aO}{T:List Bx}{s:Bx × Bx} (h:bU S T) (ok:fQ T s=true):bU S (eN T s):=by
 have h2:=(h.perm (yS ok).symm).join (pV.mp ok).2.2.2
 unfold eN
 by_cases e:bL s.1 s.2 ∈ fR T s
 ·rw [if_pos e]; exact h2.dup e
 ·rw [if_neg e]; exact h2.perm (bs0 (l₁:=fR T s) (l₂:=[bL s.1 s.2]))
theorem aZ3 {T:List Bx}{s:Bx × Bx} (nd:T.Nodup):(eN T s).Nodup:=by
 have:(fR T s).Nodup:=(nd.erase _).erase _
 unfold eN
 split
 ·exact this
 ·rename_i h
  exact by3.mpr ⟨this,bp4 _ _,fun a ha b hb e=>h (by rw [<- bk9.mp hb,<- e]; exact ha)⟩
theorem kQ {S:List aO} (nd:S.Nodup):∀ (sts:List (Bx × Bx)) {T:List Bx},bM (S.map cX) sts=some T->bU S T/\T.Nodup:=by
 intro sts
 rcases List.eq_nil_or_concat sts with rfl | ⟨a,s,rfl⟩
 ·intro T h
  cases h
  refine⟨bU.init S,bu2.mpr (nd.imp fun {a b} ne e=>ne ?_)⟩
  unfold cX at e
  simp only [Bx.mk.injEq] at e
  exact bv7 e.1 e.2.1
 ·intro T h
  rw [List.concat_eq_append,mB] at h
  cases hw:bM (S.map cX) a with
  | none=>rw [hw] at h; cases h
  | some T1=>
   rw [hw] at h
   obtain ⟨o1,n1⟩:=kQ nd a hw
   have h:eC s T1=some T:=h
   unfold eC at h
   split at h
   ·rename_i ok
    cases h
    exact⟨o1.step ok,aZ3 n1⟩
   ·cases h
 termination_by sts=>sts.length
 decreasing_by subst_vars; simp
def cR (T:List Bx):Prop:=T.Pairwise fun x y=>bT x y=false
theorem cR.eq {T:List Bx} (h:cR T) {x y:Bx} (hx:x ∈ T) (hy:y ∈ T) (nr:bT x y=true):x=y:=by
 obtain ⟨i,hi,rfl⟩:=bs1 hx
 obtain ⟨j,hj,rfl⟩:=bs1 hy
 have pw:=bq8.mp h
 rcases Nat.lt_trichotomy i j with z | z | z
 ·rw [pw i j hi hj z] at nr; cases nr
 ·subst z; rfl
 ·rw [yM,pw j i hj hi z] at nr; cases nr
theorem bU.on_board {r c:Int}{S G:List aO}{x:Bx} (bd:∀ p ∈ S,bF r c p=true) (gs:∀ s ∈ G,s ∈ S) (sp:i6 G x) {p:aO} (hp:aQ x p):aQ (kO r c) p:=by
 have okk:=sp.ok
 unfold okX at okk
 have gb:∀ s ∈ G,aQ (kO r c) s:=fun s hs=>tH.mpr (bd s (gs s hs))
 have key:∀ q,aQ x q->dO x (· ∈ G) q:=sp.full
 have cl:fP x (fun q=>aQ (kO r c) q):=by
  intro y a b hy ya yb ne ua ub
  have ne':a.1 ≠ b.1 ∨ a.2 ≠ b.2:=Classical.byContradiction fun z=>ne (bv7 (by omega) (by omega))
  unfold aQ i5 at *
  dsimp only at *
  omega
 exact (key p hp).least cl gb
theorem bU.burnt {r c:Int}{S:List aO}{T:List Bx} (o:bU S T) (far:cR T) (bd:∀ x ∈ S,bF r c x=true) (p:aO):(∃ x ∈ T,aQ x p) ↔ iJ r c S p:=by
 obtain ⟨f,rfl,h1,h2⟩:=o
 rw [tJ bd]
 have insd:∀ e ∈ f,∀ s ∈ e.2,s ∈ S:=fun e he s hs=>h2.mem_iff.mp (List.mem_flatten.mpr ⟨e.2,bm9.mpr ⟨e,he,rfl⟩,hs⟩)
 constructor
 ·rintro ⟨x,hx,hp⟩
  obtain ⟨e,he,rfl⟩:=bm9.mp hx
  have sp:=h1 e he
  refine (sp.full p hp).least (fun x a b hx2 xa xb ne ua ub=>?_) fun s hs=>.seed (insd e he s hs)
  refine dO.kin ?_ xa xb ne ua ub
  exact bU.on_board bd (insd e he) sp hx2
 ·intro h
  refine h.least (ad0 (fun x hx y hy=>far.eq hx hy) _) fun s hs=>?_
  obtain ⟨g,hg,hs2⟩:=List.mem_flatten.mp (h2.mem_iff.mpr hs)
  obtain ⟨e,he,rfl⟩:=bm9.mp hg
  exact⟨e.1,bm9.mpr ⟨e,he,rfl⟩,(h1 e he).ins s hs2⟩
theorem bU.ok {S:List aO}{T:List Bx} (o:bU S T) {x:Bx} (hx:x ∈ T):okX x:=by
 obtain ⟨f,rfl,h1,_⟩:=o
 obtain ⟨e,he,rfl⟩:=bm9.mp hx
 exact (h1 e he).ok
theorem ad2 {T:List Bx} (far:cR T) {x:Bx} (ok:okX x) (h:∀ p,aQ x p->∃ y ∈ T,aQ y p):∃ y ∈ T,∀ p,aQ x p->aQ y p:=by
 unfold okX at ok
 obtain ⟨y,hy,h0⟩:=h (x.t,x.l) (by unfold aQ; dsimp only; omega)
 refine⟨y,hy,?_⟩
 have:∀ (n:Nat) (p:aO),aQ x p->(p.1 - x.t+(p.2 - x.l)).toNat=n->aQ y p:=by
  intro n
  induction n with
  | zero=>
   intro p hp hn
   unfold aQ at hp
   rw [show p=(x.t,x.l) from bv7 (by omega) (by omega)]
   exact h0
  | succ n ih=>
   intro p hp hn
   obtain ⟨y',hy',hp'⟩:=h p hp
   obtain ⟨q,hq,aq,hqn⟩:∃ q:aO,aQ x q/\i5 p q/\(q.1 - x.t+(q.2 - x.l)).toNat=n:=by
    unfold aQ at hp
    by_cases e:x.t < p.1
    ·exact⟨(p.1 - 1,p.2),by unfold aQ; dsimp only; omega,.inr ⟨rfl,.inl rfl⟩,by dsimp only; omega⟩
    ·exact⟨(p.1,p.2 - 1),by unfold aQ; dsimp only; omega,.inl ⟨rfl,.inl rfl⟩,by dsimp only; omega⟩
   have iq:=ih q hq hqn
   have nr:bT y y'=true:=bk4 (by unfold fO; unfold aQ i5 at *; omega)
   rw [far.eq hy hy' nr]; exact hp'
 exact fun p hp=>this _ p hp rfl
theorem yT {T T':List Bx} (far:cR T) (far':cR T') (ok:∀ x ∈ T,okX x) (ok':∀ x ∈ T',okX x) (same:∀ p,(∃ x ∈ T,aQ x p) ↔ ∃ x ∈ T',aQ x p) {x:Bx} (hx:x ∈ T):x ∈ T':=by
 obtain ⟨y,hy,h1⟩:=ad2 far' (ok x hx) fun p hp=>(same p).mp ⟨x,hx,hp⟩
 obtain ⟨z,hz,h2⟩:=ad2 far (ok' y hy) fun p hp=>(same p).mpr ⟨y,hy,hp⟩
 have okx:=ok x hx
 have oky:=ok' y hy
 unfold okX at okx oky
 have a1:=h1 (x.t,x.l) (by unfold aQ; dsimp only; omega)
 have a2:=h1 (x.b,x.r) (by unfold aQ; dsimp only; omega)
 have e:x=z:=far.eq hx hz (tD (p:=(x.t,x.l)) (by unfold aQ; dsimp only; omega) (h2 _ a1))
 subst e
 have b1:=h2 (y.t,y.l) (by unfold aQ; dsimp only; omega)
 have b2:=h2 (y.b,y.r) (by unfold aQ; dsimp only; omega)
 have:x=y:=by
  obtain ⟨p,q,u,v⟩:=x
  obtain ⟨p',q',u',v'⟩:=y
  unfold aQ at a1 a2 b1 b2
  dsimp only at *
  simp only [Bx.mk.injEq]
  omega
 rw [this]; exact hy
theorem mC {i:Nat}{x:PV}{g:Bool}{ρ:bC}{Q:bC->Prop} (f:flat x=true) (q:Q (ρ.set i (some (.sh true x)))):cQ i x g ρ Q:=by
 unfold cQ
 rw [f,Bool.or_true]
 exact q
theorem mD {b:Bool}{x:PV}{P:Prop} (h:(Slot.sh b x).tag = .rd):P:=by cases b <;> cases h
abbrev bK (x:Bx):PV:=.tup (intz x.k)
abbrev aX (bs:List Bx):List PV:=iL (bs.map Bx.k)
theorem j6 (x:Bx):flat (bK x)=true:=pG x.k
theorem mE {bs:List Bx}{i:Nat}{v:PV} (h:(aX bs)[i]? = some v):∃ x,v=bK x/\bs[i]? = some x:=by
 unfold aX iL at h
 rw [bq4,bl9] at h
 cases e:bs[i]? with
 | none=>rw [e] at h; cases h
 | some x=>rw [e] at h; cases h; exact⟨x,rfl,rfl⟩
theorem aZ4 {bs:List Bx}{i:Nat}{x:Bx} (h:bs[i]? = some x):(aX bs)[i]? = some (bK x):=by
 unfold aX iL
 rw [bq4,bl9,h]; rfl
theorem i7 (bs:List Bx):(aX bs).length=bs.length:=by unfold aX iL; rw [bk8,bk8]
theorem yU (bs:List Bx):flats (aX bs)=true:=T4 _
def pW:bS:=fun xs Q=>∃ a b c d:Int,xs = [.int a,.int b,.int c,.int d]/\Q (.int (fO a b c d))
def ad3:aP:=(bG (aG yH (a6 (qC (.int 0)) (a6 (eI (a5 2) (a5 1)) (a6 (eI (a5 0) (a5 3)) aA)))))
theorem aZ5:cV ad3 ["start","end","other_start","other_end"] pW:=by
 rintro xs Q ⟨a,b,c,d,rfl,q⟩
 exact⟨_,rfl,_,rfl,c,b,rfl,rfl,_,rfl,_,rfl,a,d,rfl,rfl,_,_,_,rfl,trivial,q⟩
def nT:bS:=fun xs Q=>∃ x y:Bx,xs = [bK x,bK y]/\Q (.bl (bT x y))
def ad4:aP:=(aH (bB 2 (aG pW (a6 (b8 (a5 0) (qC (.int 0))) (a6 (b8 (a5 0) (qC (.int 2))) (a6 (b8 (a5 1) (qC (.int 0))) (a6 (b8 (a5 1) (qC (.int 2))) aA))))))
 (aH (bB 3 (aG pW (a6 (b8 (a5 0) (qC (.int 1))) (a6 (b8 (a5 0) (qC (.int 3))) (a6 (b8 (a5 1) (qC (.int 1))) (a6 (b8 (a5 1) (qC (.int 3))) aA))))))
 (bG (oS (dC (a5 2) (a5 3)) (qC (.int 2))))))
theorem aZ6:cV ad4 ["one","other","between_rows","between_columns"] nT:=by
 rintro xs Q ⟨x,y,rfl,q⟩
 refine⟨_,rfl,_,_,_,rfl,rfl,rfl,_,rfl,_,_,_,rfl,rfl,rfl,_,rfl,_,_,_,rfl,rfl,rfl,_,rfl,_,_,_,rfl,rfl,rfl,_,_,_,_,rfl,trivial,?_⟩
 refine⟨_,rfl,_,_,_,rfl,rfl,rfl,_,rfl,_,_,_,rfl,rfl,rfl,_,rfl,_,_,_,rfl,rfl,rfl,_,rfl,_,_,_,rfl,rfl,rfl,_,_,_,_,rfl,trivial,?_⟩
 exact⟨_,rfl,_,rfl,_,_,rfl,rfl,_,_,rfl,rfl,trivial,q⟩
def kR:bS:=fun xs Q=>∃ x y:Bx,xs = [bK x,bK y]/\Q (bK (bL x y))
def ad5:aP:=(bG (dY (a6 (aG mV (a6 (b8 (a5 0) (qC (.int 0))) (a6 (b8 (a5 1) (qC (.int 0))) aA))) (a6 (aG mV (a6 (b8 (a5 0) (qC (.int 1))) (a6 (b8 (a5 1) (qC (.int 1))) aA))) (a6 (aG kE (a6 (b8 (a5 0) (qC (.int 2))) (a6 (b8 (a5 1) (qC (.int 2))) aA))) (a6 (aG kE (a6 (b8 (a5 0) (qC (.int 3))) (a6 (b8 (a5 1) (qC (.int 3))) aA))) aA))))))
theorem ad6 (i j:Int):(if j < i then j else i)=min i j:=by split <;> omega
theorem tK (i j:Int):(if j > i then j else i)=max i j:=by split <;> omega
theorem aZ7:cV ad5 ["one","other"] kR:=by
 rintro xs Q ⟨x,y,rfl,q⟩
 refine⟨_,rfl,_,_,_,rfl,rfl,rfl,_,rfl,_,_,_,rfl,rfl,rfl,x.t,y.t,rfl,_,rfl,_,_,_,rfl,rfl,rfl,_,rfl,_,_,_,rfl,rfl,rfl,x.l,y.l,rfl,
  _,rfl,_,_,_,rfl,rfl,rfl,_,rfl,_,_,_,rfl,rfl,rfl,x.b,y.b,rfl,_,rfl,_,_,_,rfl,rfl,rfl,_,rfl,_,_,_,rfl,rfl,rfl,x.r,y.r,rfl,by show 4<=1000; decide,rfl,trivial,?_⟩
 show Q (.tup [.int (if y.t < x.t then y.t else x.t),.int (if y.l < x.l then y.l else x.l),.int (if y.b > x.b then y.b else x.b),.int (if y.r > x.r then y.r else x.r)])
 rw [ad6,ad6,tK,tK]
 exact q
def kS:bS:=fun xs Q=>∃ (x:PV) (ls:List (Int × Int)),xs = [x]/\(x = .tup (aF ls) ∨ x = .lst (aF ls))/\ls.length<=4096/\Q (.lst (aX (ls.map cX)))
def ad7:aP:=(bG (hJ (dI (a5 0)) [none,none] (gN 0 1) g9 (dY (a6 (a5 0) (a6 (a5 1) (a6 (a5 0) (a6 (a5 1) aA)))))))
theorem aZ8:cV ad7 ["cells"] kS:=by
 rintro xs Q ⟨x,ls,rfl,hx,hl,q⟩
 have sx:jJ x=some (aF ls):=by rcases hx with rfl | rfl <;> rfl
 refine⟨_,rfl,aF ls,sx,mD,by rw [fF]; omega,fun i acc=>acc=aX ((ls.take i).map cX),rfl,?_,?_⟩
 ·rintro i v acc hv rfl
  obtain ⟨l,rfl,h⟩:=lU hv
  refine⟨_,_,rfl,?_⟩
  unfold g9
  dsimp only
  rw [if_pos rfl]
  refine⟨_,rfl,_,rfl,_,rfl,_,rfl,by show 4<=1000; decide,rfl,trivial,?_⟩
  have tk:ls.take (i+1)=ls.take i ++ [l]:=by rw [bo8,h]; rfl
  rw [tk,bm5]
  unfold aX iL
  rw [bm5,bm5]
  rfl
 ·rintro acc rfl
  rw [fF,bp2]
  exact⟨trivial,q⟩
def yV:Option Bx->PV
 | some y=>bK y
 | none=>.non
def mF:bS:=fun xs Q=>∃ (bs:List Bx) (x:Bx),xs = [.lst (aX bs),bK x]/\Q (yV (bs.find? fun y=>bT y x))
def ad8:aP:=(aH (dB (dI (a5 0)) (cQ 2)
  (bR (aW (aG nT (a6 (a5 2) (a6 (a5 1) aA)))) (lE 2) bW))
 (bG (qC .non)))
theorem ad9 {bs:List Bx}{x:Bx} (h:∀ y ∈ bs,bT y x=false):bs.find? (fun y=>bT y x)=none:=by
 rw [List.find?_eq_none]
 intro y hy
 rw [h y hy]; exact bm6
theorem aZ9 {bs:List Bx}{x y:Bx}{i:Nat} (h:∀ z ∈ bs.take i,bT z x=false) (hi:bs[i]? = some y) (hy:bT y x=true):bs.find? (fun y=>bT y x)=some y:=by
 have hl:=(bl0.mp hi).1
 have e:bs=bs.take i ++ y :: bs.drop (i+1):=by
  have:=(bn6 i bs).symm
  rw [bx5 hl] at this
  rw [(bl0.mp hi).2] at this
  exact this
 rw [e,List.find?_append,ad9 h]
 simp [hy]
theorem ba0:cV ad8 ["boxes","box","other"] mF:=by
 rintro xs Q ⟨bs,x,rfl,q⟩
 refine⟨_,rfl,aX bs,rfl,mD,fun i ρ=>(∀ y ∈ bs.take i,bT y x=false)/\∃ z,ρ = [some (.sh (flat (.lst (aX bs))) (.lst (aX bs))),some (.sh (flat (bK x)) (bK x)),z],⟨fun y hy=>(by rw [List.take_zero] at hy; cases hy),none,rfl⟩,?_,?_⟩
 ·rintro i v ρ hv ⟨hno,z,rfl⟩
  obtain ⟨y,rfl,hy⟩:=mE hv
  refine mC (j6 y) ?_
  refine⟨_,rfl,_,rfl,y,x,rfl,_,rfl,?_⟩
  cases hn:bT y x with
  | true=>
   refine b7 ⟨_,rfl,trivial,?_⟩
   rw [aZ9 hno hy hn] at q
   exact q
  | false=>
   refine aJ ⟨fun w hw=>?_,_,rfl⟩
   rw [bo8,hy] at hw
   rcases bn5.mp hw with g | g
   ·exact hno w g
   ·rw [show w=y by simpa using g]; exact hn
 ·rintro ρ ⟨hno,z,rfl⟩
  rw [i7,bp2] at hno
  rw [ad9 hno] at q
  exact⟨trivial,q⟩
abbrev mG (s:Bx × Bx):PV:=.tup [bK s.1,bK s.2]
theorem ba1 (s:Bx × Bx):flat (mG s)=true:=by
 show (flat (bK s.1) && (flat (bK s.2) && true))=true
 rw [j6,j6]; rfl
def bV (T:List Bx):List (List aM × PV):=T.map fun x=>(kn x.k,PV.bl true)
theorem ae0 {a b:Bx} (h:kn a.k=kn b.k):a=b:=Bx.k_inj (by
 have:=congrArg (List.map fun k:aM=>match k with | .inl i=>i | .inr _=>0) h
 unfold kn at this
 rw [bq4,bq4] at this
 exact (List.map_id _).symm.trans (Eq.trans this (List.map_id _)))
theorem ba2 (T:List Bx):(bV T).map (·.1)=(T.map Bx.k).map kn:=by unfold bV; rw [bq4,bq4]; rfl
theorem ae1 (T:List Bx) (x:Bx):((bV T).any fun p=>decide (p.1=kn x.k))=decide (x ∈ T):=by
 rw [bs3,List.any_eq_true,bm4]
 unfold bV
 refine⟨fun ⟨p,hp,e⟩=>?_,fun h=>⟨_,bm9.mpr ⟨x,h,rfl⟩,bk4 rfl⟩⟩
 obtain ⟨y,hy,rfl⟩:=bm9.mp hp
 rw [<- ae0 (by2 e:kn y.k=kn x.k)]; exact hy
theorem ae2 (T:List Bx) (x:Bx):(cB (bV T) (kn x.k)).isSome=decide (x ∈ T):=by rw [<- nN,ae1]
theorem ae3 (T:List Bx) (x:Bx):dW (bV T) (kn x.k) (.bl true)=bV (if x ∈ T then T else T ++ [x]):=by
 unfold dW
 rw [ae1]
 by_cases h:x ∈ T
 ·rw [bk4 h,if_pos rfl,if_pos h]
  unfold bV
  rw [bq4]
  refine List.map_congr_left fun y _=>?_
  show (if kn y.k=kn x.k then (kn y.k,PV.bl true) else (kn y.k,PV.bl true))=_
  split <;> rfl
 ·rw [bk1 h,if_neg (by decide),if_neg h]
  unfold bV
  rw [bm5]; rfl
theorem ae4 (T:List Bx):(bV T).length=T.length:=by unfold bV; rw [bk8]
theorem ba3 (T:List Bx):flats ((bV T).map (·.2))=true:=by
 unfold bV
 rw [bq4]
 induction T with
 | nil=>rfl
 | cons a r ih=>exact ih
theorem nU (l:List Int):(kn l).map kP=intz l:=by unfold kn; rw [bq4]; rfl
def tL:bS:=fun xs Q=>∃ (T:List Bx) (s:Bx × Bx),xs = [.dT (bV T),mG s]/\Q (.bl (fQ T s))
def ae5 (K:PySem.W.Frag):aP:=(aH (bR (iC (hG (aW (iR K "tuple" (a5 1)))) (aW (wB (aG fZ (a6 (a5 1) aA)) (qC (.int 2))))) (bG (qC (.bl false))) bW)
 (aH (bR (iC (aW (oQ true (b8 (a5 1) (qC (.int 0))) (a5 0))) (aW (oQ true (b8 (a5 1) (qC (.int 1))) (a5 0)))) (bG (qC (.bl false))) bW)
 (bG (iD (q2 sU (b8 (a5 1) (qC (.int 0))) (b8 (a5 1) (qC (.int 1)))) (aG nT (a6 (b8 (a5 1) (qC (.int 0))) (a6 (b8 (a5 1) (qC (.int 1))) aA)))))))
theorem ba4 {K:PySem.W.Frag} (kt:PySem.W.kitOne K (.type "tuple") (.type "tuple")=some true):cV (ae5 K) ["there","step"] tL:=by
 rintro xs Q ⟨T,s,rfl,q⟩
 refine⟨_,rfl,_,_,rfl,kt,_,rfl,aJ ⟨_,rfl,_,_,rfl,rfl,.inl ⟨_,_,rfl,rfl,_,rfl,aJ ?_⟩⟩⟩
 refine⟨_,rfl,_,_,_,rfl,rfl,rfl,_,rfl,_,.inr ⟨bV T,kn s.1.k,rfl,by rw [nU],rfl⟩,_,rfl,?_⟩
 show if (!(cB (bV T) (kn s.1.k)).isSome)=true then _ else _
 rw [ae2]
 by_cases h1:s.1 ∈ T
 ·rw [bk4 h1]
  refine aJ ⟨_,rfl,_,_,_,rfl,rfl,rfl,_,rfl,_,.inr ⟨bV T,kn s.2.k,rfl,by rw [nU],rfl⟩,_,rfl,?_⟩
  show if (!(cB (bV T) (kn s.2.k)).isSome)=true then _ else _
  rw [ae2]
  by_cases h2:s.2 ∈ T
  ·rw [bk4 h2]
   refine aJ ⟨_,rfl,_,_,_,rfl,rfl,rfl,_,rfl,_,_,_,rfl,rfl,rfl,s.1.k,s.2.k,rfl,rfl,_,rfl,?_⟩
   unfold fQ at q
   rw [bk4 h1,bk4 h2,bx8,bx8] at q
   cases hl:HT.aR s.1.k s.2.k with
   | true=>
    rw [hl,bx8] at q
    exact b7 ⟨_,rfl,_,_,_,rfl,rfl,rfl,_,rfl,_,_,_,rfl,rfl,rfl,s.1,s.2,rfl,trivial,q⟩
   | false=>
    rw [hl,bq2] at q
    exact aJ ⟨trivial,q⟩
  ·rw [bk1 h2]
   unfold fQ at q
   rw [bk1 h2,bq2,bn8] at q
   exact b7 ⟨trivial,q⟩
 ·rw [bk1 h1]
  unfold fQ at q
  rw [bk1 h1,bq2] at q
  exact b7 (b7 ⟨trivial,q⟩)
def tM:bS:=fun xs Q=>∃ ls:List Bx,xs = [.lst (aX ls)]/\ls.Nodup/\ls.length<=4096/\Q (.dT (bV ls))
def ae6:aP:=(aH (gL 1 (qC (.dT [])))
 (aH (dB (dI (a5 0)) (cQ 2)
  (lH 1 (a5 2) (qC (.bl true))))
 (lE 1)))
theorem ba5:cV ae6 ["hearths","inside","hearth"] tM:=by
 rintro xs Q ⟨ls,rfl,nd,hl,q⟩
 refine⟨rfl,rfl,_,rfl,aX ls,rfl,mD,fun i ρ=>∃ y,ρ = [some (.sh (flat (.lst (aX ls))) (.lst (aX ls))),some (.own (.dT (bV (ls.take i)))),y],⟨none,rfl⟩,?_,?_⟩
 ·rintro i y ρ hy ⟨y0,rfl⟩
  obtain ⟨l,rfl,h⟩:=mE hy
  have tk:dW (bV (ls.take i)) (kn l.k) (.bl true)=bV (ls.take (i+1)):=by rw [ae3,if_neg (pT nd h),bo8,h]; rfl
  refine⟨_,rfl,_,rfl,kn l.k,by rw [nU]; rfl,trivial,by rw [ae4,bz0]; omega,?_⟩
  rw [tk]
  exact⟨_,rfl⟩
 ·rintro ρ ⟨y,rfl⟩
  rw [i7,bp2]
  exact⟨_,rfl,trivial,q⟩
theorem ae7 {α:Type}:∀ {l:List α}{j:Nat}{x:α},l[j]? = some x->l.Perm (x :: l.eraseIdx j)
 | [],_,_,h=>by simp at h
 | a :: l,0,x,h=>by simp at h; subst h; exact bx1 _
 | a :: l,j+1,x,h=>by
  rw [bo2] at h
  exact ((ae7 h).cons a).trans (bB6 _ _ _)
theorem ae8 {l:List Bx}{j:Nat}{x:Bx} (nd:l.Nodup) (h:l[j]? = some x):l.eraseIdx j=l.erase x:=by
 induction l generalizing j with
 | nil=>simp at h
 | cons a l ih=>
  obtain ⟨h1,h2⟩:=bv9.mp nd
  cases j with
  | zero=>simp at h; subst h; simp
  | succ j=>
   rw [bo2] at h
   have:a ≠ x:=fun e=>h1 (by rw [e]; exact br3 h)
   rw [List.eraseIdx_cons_succ,ih h2 h,List.erase_cons_tail (by simpa using this)]
theorem ba6 {α β:Type}{f:α->β}{zs:List β}{l:List α} (p:zs.Perm (l.map f)):∃ l':List α,zs=l'.map f/\l'.Perm l:=by
 generalize hm:l.map f=m at p
 induction p generalizing l with
 | nil=>exact⟨l,hm.symm,bx1 _⟩
 | cons x _ ih=>
  cases l with
  | nil=>cases hm
  | cons e l=>
   cases hm
   obtain ⟨g,hg,pg⟩:=ih rfl
   exact⟨e :: g,by rw [hg]; rfl,pg.cons _⟩
 | swap x y z=>
  match l,hm with
  | e :: e' :: l,hm=>
   cases hm
   exact⟨e' :: e :: l,rfl,bB6 _ _ _⟩
 | trans _ _ ih1 ih2=>
  obtain ⟨g,hg,pg⟩:=ih2 hm
  obtain ⟨g',hg',pg'⟩:=ih1 hg.symm
  exact⟨g',hg',pg'.trans pg⟩
theorem cR.perm {T T':List Bx} (p:T.Perm T') (h:cR T):cR T':=(p.pairwise_iff fun {x y} z=>by rw [yM]; exact z).mp h
theorem ba7 {ls:List aO} (nd:ls.Nodup):(ls.map cX).Nodup:=bu2.mpr (nd.imp fun {a b} ne e=>ne (by
 unfold cX at e
 simp only [Bx.mk.injEq] at e
 exact bv7 e.1 e.2.1))
structure kT (ls:List aO) (sts:List (Bx × Bx)) (se more:List Bx):Prop where
 ex:∃ T,bM (ls.map cX) sts=some T/\T.Perm (se ++ more)
 far:cR se
def dP (g c:Bx):Bx × Bx:=if HT.aR c.k g.k=true then (c,g) else (g,c)
theorem ae9 {g c:Bx} (ne:g ≠ c) (h:HT.aR c.k g.k=false):HT.aR g.k c.k=true:=by
 cases e:HT.aR g.k c.k with
 | true=>rfl
 | false=>exact absurd (Bx.k_inj (vG e h)) ne
theorem ba8 {g c:Bx} (h1:okX g) (h2:okX c) (ne:g ≠ c):3<=k8 (bL g c):=by
 refine Classical.byContradiction fun z=>ne ?_
 obtain ⟨a,b,d,e⟩:=g
 obtain ⟨a',b',d',e'⟩:=c
 unfold k8 bL at z
 unfold okX at h1 h2
 dsimp only at *
 simp only [Bx.mk.injEq]
 omega
theorem kT.step {ls:List aO}{sts:List (Bx × Bx)}{se:List Bx}{g c:Bx}{more:List aO}{j:Nat} (nd:ls.Nodup) (h:kT ls sts se (g :: more.map cX)) (hj:se[j]? = some c) (nr:bT c g=true) :
  g ≠ c/\kT ls (sts ++ [dP g c]) (se.eraseIdx j) (bL g c :: more.map cX):=by
 obtain ⟨T,hw,pm⟩:=h.ex
 obtain ⟨ow,tnd⟩:=kQ nd sts hw
 have snd:(se ++ g :: more.map cX).Nodup:=pm.nodup_iff.mp tnd
 have hc:=br3 hj
 obtain ⟨nd1,nd2,nd3⟩:=by3.mp snd
 have ne:g ≠ c:=fun e=>nd3 c hc g bl6 e.symm
 have gT:g ∈ T:=pm.mem_iff.mpr (by simp)
 have cT:c ∈ T:=pm.mem_iff.mpr (bn0 _ hc)
 have okg:=ow.ok gT
 have okc:=ow.ok cT
 have p1:(dP g c).1=c/\(dP g c).2=g ∨ (dP g c).1=g/\(dP g c).2=c:=by unfold dP; split; exact .inl ⟨rfl,rfl⟩; exact .inr ⟨rfl,rfl⟩
 have hu:bL (dP g c).1 (dP g c).2=bL g c:=by
  rcases p1 with ⟨e1,e2⟩ | ⟨e1,e2⟩ <;> rw [e1,e2]
  exact aY3 _ _
 have ok:fQ T (dP g c)=true:=by
  refine pV.mpr ⟨?_,?_,?_,?_⟩
  ·rcases p1 with ⟨e1,_⟩ | ⟨e1,_⟩ <;> rw [e1] <;> assumption
  ·rcases p1 with ⟨_,e1⟩ | ⟨_,e1⟩ <;> rw [e1] <;> assumption
  ·unfold dP
   cases hl:HT.aR c.k g.k with
   | true=>exact hl
   | false=>exact ae9 ne hl
  ·rcases p1 with ⟨e1,e2⟩ | ⟨e1,e2⟩ <;> rw [e1,e2]
   ·exact nr
   ·rw [yM]; exact nr
 have pse:=ae7 hj
 have cutP':(fR T (dP g c)).Perm (se.eraseIdx j ++ more.map cX):=by
  have a1:(c :: g :: fR T (dP g c)).Perm (c :: g :: (se.eraseIdx j ++ more.map cX)):=by
   have b1:(c :: g :: fR T (dP g c)).Perm T:=by
    refine List.Perm.trans ?_ (yS ok).symm
    rcases p1 with ⟨e1,e2⟩ | ⟨e1,e2⟩ <;> rw [e1,e2]
    exact bB6 _ _ _
   refine b1.trans (pm.trans ((pse.append_right _).trans ?_))
   show (c :: (se.eraseIdx j ++ g :: more.map cX)).Perm _
   exact List.perm_middle.cons c
  exact a1.cons_inv.cons_inv
 have hn:bL g c ∉ fR T (dP g c):=fun z=>by
  rcases bn5.mp (cutP'.mem_iff.mp z) with z | z
  ·have hs:=(List.eraseIdx_sublist se j).subset z
   have okk:=okc
   unfold okX at okk
   have:bT c (bL g c)=true:=tD (p:=(c.t,c.l)) (by unfold aQ; dsimp only; omega) (yN (by unfold aQ; dsimp only; omega))
   have e:=h.far.eq hc hs this
   have nd5:(c :: se.eraseIdx j).Nodup:=pse.nodup_iff.mp nd1
   exact (bv9.mp nd5).1 (by rw [e]; rw [e] at z; rwa [e])
  ·obtain ⟨p,_,e⟩:=bm9.mp z
   have:=ba8 okg okc ne
   rw [<- e] at this
   unfold k8 cX at this
   dsimp only at this
   omega
 refine⟨ne,⟨eN T (dP g c),?_,?_⟩,h.far.sublist (List.eraseIdx_sublist se j)⟩
 ·rw [mB,hw]
  show eC (dP g c) T=_
  unfold eC
  rw [if_pos ok]
 ·unfold eN
  rw [hu,if_neg hn]
  refine (cutP'.append_right _).trans ?_
  rw [bm1]
  refine bz9 _ ?_
  exact bs0
theorem yW {α:Type}{P:List α->Prop} (h0:P []) (hs:∀ a s,P a->P (a ++ [s])) (l:List α):P l:=by
 rw [<- List.reverse_reverse l]
 induction l.reverse with
 | nil=>exact h0
 | cons x r ih=>rw [List.reverse_cons]; exact hs _ _ ih
theorem kT.len {ls:List aO}{sts:List (Bx × Bx)}:∀ {T:List Bx},bM (ls.map cX) sts=some T->T.length<=ls.length:=by
 refine yW (P:=fun sts=>∀ {T:List Bx},bM (ls.map cX) sts=some T->T.length<=ls.length) ?_ ?_ sts
 ·intro T h; cases h; rw [bk8]; exact bl1 _
 ·intro a s ih T h
  rw [mB] at h
  cases hw:bM (ls.map cX) a with
  | none=>rw [hw] at h; cases h
  | some T1=>
   rw [hw] at h
   have h:eC s T1=some T:=h
   unfold eC at h
   split at h
   ·rename_i ok
    cases h
    have:=ih hw
    have:=(yS ok).length_eq
    rw [bp1,bp1] at this
    unfold eN
    split
    ·omega
    ·rw [bn2,bq3]; omega
   ·cases h
abbrev fG (sts:List (Bx × Bx)):List PV:=sts.map mG
theorem af0 {sts:List (Bx × Bx)}{i:Nat}{v:PV} (h:(fG sts)[i]? = some v):∃ s,v=mG s/\sts[i]? = some s:=by
 rw [bl9] at h
 cases e:sts[i]? with
 | none=>rw [e] at h; cases h
 | some x=>rw [e] at h; cases h; exact⟨x,rfl,rfl⟩
def nV:eB:=fun Ep xs Q=>∃ (r c:Int) (x:PV) (ls:List aO),xs = [.int r,.int c,x]/\(x = .tup (aF ls) ∨ x = .lst (aF ls))/\ls.length<=4096/\(¬ bE r c->Ep "BadBoard")/\(bE r c->¬ bY r c ls->Ep "BadSet")/\
 (bE r c->bY r c ls->∀ sts T,bM (ls.map cX) sts=some T->cR T->sts.length<=ls.length->Q (.lst (fG sts)))
def af1 (Ep:Str->Prop):aP:=(aH (gL 3 (fL aA))
 (aH (gL 4 (fL aA))
 (aH (dB (dI (aG kS (a6 (iZ Ep kK (a6 (a5 0) (a6 (a5 1) (a6 (a5 2) aA)))) aA))) (cQ 5)
  (aH (bB 6 (a5 5))
  (aH (bB 7 (aG mF (a6 (a5 3) (a6 (a5 6) aA))))
  (aH (r9 (aW (L9 (a5 7) (qC .non)))
   (aH (iQ 4 (dY (a6 (aG yI (a6 (a5 6) (a6 (a5 7) aA))) (a6 (aG yJ (a6 (a5 6) (a6 (a5 7) aA))) aA))))
   (aH (bB 6 (aG kR (a6 (a5 6) (a6 (a5 7) aA))))
   (aH (yK 3 (a5 7))
   (bB 7 (aG mF (a6 (a5 3) (a6 (a5 6) aA))))))))
  (iQ 3 (a5 6))))))
 (lE 4))))
theorem ba9:m6 af1 ["rows","columns","seeds","settled","steps","box","growing","close"] nV:=by
 rintro Ep xs Q ⟨r,c,x,ls,rfl,hx,hl,e1,e2,q⟩
 refine⟨by show 0<=1000; decide,rfl,rfl,rfl,by show 0<=1000; decide,rfl,rfl,rfl,?_⟩
 refine⟨_,rfl,_,rfl,_,rfl,r,c,x,ls,rfl,hx,hl,e1,e2,fun ok st=>?_⟩
 have q:=q ok st
 have nd:ls.Nodup:=m8 st.1
 refine⟨_,ls,rfl,.inl rfl,hl,aX (ls.map cX),rfl,(fun z=>by cases z),fun i ρ=>∃ (se:List Bx) (sts:List (Bx × Bx)) (y5 y6 y7:Option Slot),ρ = [si r,si c,some (.sh (flat x) x),some (.own (.lst (aX se))),some (.own (.lst (fG sts))),y5,y6,y7]/\kT ls sts se ((ls.drop i).map cX)/\sts.length+se.length=i,
  ⟨[],[],none,none,none,rfl,⟨⟨_,rfl,bx1 _⟩,by1⟩,rfl⟩,?_,?_⟩
 ·rintro i v ρ hv ⟨se,sts,y5,y6,y7,rfl,gr,cnt⟩
  obtain ⟨b,rfl,hb⟩:=mE hv
  rw [bl9] at hb
  obtain ⟨p,hp,rfl⟩:∃ p,ls[i]? = some p/\b=cX p:=by
   cases e:ls[i]? with
   | none=>rw [e] at hb; cases hb
   | some p=>rw [e] at hb; cases hb; exact⟨p,rfl,rfl⟩
  have il:=(bl0.mp hp).1
  have dr:ls.drop i=p :: ls.drop (i+1):=by rw [bx5 il,(bl0.mp hp).2]
  rw [dr,bp9] at gr
  refine mC (j6 _) ?_
  refine⟨_,rfl,trivial,?_⟩
  refine⟨_,rfl,_,rfl,se,cX p,rfl,trivial,?_⟩
  refine⟨fun m ρ=>∃ (se:List Bx) (sts:List (Bx × Bx)) (g:Bx),ρ = [si r,si c,some (.sh (flat x) x),some (.own (.lst (aX se))),some (.own (.lst (fG sts))),some (.sh true (bK (cX p))),some (.sh true (bK g)),some (.sh true (yV (se.find? fun y=>bT y g)))]/\kT ls sts se (g :: (ls.drop (i+1)).map cX)/\sts.length+se.length=i/\m=se.length,
   ⟨_,se,sts,cX p,rfl,gr,cnt,rfl⟩,?_⟩
  rintro m ρ ⟨se,sts,g,rfl,gr,cnt,rfl⟩
  refine⟨_,rfl,rfl,_,rfl,?_⟩
  cases hf:se.find? fun y=>bT y g with
  | none=>
   refine aJ ⟨_,rfl,_,rfl,trivial,by rw [i7]; omega,?_⟩
   refine⟨se ++ [g],sts,some (.sh true (bK (cX p))),some (.sh true (bK g)),some (.sh true (yV none)),?_,⟨?_,?_⟩,by rw [bn2,bq3]; omega⟩
   ·have:aX se ++ [bK g]=aX (se ++ [g]):=by unfold aX iL; rw [bm5,bm5]; rfl
    show [_,_,_,some (Slot.own (PV.lst (aX se ++ [bK g]))),_,_,_,_]=_
    rw [this]
   ·obtain ⟨T,hw,pm⟩:=gr.ex
    exact⟨T,hw,by rw [bm1]; exact pm⟩
   ·have hn:=List.find?_eq_none.mp hf
    refine bo0.mpr ⟨gr.far,bp4 _ _,fun a ha b hb=>?_⟩
    rw [bk9.mp hb]
    simpa using hn a ha
  | some cl=>
   have nr:bT cl g=true:=by simpa using List.find?_some hf
   have hc:=List.mem_of_find?_eq_some hf
   obtain ⟨j,hj⟩:=bw4 hc
   obtain ⟨ne,gr2⟩:=gr.step nd hj nr
   obtain ⟨T,hw,pm⟩:=gr.ex
   have snd:(se ++ g :: (ls.drop (i+1)).map cX).Nodup:=pm.nodup_iff.mp (kQ nd sts hw).2
   have nd1:=(by3.mp snd).1
   have il':i < 4096:=by omega
   refine b7 ⟨_,rfl,_,rfl,_,rfl,g.k,cl.k,rfl,_,rfl,_,rfl,g.k,cl.k,rfl,by show 2<=1000; decide,?_,trivial,by rw [bk8]; omega,?_⟩
   ·show (flat (.tup (intz (if HT.aR cl.k g.k=true then cl.k else g.k))) && (flat (.tup (intz (if HT.aR g.k cl.k=true then cl.k else g.k))) && true))=true
    rw [pG,pG]; rfl
   have eS:PV.tup [.tup (intz (if HT.aR cl.k g.k=true then cl.k else g.k)),.tup (intz (if HT.aR g.k cl.k=true then cl.k else g.k))]=mG (dP g cl):=by
    unfold dP
    cases hl:HT.aR cl.k g.k with
    | true=>rw [lB hl]; rfl
    | false=>rw [ae9 ne hl]; rfl
   refine⟨_,rfl,_,rfl,g,cl,rfl,trivial,?_⟩
   refine⟨se.map Bx.k,rfl,_,rfl,cl.k,j,rfl,by rw [bl9,hj]; rfl,fun k hk e=>?_,by rw [bk8]; omega,?_⟩
   ·rw [bl9] at e
    cases e2:se[k]? with
    | none=>rw [e2] at e; cases e
    | some y=>
     rw [e2] at e
     have e3:=Bx.k_inj (bn1 e)
     subst e3
     have kl:=(bl0.mp e2).1
     have jl:=(bl0.mp hj).1
     have:=bq8.mp nd1 k j kl jl hk
     exact this ((bl0.mp e2).2.trans (bl0.mp hj).2.symm)
   have jl:=(bl0.mp hj).1
   have cutE:((se.map Bx.k).eraseIdx j).map (fun r=>PV.tup (intz r))=aX (se.eraseIdx j):=by
    unfold aX iL
    rw [<- Raw.jS]
   dsimp only
   rw [cutE]
   refine⟨_,rfl,_,rfl,se.eraseIdx j,bL g cl,rfl,trivial,?_⟩
   have le:(se.eraseIdx j).length+1=se.length:=by rw [List.length_eraseIdx,if_pos jl]; omega
   refine⟨(se.eraseIdx j).length,by omega,se.eraseIdx j,sts ++ [dP g cl],bL g cl,?_,gr2,by rw [bn2,bq3]; omega,rfl⟩
   show [_,_,_,_,some (Slot.own (PV.lst (fG sts ++ [PV.tup [.tup (intz (if HT.aR cl.k g.k=true then cl.k else g.k)),.tup (intz (if HT.aR g.k cl.k=true then cl.k else g.k))]]))),_,_,_]=_
   rw [eS]
   have:fG sts ++ [mG (dP g cl)]=fG (sts ++ [dP g cl]):=by unfold fG; rw [bm5]; rfl
   rw [this]; rfl
 ·rintro ρ ⟨se,sts,y5,y6,y7,rfl,gr,cnt⟩
  rw [i7,bk8] at gr cnt
  rw [List.drop_length] at gr
  obtain ⟨T,hw,pm⟩:=gr.ex
  rw [List.map_nil,bo5] at pm
  exact⟨_,rfl,trivial,q sts T hw (gr.far.perm pm.symm) (by omega)⟩
def tN:eB:=fun Ep xs Q=>∃ (r c:Int) (x:PV) (ls:List aO) (sts:List (Bx × Bx)),xs = [.int r,.int c,x,.lst (fG sts)]/\(x = .tup (aF ls) ∨ x = .lst (aF ls))/\ls.length<=4096/\(¬ bE r c->Ep "BadBoard")/\(bE r c->¬ bY r c ls->Ep "BadSet")/\
 (bE r c->bY r c ls->(bM (ls.map cX) sts=none->Ep "NoPaper")/\∀ T,bM (ls.map cX) sts=some T->(¬ cR T->Ep "NoPaper")/\(cR T->∀ bs:List Bx,bs.Perm T->bs.Pairwise (fun u v=>HT.aR v.k u.k=false)->Q (.lst (aX bs))))
def af2 (Ep:Str->Prop):aP:=(aH (gL 4 (aG tM (a6 (aG kS (a6 (iZ Ep kK (a6 (a5 0) (a6 (a5 1) (a6 (a5 2) aA)))) aA)) aA)))
 (aH (dB (dI (a5 3)) (cQ 5)
  (aH (bR (hG (aW (aG tL (a6 (a5 4) (a6 (a5 5) aA))))) (lW Ep "NoPaper" (a6 (qC (.str "a step is of two near boxes that are there, the lesser first")) aA)) bW)
  (aH (sN 4 (b8 (a5 5) (qC (.int 0))))
  (aH (sN 4 (b8 (a5 5) (qC (.int 1))))
  (lH 4 (aG kR (a6 (b8 (a5 5) (qC (.int 0))) (a6 (b8 (a5 5) (qC (.int 1))) aA))) (qC (.bl true)))))))
 (aH (bB 6 (aG yG (a6 (a5 4) aA)))
 (aH (dB (xC (a5 6)) (gN 7 8)
  (bR (aW (L9 (aG mF (a6 (wA (a5 6) w6 (w9 (a5 7))) (a6 (a5 8) aA))) (qC .non))) (lW Ep "NoPaper" (a6 (qC (.str "near boxes are left behind the last step")) aA)) bW))
 (lE 6)))))
theorem af3 (T:List Bx) (j:Nat):(bV T).eraseIdx j=bV (T.eraseIdx j):=by unfold bV; rw [Raw.jS]
theorem af4 {T:List Bx}{j:Nat}{x:Bx} (h:((bV T).map (·.1))[j]? = some (kn x.k)):T[j]? = some x:=by
 unfold bV at h
 rw [bq4,bl9] at h
 cases e:T[j]? with
 | none=>rw [e] at h; cases h
 | some y=>rw [e] at h; rw [ae0 (bn1 h)]
theorem af5 {T:List Bx}{x:Bx} (h:x ∈ T):∃ j:Nat,((bV T).map (·.1))[j]? = some (kn x.k):=by
 obtain ⟨j,hj⟩:=bw4 h
 refine⟨j,?_⟩
 unfold bV
 rw [bq4,bl9,hj]; rfl
theorem bb0:m6 af2 ["rows","columns","seeds","steps","there","step","boxes","turn","box"] tN:=by
 rintro Ep xs Q ⟨r,c,x,ls,sts,rfl,hx,hl,e1,e2,q⟩
 refine⟨_,rfl,_,rfl,_,rfl,r,c,x,ls,rfl,hx,hl,e1,e2,fun ok st=>?_⟩
 obtain ⟨qn,q⟩:=q ok st
 have nd:ls.Nodup:=m8 st.1
 refine⟨_,ls,rfl,.inl rfl,hl,ls.map cX,rfl,ba7 nd,by rw [bk8]; exact hl,rfl,ba3 _,?_⟩
 refine⟨_,rfl,fG sts,rfl,mD,fun i ρ=>∃ (T:List Bx) (z5:Option Slot),bM (ls.map cX) (sts.take i)=some T/\ρ = [si r,si c,some (.sh (flat x) x),some (.sh (flat (.lst (fG sts))) (.lst (fG sts))),some (.own (.dT (bV T))),z5,none,none,none],⟨ls.map cX,none,rfl,rfl⟩,?_,?_⟩
 ·rintro i v ρ hv ⟨T,z5,hw,rfl⟩
  obtain ⟨s,rfl,hs⟩:=af0 hv
  have tk:sts.take (i+1)=sts.take i ++ [s]:=by rw [bo8,hs]; rfl
  have wn:bM (ls.map cX) (sts.take (i+1))=eC s T:=by rw [tk,mB,hw]; rfl
  have tnd:=(kQ nd _ hw).2
  have tl:=kT.len hw
  refine mC (ba1 s) ?_
  refine⟨_,rfl,_,rfl,T,s,rfl,_,rfl,?_⟩
  cases hok:fQ T s with
  | false=>
   refine b7 ⟨by show 1<=1000; decide,qn ?_⟩
   have:bM (ls.map cX) (sts.take (i+1))=none:=by rw [wn]; unfold eC; rw [hok]; rfl
   have:=yR (b:=sts.drop (i+1)) this
   rwa [bn6] at this
  | true=>
   obtain ⟨h1,h2,h3,h4⟩:=pV.mp hok
   have ne:=ad1 h3
   refine aJ ⟨bV T,rfl,_,rfl,_,_,_,rfl,rfl,rfl,kn s.1.k,by rw [nU],af5 h1,fun j hj=>?_⟩
   rw [af3,ae8 tnd (af4 hj)]
   have h2':s.2 ∈ T.erase s.1:=(List.mem_erase_of_ne ne.symm).mpr h2
   refine⟨bV (T.erase s.1),rfl,_,rfl,_,_,_,rfl,rfl,rfl,kn s.2.k,by rw [nU],af5 h2',fun j hj=>?_⟩
   rw [af3,ae8 (tnd.erase _) (af4 hj)]
   have ll:(fR T s).length<=T.length:=bo3 (List.length_erase_le ..) (List.length_erase_le ..)
   refine⟨bV (fR T s),rfl,_,rfl,_,_,_,rfl,rfl,rfl,_,rfl,_,_,_,rfl,rfl,rfl,s.1,s.2,rfl,kn (bL s.1 s.2).k,by rw [nU],trivial,by rw [ae4]; omega,?_⟩
   rw [ae3]
   refine⟨eN T s,some (.sh true (mG s)),?_,rfl⟩
   rw [wn]
   unfold eC
   rw [if_pos hok]
 ·rintro ρ ⟨T,z5,hw,rfl⟩
  rw [bk8,bp2] at hw
  obtain ⟨q1,q2⟩:=q T hw
  refine⟨_,rfl,bV T,T.map Bx.k,rfl,ba2 T,fun k hk=>?_,fun ms pm so=>⟨trivial,?_⟩⟩
  ·obtain ⟨b,_,rfl⟩:=bm9.mp hk
   unfold Bx.k
   exact List.cons_ne_nil _ _
  obtain ⟨bs,rfl,pb⟩:=ba6 pm
  rw [bu2] at so
  refine⟨_,rfl,aX bs,.inl rfl,(fun z=>by cases z),fun i ρ=>∃ z7 z8:Option Slot,cR (bs.take i)/\ρ = [si r,si c,some (.sh (flat x) x),some (.sh (flat (.lst (fG sts))) (.lst (fG sts))),some (.own (.dT (bV T))),z5,some (.sh true (.lst (aX bs))),z7,z8],⟨none,none,by rw [List.take_zero]; exact by1,rfl⟩,?_,?_⟩
  ·rintro i v ρ hv ⟨z7,z8,far,rfl⟩
   obtain ⟨w,hw2,rfl⟩:=aN3 hv
   obtain ⟨b,rfl,hb⟩:=mE hw2
   have tk:bs.take (i+1)=bs.take i ++ [b]:=by rw [bo8,hb]; rfl
   refine⟨_,_,rfl,?_⟩
   have cut:jL (aX bs) none (some (i:Int))=aX (bs.take i):=by
    rw [aO5 (by omega)]
    unfold aX iL
    rw [show ((i:Int)).toNat=i by omega,List.map_take,List.map_take]
   refine⟨_,rfl,_,rfl,(i:Int),rfl,aX bs,rfl,yU bs,_,rfl,bs.take i,b,by rw [cut]; rfl,rfl,_,rfl,?_⟩
   cases hf:(bs.take i).find? fun y=>bT y b with
   | some y=>
    refine b7 ⟨by show 1<=1000; decide,q1 fun fT=>?_⟩
    have nr:bT y b=true:=by simpa using List.find?_some hf
    have fb:cR (bs.take (i+1)):=(fT.perm pb.symm).sublist (List.take_sublist _ _)
    rw [tk] at fb
    have:=(bo0.mp fb).2.2 y (List.mem_of_find?_eq_some hf) b (by simp)
    rw [nr] at this; cases this
   | none=>
    refine aJ ⟨_,_,?_,rfl⟩
    have hn:=List.find?_eq_none.mp hf
    rw [tk]
    refine bo0.mpr ⟨far,bp4 _ _,fun a ha b' hb'=>?_⟩
    rw [bk9.mp hb']
    simpa using hn a ha
  ·rintro ρ ⟨z7,z8,far,rfl⟩
   rw [xB,i7,bp2] at far
   exact⟨_,rfl,trivial,q2 (far.perm pb) bs pb so⟩
structure tO (ls:List aO) (bs:List Bx):Prop where
 own:bU ls bs
 far:cR bs
 so:bs.Pairwise fun u v=>HT.aR v.k u.k=false
 len:bs.length<=ls.length
def nW:eB:=fun Ep xs Q=>∃ (r c:Int) (x:PV) (ls:List aO),xs = [.int r,.int c,x]/\(x = .tup (aF ls) ∨ x = .lst (aF ls))/\ls.length<=4096/\(¬ bE r c->Ep "BadBoard")/\(bE r c->¬ bY r c ls->Ep "BadSet")/\
 (bE r c->bY r c ls->∀ bs,tO ls bs->Q (.lst (aX bs)))
def af6 (Ep:Str->Prop):aP:=(bG (iZ Ep tN (a6 (a5 0) (a6 (a5 1) (a6 (a5 2) (a6 (iZ Ep nV (a6 (a5 0) (a6 (a5 1) (a6 (a5 2) aA)))) aA))))))
theorem bb1:m6 af6 ["rows","columns","seeds"] nW:=by
 rintro Ep xs Q ⟨r,c,x,ls,rfl,hx,hl,e1,e2,q⟩
 refine⟨_,rfl,_,rfl,_,rfl,_,rfl,_,rfl,_,rfl,r,c,x,ls,rfl,hx,hl,e1,e2,fun ok st sts T hw far sl=>?_⟩
 have nd:ls.Nodup:=m8 st.1
 refine⟨r,c,x,ls,sts,rfl,hx,hl,e1,e2,fun _ _=>⟨(fun z=>by rw [hw] at z; cases z),fun T' hw'=>?_⟩⟩
 rw [hw] at hw'
 cases hw'
 exact⟨fun z=>absurd far z,fun _ bs pb so=>⟨trivial,q ok st bs ⟨((kQ nd sts hw).1).perm pb,far.perm pb.symm,so,by rw [pb.length_eq]; exact kT.len hw⟩⟩⟩
def tP:bS:=fun xs Q=>∃ bs:List Bx,xs = [.lst (aX bs),.lst (aX bs)]/\bs.length<=4096/\Q (.bl true)
def af7 (K:PySem.W.Frag):aP:=(aH (bR (iC (hG (aW (iR K "list" (a5 0)))) (aW (wB (aG fZ (a6 (a5 0) aA)) (aG fZ (a6 (a5 1) aA))))) (bG (qC (.bl false))) bW)
 (aH (dB (oP (aG fZ (a6 (a5 1) aA))) (cQ 2)
  (aH (bR (iC (hG (aW (iR K "tuple" (b8 (a5 0) (a5 2))))) (aW (q2 (oR 2 true) (b8 (a5 0) (a5 2)) (b8 (a5 1) (a5 2))))) (bG (qC (.bl false))) bW)
  (dB (dI (b8 (a5 0) (a5 2))) (cQ 3)
   (bR (hG (aW (aG sG (a6 (a5 3) aA)))) (bG (qC (.bl false))) bW))))
 (bG (qC (.bl true)))))
theorem bb2 {K:PySem.W.Frag} (kl:PySem.W.kitOne K (.type "list") (.type "list")=some true) (kt:PySem.W.kitOne K (.type "tuple") (.type "tuple")=some true):cV (af7 K) ["found","due","k","number"] tP:=by
 rintro xs Q ⟨bs,rfl,hl,q⟩
 have pl:=i7 bs
 obtain ⟨f0,hf0⟩:∃ f0,flat (.lst (aX bs))=f0:=⟨_,rfl⟩
 refine⟨_,rfl,_,_,rfl,kl,_,rfl,aJ ⟨_,rfl,_,_,rfl,rfl,_,rfl,_,_,rfl,rfl,.inl ⟨_,_,rfl,rfl,_,rfl,?_⟩⟩⟩
 show if (!decide (((aX bs).length:Int)=((aX bs).length:Int)))=true then _ else _
 rw [bk4 rfl]
 refine aJ ?_
 refine⟨_,rfl,_,_,rfl,rfl,_,rfl,by omega,by omega,fun i ρ=>∃ z2 z3:Option Slot,ρ = [some (.sh f0 (.lst (aX bs))),some (.sh f0 (.lst (aX bs))),z2,z3],⟨none,none,?_⟩,?_,?_⟩
 ·show fD _ _=_
  unfold fD
  show [some (Slot.sh (flat (.lst (aX bs))) (.lst (aX bs))),some (Slot.sh (flat (.lst (aX bs))) (.lst (aX bs))),_,_]=_
  rw [hf0]
 ·rintro i z ρ hz ⟨z2,z3,rfl⟩
  obtain ⟨rfl,hi⟩:=x5 hz
  have i1:i < bs.length:=by omega
  have hli:bs[i]? = some bs[i]:=bk5 i1
  have a1:L2.atI (aX bs) ((0:Int)+(i:Int))=some (.tup (intz bs[i].k)):=by
   rw [show (0:Int)+(i:Int)=(i:Int) by omega]
   exact uR (aZ4 hli)
  refine⟨_,rfl,_,rfl,_,_,_,rfl,rfl,a1,_,_,rfl,kt,_,rfl,aJ ⟨_,rfl,_,rfl,_,_,_,rfl,rfl,a1,_,rfl,_,rfl,_,_,_,rfl,rfl,a1,.inl ⟨_,_,rfl,rfl⟩,w5 2 _ _,_,rfl,?_⟩⟩
  show if (!cJ 3 (.tup (intz bs[i].k)) (.tup (intz bs[i].k)))=true then _ else _
  rw [w4,bk4 rfl]
  refine aJ ?_
  refine⟨_,rfl,_,rfl,_,_,_,rfl,rfl,a1,intz bs[i].k,rfl,(fun z=>pG _),fun j ρ=>∃ z3:Option Slot,ρ = [some (.sh f0 (.lst (aX bs))),some (.sh f0 (.lst (aX bs))),si ((0:Int)+(i:Int)),z3],⟨z3,rfl⟩,?_,?_⟩
  ·rintro j w ρ hw ⟨z3,rfl⟩
   obtain ⟨n,rfl,hn⟩:=x4 hw
   refine xF ?_
   refine⟨_,rfl,n,rfl,_,rfl,aJ ⟨si n,rfl⟩⟩
  ·rintro ρ ⟨z3,rfl⟩
   exact⟨_,_,rfl⟩
 ·rintro ρ ⟨z2,z3,rfl⟩
  exact⟨trivial,q⟩
def onX (x:Bx):Prop:=okX x/\0<=x.t/\0<=x.l/\x.b < 40/\x.r < 40
theorem bU.on {r c:Int}{S:List aO}{T:List Bx} (o:bU S T) (ok:bE r c) (bd:∀ p ∈ S,bF r c p=true) {x:Bx} (hx:x ∈ T):onX x:=by
 obtain ⟨f,rfl,h1,h2⟩:=o
 obtain ⟨e,he,rfl⟩:=bm9.mp hx
 have sp:=h1 e he
 have insd:∀ s ∈ e.2,s ∈ S:=fun s hs=>h2.mem_iff.mp (List.mem_flatten.mpr ⟨e.2,bm9.mpr ⟨e,he,rfl⟩,hs⟩)
 have okk:=sp.ok
 have a:=bU.on_board bd insd sp (p:=(e.1.t,e.1.l)) (by unfold okX at okk; unfold aQ; dsimp only; omega)
 have b:=bU.on_board bd insd sp (p:=(e.1.b,e.1.r)) (by unfold okX at okk; unfold aQ; dsimp only; omega)
 refine⟨okk,?_⟩
 unfold aQ at a b
 unfold bE at ok
 dsimp only at *
 omega
theorem af8 (a b:List aO):aF a ++ aF b=aF (a ++ b):=by unfold aF; rw [bm5]
def tQ:bS:=fun xs Q=>∃ (r c:Int) (x:PV) (ls:List (Int × Int)),xs = [.int r,.int c,x]/\(x = .tup (aF ls) ∨ x = .lst (aF ls))/\bE r c/\bY r c ls/\∀ K:List (Int × Int),K.Pairwise fN->(∀ y,y ∈ K ↔ iJ r c ls y)->K.length<=1600->Q (.tup (aF K))
def af9:aP:=(aH (gL 3 (qC (.dT [])))
 (aH (gL 4 (qC (.dT [])))
 (aH (gL 5 (aG oN (a6 (a5 2) aA)))
 (aH (dB (dI (a5 2)) (cQ 6)
  (lH 4 (a5 6) (qC (.bl true))))
 (aH (bB 7 (qC (.int 0)))
 (aH (r9 (aW (iS (a5 7) (aG fZ (a6 (a5 5) aA))))
  (aH (dB (dI (aG t6 (a6 (a5 0) (a6 (a5 1) (a6 (b8 (a5 5) (a5 7)) aA))))) (cQ 8)
   (aH (lH 3 (a5 8) (dC (yD (a5 3) (a5 8) (qC (.int 0))) (qC (.int 1))))
   (bR (jI (aW (nB (vZ (a5 3) (a5 8)) (qC (.int 1)))) (aW (oQ true (a5 8) (a5 4)))) (aH (lH 4 (a5 8) (qC (.bl true)))
    (iQ 5 (a5 8))) bW)))
  (bB 7 (dC (a5 7) (qC (.int 1))))))
 (bG (aG oT (a6 (aG sO (a6 (a5 5) aA)) aA)))))))))
theorem bb3:cV af9 ["rows","columns","seeds","met","burning","line","seed","at","other"] tQ:=by
 rintro xs Q ⟨r,c,x,ls,rfl,hx,ok,st,q⟩
 have sx:jJ x=some (aF ls):=by rcases hx with rfl | rfl <;> rfl
 have snd:ls.Nodup:=m8 st.1
 have sf:=yE ok snd st.2
 refine⟨rfl,rfl,rfl,rfl,?_⟩
 refine⟨_,rfl,_,_,rfl,sx,iX _,rfl,iX _,?_⟩
 refine⟨_,rfl,aF ls,sx,mD,fun i ρ=>∃ y6:Option Slot,ρ = [si r,si c,some (.sh (flat x) x),some (.own (.dT [])),some (.own (.dT (gD (ls.take i)))),some (.own (.lst (aF ls))),y6,none,none],⟨none,?_⟩,?_,?_⟩
 ·rfl
 ·rintro i y ρ hy ⟨y6,rfl⟩
  obtain ⟨l,rfl,h⟩:=lU hy
  have tk:dW (gD (ls.take i)) (cS l) (.bl true)=gD (ls.take (i+1)):=by rw [aa4 (pT snd h),bo8,h]; rfl
  refine⟨_,rfl,_,rfl,cS l,rfl,trivial,by rw [aa2,bz0]; omega,?_⟩
  rw [tk]
  exact⟨_,rfl⟩
 rintro ρ ⟨y6,rfl⟩
 rw [fF,bp2]
 refine⟨trivial,?_⟩
 refine⟨fun n ρ=>∃ (K:List (Int × Int)) (at_:Nat) (ps:List (List aM × PV)) (y8:Option Slot),ρ = [si r,si c,some (.sh (flat x) x),some (.own (.dT ps)),some (.own (.dT (gD K))),some (.own (.lst (aF K))),y6,si (at_:Nat),y8]/\
   n+at_=1600/\at_<=K.length/\Wk r c ls K (K.take at_)/\kL ps (cU r c (K.take at_))/\ps.length<=4 * at_,⟨1600,ls,0,[],none,rfl,rfl,bu5 _,Wk.init snd st.2,kL.nil,bl1 _⟩,?_⟩
 rintro n ρ ⟨K,a,ps,y8,rfl,nP,aK,wk,me,pl⟩
 have kf:=yE ok wk.nd wk.bd
 refine⟨_,rfl,_,rfl,_,_,rfl,rfl,_,_,rfl,rfl,_,rfl,?_⟩
 show if decide ((a:Int) < ((aF K).length:Int))=true then _ else _
 rw [fF]
 by_cases lt:(a:Int) < (K.length:Int)
 ·rw [bk4 lt]
  have al:a < K.length:=by omega
  obtain ⟨p,hp⟩:∃ p,K[a]? = some p:=⟨_,bk5 al⟩
  have pK:=br3 hp
  have np:=pT wk.nd hp
  have wk2:=wk.step pK np
  have t1:K.take (a+1)=K.take a ++ [p]:=by rw [bo8,hp]; rfl
  rw [<- t1] at wk2
  have hpP:L2.atI (aF K) (a:Int)=some (.tup [.int p.1,.int p.2]):=uR (by unfold aF; rw [bl9,hp]; rfl)
  have snd2:=aa6 r c p
  have sl4:(bD r c p).length<=4:=by
   unfold bD
   exact List.length_filter_le _ (gQ p)
  refine b7 ?_
  refine⟨_,rfl,_,rfl,_,rfl,_,rfl,_,_,_,rfl,rfl,hpP,r,c,p,rfl,aF (bD r c p),rfl,(fun z=>by cases z),fun j ρ=>∃ (ps:List (List aM × PV)) (y8:Option Slot),ρ = [si r,si c,some (.sh (flat x) x),some (.own (.dT ps)),some (.own (.dT (gD (K ++ ((bD r c p).take j).filter (dN r c K (K.take a)))))),some (.own (.lst (aF (K ++ ((bD r c p).take j).filter (dN r c K (K.take a)))))),y6,si (a:Nat),y8]/\
    kL ps (iK r c (K.take a) ((bD r c p).take j))/\ps.length<=4 * a+j,⟨ps,y8,?_,?_,by omega⟩,?_,?_⟩
  ·rw [List.take_zero,List.filter_nil,bo5]
  ·have:iK r c (K.take a) ((bD r c p).take 0)=cU r c (K.take a):=by funext y; unfold iK; simp
   rw [this]; exact me
  ·rintro j y ρ hy ⟨ps2,y8,rfl,me2,pl2⟩
   obtain ⟨s,rfl,hs⟩:=lU hy
   have jl:=(bl0.mp hs).1
   have nj:=pT snd2 hs
   have tk:=pF (p:=dN r c K (K.take a)) hs
   have ms:=me2 s
   have me3:=me2.put s (.int ((iK r c (K.take a) ((bD r c p).take j) s:Int)+1)) rfl
   rw [aU2 snd2 hs] at me3
   have fs:iK r c (K.take a) ((bD r c p).take j) s=cU r c (K.take a) s:=by unfold iK; rw [if_neg nj]; rfl
   rw [fs] at ms me3
   have vs:cB (dW ps2 (cS s) (.int ((cU r c (K.take a) s:Int)+1))) (cS s)=some (.int ((cU r c (K.take a) s:Int)+1)):=by rw [S9,if_pos rfl]
   have lp:=aL1 ps2 (cS s) (.int ((cU r c (K.take a) s:Int)+1))
   refine⟨_,rfl,ps2,rfl,_,rfl,cS s,rfl,by rw [ms]; rfl,_,_,ms,rfl,ps2,rfl,_,rfl,cS s,rfl,trivial,by omega,?_⟩
   refine⟨_,rfl,_,rfl,_,.inr ⟨_,cS s,rfl,rfl,vs.symm⟩,_,_,rfl,rfl,_,rfl,?_⟩
   show if decide ((cU r c (K.take a) s:Int)+1 > 1)=true then _ else _
   have tl:=List.length_take_le j (bD r c p)
   have fl:=List.length_filter_le (dN r c K (K.take a)) ((bD r c p).take j)
   by_cases h1:(cU r c (K.take a) s:Int)+1 > 1
   ·rw [bk4 h1]
    refine b7 ⟨_,rfl,_,rfl,_,.inr ⟨_,cS s,rfl,rfl,rfl⟩,_,rfl,?_⟩
    show if (!(cB (gD (K ++ ((bD r c p).take j).filter (dN r c K (K.take a)))) (cS s)).isSome)=true then _ else _
    rw [aa3]
    by_cases h2:s ∈ K ++ ((bD r c p).take j).filter (dN r c K (K.take a))
    ·have sK:s ∈ K:=by
      rcases bn5.mp h2 with z | z
      ·exact z
      ·exact absurd (bo1.mp z).1 nj
     have nf:dN r c K (K.take a) s=false:=by unfold dN; rw [bk4 sK]; rfl
     rw [nf,if_neg (by decide),bo5] at tk
     rw [bk4 h2]
     refine aJ ?_
     rw [<- tk]
     exact⟨dW ps2 (cS s) (.int ((cU r c (K.take a) s:Int)+1)),_,rfl,me3,by omega⟩
    ·have sK:s ∉ K:=fun z=>h2 (bn0 _ z)
     have lo:=wk.low s sK
     have nf:dN r c K (K.take a) s=true:=by unfold dN; rw [bk1 sK,bk4 (by omega)]; rfl
     rw [nf,if_pos rfl] at tk
     rw [bk1 h2]
     refine b7 ⟨_,rfl,_,rfl,cS s,rfl,trivial,by rw [aa2,bn2]; omega,?_⟩
     rw [aa4 h2,bm1,<- tk]
     refine⟨_,rfl,_,rfl,trivial,by rw [fF,bn2]; omega,?_⟩
     have ap:aF (K ++ ((bD r c p).take j).filter (dN r c K (K.take a))) ++ [.tup [.int s.1,.int s.2]]=aF (K ++ ((bD r c p).take (j+1)).filter (dN r c K (K.take a))):=by
      rw [tk,<- bm1]
      unfold aF
      rw [bm5 (l₂:=[s])]; rfl
     refine⟨dW ps2 (cS s) (.int ((cU r c (K.take a) s:Int)+1)),some (Slot.sh (rC Tg.fr (aF (bD r c p)) || flat (PV.tup [PV.int s.1,PV.int s.2])) (.tup [.int s.1,.int s.2])),?_,me3,by omega⟩
     show [_,_,_,_,_,some (Slot.own (PV.lst (aF (K ++ ((bD r c p).take j).filter (dN r c K (K.take a))) ++ [.tup [.int s.1,.int s.2]]))),_,_,_]=_
     rw [ap]
   ·rw [bk1 h1]
    have nf:dN r c K (K.take a) s=false:=by unfold dN; rw [bk1 (by omega : ¬ cU r c (K.take a) s=1),bn8]
    rw [nf,if_neg (by decide),bo5] at tk
    refine aJ (aJ ?_)
    rw [<- tk]
    exact⟨dW ps2 (cS s) (.int ((cU r c (K.take a) s:Int)+1)),_,rfl,me3,by omega⟩
  ·rintro ρ ⟨ps2,y8,rfl,me2,pl2⟩
   rw [fF,bp2] at me2
   rw [fF] at pl2
   rw [fF,bp2]
   have fe:iK r c (K.take a) (bD r c p)=cU r c (K.take (a+1)):=by funext y; rw [t1,aa7]; rfl
   rw [fe] at me2
   have k2:=yE ok wk2.nd wk2.bd
   have t2:(K ++ (bD r c p).filter (dN r c K (K.take a))).take (a+1)=K.take (a+1):=List.take_append_of_le_length (by omega)
   refine⟨_,rfl,_,_,rfl,rfl,trivial,n - 1,by omega,K ++ (bD r c p).filter (dN r c K (K.take a)),a+1,ps2,y8,rfl,by omega,by rw [bn2]; omega,?_,?_,by omega⟩
   ·rw [t2]; exact wk2
   ·rw [t2]; exact me2
 ·rw [bk1 lt]
  have ea:K.take a=K:=br4 (by omega)
  rw [ea] at wk
  refine aJ ⟨_,rfl,K.map two,by rw [pJ]; rfl,by rw [bk8]; omega,fun r hr=>by obtain ⟨l,_,rfl⟩:=bm9.mp hr; rfl,fun Z pz so=>?_⟩
  obtain ⟨l2,rfl,pp⟩:=U1 pz
  rw [show ((l2.map two).map fun r=>PV.tup (intz r))=aF l2 from (pJ _).symm]
  exact⟨⟨_,_,rfl,rfl,iX _,trivial,q l2 (U2 so (pp.nodup_iff.mpr wk.nd)) (fun y=>pp.mem_iff.trans (wk.all (fun x hx=>hx) y)) (by rw [pp.length_eq]; exact kf)⟩,fun ns z=>by cases z⟩
def c7 (x:Bx) (p:aO):Bool:=decide (x.t<=p.1) && (decide (p.1<=x.b) && (decide (x.l<=p.2) && decide (p.2<=x.r)))
theorem pX {x:Bx}{p:aO}:c7 x p=true ↔ aQ x p:=by
 unfold c7 aQ
 simp only [br1,bm4]
def mH (r c:Int) (ls:List aO) (x:Bx):Prop:=okX x/\0<=x.t/\0<=x.l/\x.b < r/\x.r < c/\∀ p,aQ x p->dO x (· ∈ ls.filter (c7 x)) p
theorem bY.filter {r c:Int}{ls:List aO} (h:bY r c ls) (p:aO->Bool):bY r c (ls.filter p):=⟨h.1.sublist List.filter_sublist,fun l hl=>h.2 l ((bo1.mp hl).1)⟩
theorem cR.nd {T:List Bx} (h:cR T) (ok:∀ x ∈ T,okX x):T.Nodup:=h.imp_of_mem fun {x y} hx _ n e=>by
 subst e
 rw [aY0 (ok x hx)] at n; cases n
theorem ag0 {T:List Bx}{x:Bx} (nd:T.Nodup) (h1:x ∈ T) (h2:∀ y ∈ T,y=x):T = [x]:=by
 match T,nd,h1,h2 with
 | [y],_,_,h2=>rw [h2 y (by simp)]
 | y :: z :: r,nd,_,h2=>
  have e1:=h2 y (by simp)
  have e2:=h2 z (by simp)
  subst e1 e2
  exact absurd (by simp) (bv9.mp nd).1
theorem bb4 {r c:Int}{ls:List aO}{x:Bx}{bs:List Bx} (st:bY r c ls) (g:tO (ls.filter (c7 x)) bs):bs = [x] ↔ mH r c ls x:=by
 have sf:=st.filter (c7 x)
 constructor
 ·rintro rfl
  obtain ⟨f,e,h1,h2⟩:=g.own
  match f,e with
  | [ex],e=>
   cases e
   have sp:=h1 ex bl6
   have gs:∀ s ∈ ex.2,s ∈ ls.filter (c7 ex.1):=fun s hs=>h2.mem_iff.mp (by simpa using hs)
   have okk:=sp.ok
   have a:=bU.on_board sf.2 gs sp (p:=(ex.1.t,ex.1.l)) (by unfold okX at okk; unfold aQ; dsimp only; omega)
   have b:=bU.on_board sf.2 gs sp (p:=(ex.1.b,ex.1.r)) (by unfold okX at okk; unfold aQ; dsimp only; omega)
   unfold aQ at a b
   dsimp only at a b
   show mH r c ls ex.1
   exact⟨okk,by omega,by omega,by omega,by omega,fun p hp=>(sp.full p hp).mono (bA.refl _) gs⟩
 ·rintro ⟨ok,h1,h2,h3,h4,full⟩
  have okbs:∀ y ∈ bs,okX y:=fun y hy=>g.own.ok hy
  have far1:cR [x]:=bp4 _ _
  have ok1:∀ y ∈ [x],okX y:=fun y hy=>by rw [bk9.mp hy]; exact ok
  have sb:bA x (kO r c):=by unfold bA; dsimp only; omega
  have same:∀ p,(∃ y ∈ bs,aQ y p) ↔ ∃ y ∈ [x],aQ y p:=fun p=>by
   rw [g.own.burnt g.far sf.2,tJ sf.2]
   constructor
   ·intro h
    refine h.least (ad0 (fun a ha b hb _=>?_) _) fun s hs=>⟨x,bk9.mpr rfl,pX.mp (bo1.mp hs).2⟩
    rw [bk9.mp ha,bk9.mp hb]
   ·rintro ⟨y,hy,hp⟩
    rw [bk9.mp hy] at hp
    exact (full p hp).mono sb fun _ h=>h
  exact ag0 (g.far.nd okbs) (yT far1 g.far ok1 okbs (fun p=>(same p).symm) (bk9.mpr rfl)) fun y hy=>bk9.mp (yT g.far far1 okbs ok1 same hy)
theorem dO.shift {B B':Bx}{S S':aO->Prop}{a b:Int} (hB:∀ p,aQ B p->aQ B' (p.1+a,p.2+b)) (hS:∀ s,S s->S' (s.1+a,s.2+b)) {p:aO} (h:dO B S p):dO B' S' (p.1+a,p.2+b):=by
 induction h with
 | seed h=>exact .seed (hS _ h)
 | @kin x y z h1 h2 h3 h4 _ _ i1 i2=>
  refine .kin (hB _ h1) ?_ ?_ (fun e=>h4 ?_) i1 i2
  ·unfold i5 at *; dsimp only; omega
  ·unfold i5 at *; dsimp only; omega
  ·have e1:=congrArg Prod.fst e
   have e2:=congrArg Prod.snd e
   dsimp only at e1 e2
   exact bv7 (by omega) (by omega)
def shift (x:Bx) (p:aO):aO:=(p.1 - x.t,p.2 - x.l)
theorem bb5 {h w:Int} (h1:1<=h) (w1:1<=w) {K:List aO} (nd:K.Nodup) (bd:∀ p ∈ K,bF h w p=true):(K.length:Int)=h * w ↔ ∀ p,bF h w p=true->p ∈ K:=by
 have hp:0<=h * w:=Int.mul_nonneg (by omega) (by omega)
 let f:aO->Nat:=fun p=>(p.1 * w+p.2).toNat
 have fl:∀ {p:aO},bF h w p=true->0<=p.1 * w+p.2/\p.1 * w+p.2 < h * w:=fun {p} hp=>by
  obtain ⟨a,b,c,d⟩:=eM.mp hp
  have e1:0<=p.1 * w:=Int.mul_nonneg a (by omega)
  have e2:(p.1+1) * w<=h * w:=bv1 (by omega) (by omega)
  rw [Int.add_mul,Int.one_mul] at e2
  omega
 have inj:∀ {p q:aO},bF h w p=true->bF h w q=true->f p=f q->p=q:=fun {p q} hp hq e=>by
  have a:=fl hp
  have b:=fl hq
  have e:p.1 * w+p.2=q.1 * w+q.2:=by have:(p.1 * w+p.2).toNat=(q.1 * w+q.2).toNat:=e; omega
  obtain ⟨a1,a2,a3,a4⟩:=eM.mp hp
  obtain ⟨b1,b2,b3,b4⟩:=eM.mp hq
  have e1:p.1=q.1:=by
   rcases Int.lt_trichotomy p.1 q.1 with z | z | z
   ·have:=bv1 (show p.1+1<=q.1 by omega) (show 0<=w by omega)
    rw [Int.add_mul,Int.one_mul] at this
    omega
   ·exact z
   ·have:=bv1 (show q.1+1<=p.1 by omega) (show 0<=w by omega)
    rw [Int.add_mul,Int.one_mul] at this
    omega
  rw [e1] at e
  exact bv7 e1 (by omega)
 have ndf:(K.map f).Nodup:=bu2.mpr (nd.imp_of_mem fun {a b} ha hb ne e=>ne (inj (bd a ha) (bd b hb) e))
 have lt:∀ x ∈ K.map f,x < (h * w).toNat:=fun x hx=>by
  obtain ⟨p,hp2,rfl⟩:=bm9.mp hx
  have:=fl (bd p hp2)
  show (p.1 * w+p.2).toNat < _
  omega
 constructor
 ·intro e p hpb
  refine Classical.byContradiction fun no=>?_
  have:f p ∉ K.map f:=fun z=>by
   obtain ⟨q,hq,e2⟩:=bm9.mp z
   exact no (by rw [<- inj (bd q hq) hpb e2]; exact hq)
  have:=pO (h * w).toNat (f p :: K.map f) (bv9.mpr ⟨this,ndf⟩) fun x hx=>by
   rcases bk6.mp hx with rfl | hx
   ·have:=fl hpb
    show (p.1 * w+p.2).toNat < _
    omega
   ·exact lt x hx
  rw [bp1,bk8] at this
  omega
 ·intro all
  have h1':=pO (h * w).toNat (K.map f) ndf lt
  have h2':(List.range (h * w).toNat).length<=(K.map f).length:=List.nodup_range.length_le_of_subset fun n hn=>by
   have hn:=List.mem_range.mp hn
   have n1:((n:Int) / w) * w+(n:Int) % w=n:=Int.ediv_mul_add_emod ..
   have m0:=bA2 (n:Int) (show w ≠ 0 by omega)
   have m1:=Int.emod_lt_of_pos (n:Int) (show 0 < w by omega)
   have d0:0<=(n:Int) / w:=Int.ediv_nonneg (by omega) (by omega)
   have d1:(n:Int) / w < h:=Int.ediv_lt_of_lt_mul (by omega) (by omega)
   refine bm9.mpr ⟨((n:Int) / w,(n:Int) % w),all _ (eM.mpr ⟨d0,d1,m0,m1⟩),?_⟩
   show (((n:Int) / w) * w+(n:Int) % w).toNat=n
   rw [n1]; omega
  rw [bk8] at h1' h2'
  rw [List.length_range] at h2'
  omega
theorem bb6 {r c:Int}{ls K:List aO}{x:Bx} (ok:okX x) (h1:0<=x.t) (h2:0<=x.l) (h3:x.b < r) (h4:x.r < c) (nd:K.Nodup) (mem:∀ y,y ∈ K ↔ iJ (x.b - x.t+1) (x.r - x.l+1) ((ls.filter (c7 x)).map (shift x)) y) :
  ((K.length:Int)=(x.b - x.t+1) * (x.r - x.l+1)) ↔ mH r c ls x:=by
 have okk:=ok
 unfold okX at okk
 have bd:∀ s ∈ (ls.filter (c7 x)).map (shift x),bF (x.b - x.t+1) (x.r - x.l+1) s=true:=fun s hs=>by
  obtain ⟨p,hp,rfl⟩:=bm9.mp hs
  have:=pX.mp (bo1.mp hp).2
  unfold aQ at this
  unfold shift
  exact eM.mpr (by dsimp only; omega)
 rw [bb5 (by omega) (by omega) nd fun p hp=>aZ1 bd ((mem p).mp hp)]
 constructor
 ·intro all
  refine⟨ok,h1,h2,h3,h4,fun p hp=>?_⟩
  have hp':=hp
  unfold aQ at hp'
  have b:=(tJ bd).mp ((mem _).mp (all (shift x p) (eM.mpr (by unfold shift; dsimp only; omega))))
  have:=b.shift (B':=x) (S':=(· ∈ ls.filter (c7 x))) (a:=x.t) (b:=x.l) (fun q hq=>by unfold aQ at *; dsimp only at *; omega) fun s hs=>by
   obtain ⟨q,hq,rfl⟩:=bm9.mp hs
   have:((shift x q).1+x.t,(shift x q).2+x.l)=q:=by unfold shift; exact bv7 (by dsimp only; omega) (by dsimp only; omega)
   rw [this]; exact hq
  have e:((shift x p).1+x.t,(shift x p).2+x.l)=p:=by unfold shift; exact bv7 (by dsimp only; omega) (by dsimp only; omega)
  rwa [e] at this
 ·rintro ⟨_,_,_,_,_,full⟩ p hp
  refine (mem p).mpr ((tJ bd).mpr ?_)
  have ib:=eM.mp hp
  have b:=full (p.1+x.t,p.2+x.l) (by unfold aQ; dsimp only; omega)
  have:=b.shift (B':=kO (x.b - x.t+1) (x.r - x.l+1)) (S':=(· ∈ (ls.filter (c7 x)).map (shift x))) (a:=-x.t) (b:=-x.l) (fun q hq=>by unfold aQ at *; dsimp only at *; omega) fun s hs=>bm9.mpr ⟨s,hs,by unfold shift; exact bv7 (by dsimp only; omega) (by dsimp only; omega)⟩
  have e:(p.1+x.t + -x.t,p.2+x.l + -x.l)=p:=bv7 (by dsimp only; omega) (by dsimp only; omega)
  rwa [e] at this
def tR:bS:=fun xs Q=>∃ (x:Bx) (p:aO),xs = [bK x,.tup [.int p.1,.int p.2]]/\Q (.bl (c7 x p))
def ag1:aP:=(bG (iD (oS (b8 (a5 0) (qC (.int 0))) (b8 (a5 1) (qC (.int 0)))) (iD (oS (b8 (a5 1) (qC (.int 0))) (b8 (a5 0) (qC (.int 2)))) (iD (oS (b8 (a5 0) (qC (.int 1))) (b8 (a5 1) (qC (.int 1)))) (oS (b8 (a5 1) (qC (.int 1))) (b8 (a5 0) (qC (.int 3))))))))
theorem bb7:cV ag1 ["box","cell"] tR:=by
 rintro xs Q ⟨x,p,rfl,q⟩
 unfold c7 at q
 refine⟨_,rfl,_,_,_,rfl,rfl,rfl,_,rfl,_,_,_,rfl,rfl,rfl,x.t,p.1,rfl,rfl,_,rfl,?_⟩
 cases h1:decide (x.t<=p.1) with
 | false=>rw [h1] at q; exact aJ ⟨trivial,q⟩
 | true=>
  rw [h1,bx8] at q
  refine b7 ⟨_,rfl,_,_,_,rfl,rfl,rfl,_,rfl,_,_,_,rfl,rfl,rfl,p.1,x.b,rfl,rfl,_,rfl,?_⟩
  cases h2:decide (p.1<=x.b) with
  | false=>rw [h2] at q; exact aJ ⟨trivial,q⟩
  | true=>
   rw [h2,bx8] at q
   refine b7 ⟨_,rfl,_,_,_,rfl,rfl,rfl,_,rfl,_,_,_,rfl,rfl,rfl,x.l,p.2,rfl,rfl,_,rfl,?_⟩
   cases h3:decide (x.l<=p.2) with
   | false=>rw [h3] at q; exact aJ ⟨trivial,q⟩
   | true=>
    rw [h3,bx8] at q
    exact b7 ⟨_,rfl,_,_,_,rfl,rfl,rfl,_,rfl,_,_,_,rfl,rfl,rfl,p.2,x.r,rfl,rfl,trivial,q⟩
def tS:eB:=fun Ep xs Q=>∃ (r c:Int) (v:PV) (ls:List aO) (x:Bx),xs = [.int r,.int c,v,bK x]/\(v = .tup (aF ls) ∨ v = .lst (aF ls))/\ls.length<=4096/\(¬ bE r c->Ep "BadBoard")/\(bE r c->¬ bY r c ls->Ep "BadSet")/\
 (bE r c->bY r c ls->∀ b:Bool,(b=true ↔ mH r c ls x)->Q (.bl b))
def ag2 (Ep:Str->Prop):aP:=(aH (bB 4 (hJ (dI (iZ Ep kK (a6 (a5 0) (a6 (a5 1) (a6 (a5 2) aA))))) [none,some 3] (cQ 0) (aW (aG tR (a6 (a5 1) (a6 (a5 0) aA)))) (a5 0)))
 (bG (q2 (oR 2 false) (iZ Ep nW (a6 (a5 0) (a6 (a5 1) (a6 (a5 4) aA)))) (fL (a6 (a5 3) aA)))))
theorem bb8 {bs:List Bx}{x:Bx}:bs.map Bx.k = [x.k] ↔ bs = [x]:=by
 constructor
 ·intro h
  have hl:=congrArg List.length h
  rw [bk8] at hl
  obtain ⟨y,rfl⟩:=List.length_eq_one_iff.mp hl
  rw [Bx.k_inj (List.cons.inj h).1]
 ·rintro rfl; rfl
theorem bb9 {i j:Nat}{a b:Int}{g:Bool}{ρ:bC}{Q:bC->Prop} (q:Q ((ρ.set i (si a)).set j (si b))):gN i j (.tup [.int a,.int b]) g ρ Q:=by
 refine⟨_,_,rfl,?_⟩
 rw [show flat (.int a)=true from rfl,show flat (.int b)=true from rfl,Bool.or_true]
 exact q
theorem bc0:m6 ag2 ["rows","columns","seeds","box","own"] tS:=by
 rintro Ep xs Q ⟨r,c,v,ls,x,rfl,hv,hl,e1,e2,q⟩
 refine⟨_,rfl,_,rfl,_,rfl,r,c,v,ls,rfl,hv,hl,e1,e2,fun ok st=>?_⟩
 have q:=q ok st
 refine⟨aF ls,rfl,(fun z=>by cases z),by rw [fF]; omega,fun i acc=>acc=aF ((ls.take i).filter (c7 x)),rfl,?_,?_⟩
 ·rintro i w acc hw rfl
  obtain ⟨l,rfl,h⟩:=lU hw
  have tk:=pF (p:=c7 x) h
  refine mC rfl ?_
  refine⟨_,rfl,_,rfl,x,l,rfl,_,rfl,?_⟩
  cases hb:c7 x l with
  | true=>
   rw [hb,if_pos rfl] at tk
   refine b7 ⟨_,rfl,trivial,?_⟩
   dsimp only
   rw [tk]
   unfold aF
   rw [bm5]; rfl
  | false=>
   rw [hb,if_neg (by decide),bo5] at tk
   refine aJ ?_
   dsimp only
   rw [tk]
 ·rintro acc rfl
  rw [fF,bp2]
  refine⟨trivial,?_⟩
  have fl:=List.length_filter_le (c7 x) ls
  refine⟨_,rfl,_,rfl,_,rfl,r,c,_,ls.filter (c7 x),rfl,.inr rfl,by omega,fun z=>absurd ok z,fun _ z=>absurd (st.filter _) z,fun _ _ bs g=>?_⟩
  refine⟨_,rfl,by show 1<=1000; decide,?_,.inr ⟨_,_,rfl,rfl⟩,W7 1 (bs.map Bx.k) [x.k],trivial,?_⟩
  ·show (flat (bK x) && true)=true
   rw [j6]; rfl
  show Q (.bl (cJ 3 (.lst (aX bs)) (.lst (aX [x]))))
  rw [show cJ 3 (.lst (aX bs)) (.lst (aX [x]))=decide (bs.map Bx.k = [x.k]) from aP9 1 (bs.map Bx.k) [x.k]]
  exact q _ (decide_eq_true_iff.trans (bb8.trans (bb4 st g)))
theorem bc1 {r c:Int}{ls:List aO} (st:bY r c ls) (x:Bx):bY (x.b - x.t+1) (x.r - x.l+1) ((ls.filter (c7 x)).map (shift x)):=by
 refine⟨bu2.mpr ((st.1.sublist List.filter_sublist).imp fun {a b} h=>?_),fun l hl=>?_⟩
 ·unfold fN shift at *; dsimp only; omega
 ·obtain ⟨p,hp,rfl⟩:=bm9.mp hl
  have:=pX.mp (bo1.mp hp).2
  unfold aQ at this
  unfold shift
  exact eM.mpr (by dsimp only; omega)
section
variable {ns : List Int} {a r c z t l : Int} {Q : PV → Prop} (q : ∀ x : Bx, Q (bK x))
include q
end
theorem ag3 {T0 T:List Bx}{sts:List (Bx × Bx)}{i:Nat}{s:Bx × Bx}{T1:List Bx} (h:bM T0 sts=some T) (hs:sts[i]? = some s) (h1:bM T0 (sts.take i)=some T1):fQ T1 s=true/\bM T0 (sts.take (i+1))=some (eN T1 s):=by
 have tk:sts.take (i+1)=sts.take i ++ [s]:=by rw [bo8,hs]; rfl
 have wn:bM T0 (sts.take (i+1))=eC s T1:=by rw [tk,mB,h1]; rfl
 cases hok:fQ T1 s with
 | true=>exact⟨rfl,by rw [wn]; unfold eC; rw [if_pos hok]⟩
 | false=>
  have:bM T0 (sts.take (i+1))=none:=by rw [wn]; unfold eC; rw [hok]; rfl
  have:=yR (b:=sts.drop (i+1)) this
  rw [bn6,h] at this; cases this
end Core
namespace PP
open PySem L2 PyProof.Rows
section
variable {X : Cx} {σ : L2.St} {H : Hp} {Q' : VK} {a b c d : Expr} {pos p2 p3 pos2 : Pos}
def ag4 (r r' r'':R2) (ta tb tc td:TE):TE:=fun σ H Q=>ta σ H fun x H1=>tb σ H1 fun y H2=>r x y H2 fun z H3=>∃ k,z = .bl k/\
 (if k=true then tc σ H3 fun w' H4=>r' y w' H4 fun z' H5=>∃ k',z' = .bl k'/\(if k'=true then td σ H5 fun u' H6=>r'' w' u' H6 Q else Q (.bl false) H5) else Q (.bl false) H3)
theorem bc2 {o1 o2 o3:CmpOp}{r r' r'':R2}{ta tb tc td:TE} (ho:bN X (compareOp o1) r) (ho':bN X (compareOp o2) r') (ho'':bN X (compareOp o3) r'') (ha:PE X a ta) (hb:PE X b tb) (hc:PE X c tc) (hd:PE X d td)
  (hm:lastMarks [o1,o2,o3] [b,c,d]=false:=by with_unfolding_all rfl):PT X (.Compare a [o1,o2,o3] [b,c,d] pos) (uI (ag4 r r' r'' ta tb tc td)):=by
 intro pins s σ H Q I h
 refine isTrue_chain (aL (ha pins s σ H _ I h) fun v s1 ⟨x,H1,I1,r1,q1⟩=>test_link (aL (hb pins s1 σ H1 _ I1 q1) fun u s2 ⟨y,H2,I2,r2,q2⟩=>
  aL (ho pins s2 σ H2 x y v u _ I2 r1 r2 q2) fun e1 s3 ⟨z,H3,I3,r3,k,e,q3⟩=>?_)) hm
 subst e
 cases r3
 refine bq1 ?_
 cases k with
 | false=>
  obtain ⟨k',e',q'⟩:=q3
  cases e'
  exact ite_ff ⟨H3,I3,q'⟩
 | true=>
  refine ite_tt (test_link (aL (hc pins s3 σ H3 _ I3 q3) fun w' s4 ⟨z',H4,I4,r4,q4⟩=>aL (ho' pins s4 σ H4 y z' u w' _ I4 r2 r4 q4) fun e2 s5 ⟨z2,H5,I5,r5,k2,e2',q5⟩=>?_))
  subst e2'
  cases r5
  refine bq1 ?_
  cases k2 with
  | false=>
   obtain ⟨k',e',q'⟩:=q5
   cases e'
   exact ite_ff ⟨H5,I5,q'⟩
  | true=>
   refine ite_tt (test_last (aL (hd pins s5 σ H5 _ I5 q5) fun u' s6 ⟨z3,H6,I6,r6,q6⟩=>aL (ho'' pins s6 σ H6 z' z3 w' u' _ I6 r4 r6 q6) fun e3 s7 ⟨z4,H7,I7,r7,k3,e3',q7⟩=>?_))
   subst e3'
   cases r7
   exact bq1 ⟨H7,I7,q7⟩
def tT (ta tb tc td:aB):aB:=fun ρ Q=>ta ρ fun x _=>tb ρ fun y _=>∃ i j,x = .int i/\y = .int j/\if decide (i<=j)=true then (tc ρ fun z _=>∃ k,z = .int k/\if decide (j<=k)=true then (td ρ fun w _=>∃ m,w = .int m/\Q (.bl (decide (k<=m))) .fr) else Q (.bl false) .fr) else Q (.bl false) .fr
theorem bc3 {ta tb tc td:aB} (h:LE X (tT ta tb tc td) σ H Q'):ag4 (eR fun i j=>.bl (decide (i<=j))) (eR fun i j=>.bl (decide (i<=j))) (eR fun i j=>.bl (decide (i<=j))) (LE X ta) (LE X tb) (LE X tc) (LE X td) σ H Q':=by
 obtain ⟨W,ρ,Q,px,q,k⟩:=h
 refine⟨W,ρ,_,px,q,?_⟩
 rintro v H1 x g s r q
 refine⟨W,ρ,_,px.mono s,q,?_⟩
 rintro u H2 y g' s2 r2 ⟨i,j,rfl,rfl,q⟩
 cases r; cases r2
 refine⟨i,j,rfl,rfl,decide (i<=j),rfl,?_⟩
 cases hp:decide (i<=j) with
 | false=>
  rw [hp,if_neg (by decide)] at q
  rw [if_neg (by decide)]
  exact k _ _ _ .fr (s.trans s2) (.bl false) q
 | true=>
  rw [hp,if_pos rfl] at q
  rw [if_pos rfl]
  refine⟨W,ρ,_,(px.mono s).mono s2,q,?_⟩
  rintro w H3 z gz s3 r3 ⟨m,rfl,q⟩
  cases r3
  refine⟨j,m,rfl,rfl,decide (j<=m),rfl,?_⟩
  cases hp2:decide (j<=m) with
  | false=>
   rw [hp2,if_neg (by decide)] at q
   rw [if_neg (by decide)]
   exact k _ _ _ .fr ((s.trans s2).trans s3) (.bl false) q
  | true=>
   rw [hp2,if_pos rfl] at q
   rw [if_pos rfl]
   refine⟨W,ρ,_,((px.mono s).mono s2).mono s3,q,?_⟩
   rintro w H4 z gz s4 r4 ⟨n,rfl,q⟩
   cases r4
   exact⟨m,n,rfl,rfl,k _ _ _ .fr (((s.trans s2).trans s3).trans s4) (.bl _) q⟩
theorem ag5 {ta tb tc td:aB} (ha:QE X a ta) (hb:QE X b tb) (hc:QE X c tc) (hd:QE X d td) (hm:lastMarks [.LtE,.LtE,.LtE] [b,c,d]=false:=by with_unfolding_all rfl):QT X (.Compare a [.LtE,.LtE,.LtE] [b,c,d] pos) (aW (tT ta tb tc td)):=lJ (bc2 kY kY kY ha hb hc hd hm) fun _ _ _ h=>bc3 (mT h)
theorem bc4 {tA:TA} (hg:Gl X "range") (hm:X.mg "range" = none) (ha:PA X [a,b] tA) (hs:starEach [a,b] X.env = [(false,eval a X.env),(false,eval b X.env)]:=by rfl) (hs2:starEach [b] X.env = [(false,eval b X.env)]:=by rfl) :
  PE X (.Call (.Name "range" p2) [a,b] [] pos) (fun σ H Q=>tA σ H fun vs H1=>∃ i j:Int,vs = [.int i,.int j]/\∀ r,H1 r=none->Q (.ref r) (upd H1 r (.rng i j))):=by
 intro pins s σ H Q I h
 refine Call_ (kW I hg hm boot_range (bw6 (aL (ha pos pins s σ H _ I h) fun us s1 ⟨vs,H1,I1,r1,q1⟩=>?_) (by rw [hs,hs2]) (by rw [hs2]; rfl)))
 obtain ⟨i,j,e,q⟩:=q1
 subst e
 cases r1 with
 | cons r rr=>
  cases rr with
  | cons r' rr=>
   cases rr
   obtain ⟨t,rfl⟩:=r
   obtain ⟨t',rfl⟩:=r'
   refine call_range_2 ?_
   exact⟨.ref s1.heap.objs.size,_,I1.laid (o:=.rng i j) (fun b ob q=>bk0 _ q) (bl1 _) ⟨_,_,_,bl7 _ rfl⟩,rfl,q _ (I1.hok.fresh (bl1 _))⟩
theorem bc5 {lo:Int}{n:Nat}{acc:Array Value} (h:ItemsOf (fun i v=>∃ t,v = .int (lo+(i:Int) * 1) t) acc n):aS (jG lo n) acc.toList:=by
 obtain ⟨h1,h2⟩:=h
 refine T7 (by rw [vD]; simp [h1]) fun i x u hx hu=>?_
 have hi:i < n:=by
  have:=(bl0.mp hx).1
  rwa [vD] at this
 unfold jG at hx
 rw [bl9,List.getElem?_range hi] at hx
 cases hx
 obtain ⟨t,rfl⟩:=h2 i u (by rw [<- bu0]; exact hu)
 exact⟨t,by congr 1; omega⟩
theorem bc6 (hc:X.calm=true):cO X (.type "list") (fun xs H Q=>∃ r i j,xs = [.ref r]/\H r=some (.rng i j)/\i<=j/\-1000000<=i/\j<=1000000/\∀ l,H l=none->Q (.ref l) (upd H l (.lst (jG i (j - i).toNat)))):=by
 intro pins s σ H xs us Q I r h
 obtain ⟨p,i,j,rfl,hq,h0,h1,h2,q⟩:=h
 obtain ⟨u,rfl,rx⟩:=gU r
 cases rx
 obtain ⟨t,u,v,ho⟩:=(show c9 X.prog X.w H s.heap p (.rng i j) from I.hok p _ hq)
 refine PySem.call_list_range (a:=i) (b:=j) (c:=1) (n:=(j - i).toNat) (I.ok.hd hc) ho (small_one (by omega) (by omega) (by omega) (by omega)) (by rw [rangeSize_one]; split <;> omega) (by omega) fun h' tk acc' c' kp e it=>?_
 have vv:=bc5 it
 have eq:acc'.toList.toArray=acc':=by simp
 exact⟨.ref s.heap.objs.size,_,I.laid (t':=tk) (o:=.lst (jG i (j - i).toNat)) kp (bl1 _) ⟨by rw [vD]; exact lim (by omega),acc'.toList,c',vv,by rw [eq]; exact e⟩,rfl,q _ (I.hok.fresh (bl1 _))⟩
def ag6 (ta tb:aB):aB:=fun ρ Q=>ta ρ fun x _=>tb ρ fun y _=>∃ i j:Int,x = .int i/\y = .int j/\i<=j/\-1000000<=i/\j<=1000000/\Q (.lst (gM i (j - i).toNat)) .fr
theorem bc7 {ta tb:aB} (B:Bt X.mg) (ha:QE X a ta) (hb:QE X b tb) (hc:X.calm=true:=by rfl) (hg:Gl X "list":=by rfl) (hgr:Gl X "range":=by rfl) (hs:starEach [a,b] X.env = [(false,eval a X.env),(false,eval b X.env)]:=by rfl) (hs2:starEach [b] X.env = [(false,eval b X.env)]:=by rfl)
  (he:starEach [.Call (.Name "range" p3) [a,b] [] pos2] X.env=(false,eval (.Call (.Name "range" p3) [a,b] [] pos2) X.env) :: starEach [] X.env:=by rfl) (hpl:(backTo pos (starEach [] X.env)).any (·.1)=false:=by rfl) :
  QE X (.Call (.Name "list" p2) [.Call (.Name "range" p3) [a,b] [] pos2] [] pos) (ag6 ta tb):=
 cK (B0 (bc6 hc) hg B.list PyProof.Rows.boot_list (fV (bc4 hgr B.range (fV ha (fV hb iO hs2) (by rw [hs,hs2])) hs hs2) iO he) (he:=he) (hpl:=hpl)) fun σ H Q' h=>by
  obtain ⟨W,ρ,Q,px,q,k⟩:=h
  refine⟨W,ρ,_,px,q,?_⟩
  rintro v H1 x g s r q
  refine⟨W,ρ,_,px.mono s,q,?_⟩
  rintro w H2 y g' s2 r2 ⟨i,j,rfl,rfl,h0,h1,h2,q⟩
  cases r; cases r2
  refine⟨i,j,rfl,fun r hr=>⟨r,i,j,rfl,cH,h0,h1,h2,fun l hl=>?_⟩⟩
  have S:aE H (upd (upd H2 r (.rng i j)) l (.lst (jG i (j - i).toNat))):=(((s.trans s2).trans (cA hr _)).trans (cA hl _))
  exact k _ _ _ .fr S (.lst ((((s.trans s2).trans (cA hr _))).free hl) cH (aL5 i _)) q
end
end PP
namespace Core
open PySem L2 PP
def bP (x:Bx):Int:=max (x.b - x.t) (x.r - x.l)+1
def eO (ls:List aO) (sts:List (Bx × Bx)):List Bx:=ls.map cX ++ sts.map fun s=>bL s.1 s.2
theorem bc8 {x y:Bx} (h:bA x y):bP x<=bP y:=by unfold bP; unfold bA at h; omega
theorem ag7 {ls:List aO}:∀ (sts:List (Bx × Bx)) {T:List Bx},bM (ls.map cX) sts=some T->∀ x ∈ T,x ∈ eO ls sts:=by
 refine yW (P:=fun sts=>∀ {T:List Bx},bM (ls.map cX) sts=some T->∀ x ∈ T,x ∈ eO ls sts) ?_ ?_
 ·intro T h x hx
  cases h
  unfold eO
  exact bn0 _ hx
 ·intro a s ih T h x hx
  rw [mB] at h
  cases hw:bM (ls.map cX) a with
  | none=>rw [hw] at h; cases h
  | some T1=>
   rw [hw] at h
   have h:eC s T1=some T:=h
   unfold eC at h
   split at h
   ·cases h
    have old:∀ y ∈ T1,y ∈ eO ls (a ++ [s]):=fun y hy=>by
     have:=ih hw y hy
     unfold eO at this ⊢
     rw [bm5,<- bm1]
     exact bn0 _ this
    have cut:∀ y ∈ fR T1 s,y ∈ T1:=fun y hy=>List.mem_of_mem_erase (List.mem_of_mem_erase hy)
    unfold eN at hx
    split at hx
    ·exact old x (cut x hx)
    ·rcases bn5.mp hx with z | z
     ·exact old x (cut x z)
     ·rw [bk9.mp z]
      unfold eO
      simp
   ·cases h
theorem ag8 {ls:List aO}{sts:List (Bx × Bx)}{T:List Bx} (h:bM (ls.map cX) sts=some T) {i:Nat}{s:Bx × Bx} (hs:sts[i]? = some s):∃ T1,bM (ls.map cX) (sts.take i)=some T1/\fQ T1 s=true:=by
 cases hw:bM (ls.map cX) (sts.take i) with
 | none=>
  have:=yR (b:=sts.drop i) hw
  rw [bn6,h] at this; cases this
 | some T1=>exact⟨T1,rfl,(ag3 h hs hw).1⟩
theorem bc9 {T:List Bx}{s:Bx × Bx} (ok:fQ T s=true) {x:Bx} (hx:x ∈ T):∃ y ∈ eN T s,bA x y:=by
 have hu:bL s.1 s.2 ∈ eN T s:=by
  unfold eN
  split
  ·assumption
  ·simp
 by_cases e1:x=s.1
 ·exact⟨_,hu,by rw [e1]; exact pU _ _⟩
 ·by_cases e2:x=s.2
  ·exact⟨_,hu,by rw [e2]; exact tE _ _⟩
  ·have:x ∈ fR T s:=(List.mem_erase_of_ne e2).mpr ((List.mem_erase_of_ne e1).mpr hx)
   refine⟨x,?_,bA.refl x⟩
   unfold eN
   split
   ·exact this
   ·exact bn0 _ this
theorem bd0 {T0:List Bx}{a:List (Bx × Bx)}{T1:List Bx} (h1:bM T0 a=some T1) {x:Bx} (hx:x ∈ T1):∀ (b:List (Bx × Bx)) {T:List Bx},bM T0 (a ++ b)=some T->∃ y ∈ T,bA x y:=by
 refine yW (P:=fun b=>∀ {T:List Bx},bM T0 (a ++ b)=some T->∃ y ∈ T,bA x y) ?_ ?_
 ·intro T h
  rw [bo5,h1] at h
  cases h
  exact⟨x,hx,bA.refl x⟩
 ·intro b s ih T h
  rw [<- bm1,mB] at h
  cases hw:bM T0 (a ++ b) with
  | none=>rw [hw] at h; cases h
  | some T2=>
   rw [hw] at h
   obtain ⟨y,hy,sy⟩:=ih hw
   have h:eC s T2=some T:=h
   unfold eC at h
   split at h
   ·rename_i ok
    cases h
    obtain ⟨z,hz,sz⟩:=bc9 ok hy
    exact⟨z,hz,sy.trans sz⟩
   ·cases h
theorem bd1 {ls:List aO}{sts:List (Bx × Bx)}{T:List Bx} (h:bM (ls.map cX) sts=some T) {x:Bx} (hx:x ∈ eO ls sts):∃ i T1,bM (ls.map cX) (sts.take i)=some T1/\x ∈ T1:=by
 unfold eO at hx
 rcases bn5.mp hx with z | z
 ·exact⟨0,ls.map cX,by rw [List.take_zero]; rfl,z⟩
 ·obtain ⟨s,hs,rfl⟩:=bm9.mp z
  obtain ⟨i,hi⟩:=bw4 hs
  obtain ⟨T1,hw,ok⟩:=ag8 h hi
  refine⟨i+1,eN T1 s,(ag3 h hi hw).2,?_⟩
  unfold eN
  split
  ·assumption
  ·simp
structure nX (r c:Int) (ls:List aO) (T:List Bx) (x:Bx):Prop where
 sub:∃ y ∈ T,bA x y
 alone:mH r c ls x
theorem bd2 {r c:Int}{ls:List aO}{sts:List (Bx × Bx)}{T:List Bx} (st:bY r c ls) (h:bM (ls.map cX) sts=some T) {x:Bx} (hx:x ∈ eO ls sts):nX r c ls T x:=by
 obtain ⟨i,T1,hw,hx1⟩:=bd1 h hx
 have sub:=bd0 hw hx1 (sts.drop i) (by rw [bn6]; exact h)
 refine⟨sub,?_⟩
 obtain ⟨f,rfl,h1,h2⟩:=(kQ (m8 st.1) _ hw).1
 obtain ⟨e,he,rfl⟩:=bm9.mp hx1
 have sp:=h1 e he
 have insd:∀ s ∈ e.2,s ∈ ls:=fun s hs=>h2.mem_iff.mp (List.mem_flatten.mpr ⟨e.2,bm9.mpr ⟨e,he,rfl⟩,hs⟩)
 have gs:∀ s ∈ e.2,s ∈ ls.filter (c7 e.1):=fun s hs=>bo1.mpr ⟨insd s hs,pX.mpr (sp.ins s hs)⟩
 have okk:=sp.ok
 have a:=bU.on_board st.2 insd sp (p:=(e.1.t,e.1.l)) (by unfold okX at okk; unfold aQ; dsimp only; omega)
 have b:=bU.on_board st.2 insd sp (p:=(e.1.b,e.1.r)) (by unfold okX at okk; unfold aQ; dsimp only; omega)
 unfold aQ at a b
 dsimp only at a b
 exact⟨okk,by omega,by omega,by omega,by omega,fun p hp=>(sp.full p hp).mono (bA.refl _) gs⟩
theorem ag9 {a b c d k:Int} (ab:a<=b) (cd:c<=d) (h1:b - a<=k - 2) (h2:d - c<=k - 2) (g:c - b<=2) (g':a - d<=2):max b d - min a c<=2 * k - 2:=by
 rcases Int.le_total b d with h | h <;> rcases Int.le_total a c with h' | h'
 ·rw [Int.max_eq_right h,Int.min_eq_left h']; omega
 ·rw [Int.max_eq_right h,Int.min_eq_right h']; omega
 ·rw [Int.max_eq_left h,Int.min_eq_left h']; omega
 ·rw [Int.max_eq_left h,Int.min_eq_right h']; omega
theorem ah0 {x:Bx}{k:Int} (h:bP x < k):x.b - x.t<=k - 2/\x.r - x.l<=k - 2:=by
 have a:=bA4 (x.b - x.t) (x.r - x.l)
 have b:=bw5 (x.b - x.t) (x.r - x.l)
 unfold bP at h
 generalize max (x.b - x.t) (x.r - x.l)=m at a b h
 constructor <;> omega
theorem ah1 {s e s' e' g:Int} (h:fO s e s' e'<=g):s' - e<=g/\s - e'<=g:=
 ⟨bo4 (bo4 (bA4 _ _) (bw5 _ _)) h,bo4 (bo4 (bw5 _ _) (bw5 _ _)) h⟩
theorem ah2 (s e s' e':Int):0<=fO s e s' e':=bA4 _ _
theorem bd3 {x y:Bx}{k:Int} (o1:okX x) (o2:okX y) (l1:bP x < k) (l2:bP y < k) (nr:fO x.t x.b y.t y.b+fO x.l x.r y.l y.r<=2):bP (bL x y)<=2 * k - 1:=by
 obtain ⟨a1,a2⟩:=ah0 l1
 obtain ⟨b1,b2⟩:=ah0 l2
 have n1:=ah2 x.t x.b y.t y.b
 have n2:=ah2 x.l x.r y.l y.r
 obtain ⟨g1,g2⟩:=ah1 (show fO x.t x.b y.t y.b<=2 by omega)
 obtain ⟨g3,g4⟩:=ah1 (show fO x.l x.r y.l y.r<=2 by omega)
 have u:=ag9 o1.1 o2.1 a1 b1 g1 g2
 have v:=ag9 o1.2 o2.2 a2 b2 g3 g4
 have m:bP (bL x y) - 1<=2 * k - 2:=by
  show max (max x.b y.b - min x.t y.t) (max x.r y.r - min x.l y.l)+1 - 1<=_
  rw [Int.add_sub_cancel]
  exact Int.max_le.mpr ⟨u,v⟩
 omega
theorem bd4 {ls:List aO}{sts:List (Bx × Bx)}{T:List Bx} (nd:ls.Nodup) (h:bM (ls.map cX) sts=some T) {k:Int} (k1:1<=k) {j:Nat}{x:Bx} (hj:(eO ls sts)[j]? = some x) (hx:k<=bP x) (no:∀ y ∈ (eO ls sts).take j,bP y < k):bP x<=2 * k - 1:=by
 unfold eO at hj
 by_cases hl:j < (ls.map cX).length
 ·rw [bv6 hl,bl9] at hj
  cases e:ls[j]? with
  | none=>rw [e] at hj; cases hj
  | some p=>
   rw [e] at hj
   cases hj
   unfold bP cX at *
   dsimp only at *
   omega
 ·rw [bw9 (by omega),bl9] at hj
  cases e:sts[j - (ls.map cX).length]? with
  | none=>rw [e] at hj; cases hj
  | some s=>
   rw [e] at hj
   cases hj
   obtain ⟨T1,hw,ok⟩:=ag8 h e
   obtain ⟨h1,h2,_,h4⟩:=pV.mp ok
   have il:=(bl0.mp e).1
   have xG:∀ y ∈ T1,bP y < k:=fun y hy=>by
    refine no y ?_
    have m:=ag7 _ hw y hy
    unfold eO at m ⊢
    rw [List.take_append,br4 (by omega)]
    rcases bn5.mp m with z | z
    ·exact bn0 _ z
    ·refine bn4 _ ?_
     rw [<- List.map_take]
     exact z
   have l1:=xG s.1 h1
   have l2:=xG s.2 h2
   have ow:=(kQ nd _ hw).1
   have o1:=ow.ok h1
   have o2:=ow.ok h2
   have nr:=by2 h4
   exact bd3 o1 o2 l1 l2 nr
def tU:bS:=fun xs Q=>∃ x:Bx,xs = [bK x]/\Q (.int (bP x))
def ah3:aP:=(bG (dC (aG kE (a6 (eI (b8 (a5 0) (qC (.int 2))) (b8 (a5 0) (qC (.int 0)))) (a6 (eI (b8 (a5 0) (qC (.int 3))) (b8 (a5 0) (qC (.int 1)))) aA))) (qC (.int 1))))
theorem bd5:cV ah3 ["box"] tU:=by
 rintro xs Q ⟨x,rfl,q⟩
 refine⟨_,rfl,_,_,_,rfl,rfl,rfl,_,rfl,_,_,_,rfl,rfl,rfl,x.b,x.t,rfl,rfl,_,rfl,_,_,_,rfl,rfl,rfl,_,rfl,_,_,_,rfl,rfl,rfl,x.r,x.l,rfl,rfl,_,_,rfl,_,_,rfl,rfl,trivial,?_⟩
 show Q (.int ((if x.r - x.l > x.b - x.t then x.r - x.l else x.b - x.t)+1))
 rw [tK]
 exact q
def nY:eB:=fun Ep xs Q=>∃ (r c:Int) (v:PV) (ls:List aO) (k:Int),xs = [.int r,.int c,v,.int k]/\(v = .tup (aF ls) ∨ v = .lst (aF ls))/\ls.length<=4096/\(¬ bE r c->Ep "BadBoard")/\(bE r c->¬ bY r c ls->Ep "BadSet")/\
 (bE r c->bY r c ls->∀ T,bU ls T->cR T->(∀ x,nX r c ls T x->1<=k->k<=bP x->bP x<=2 * k - 1->Q (bK x))/\((k < 1 ∨ ∀ y ∈ T,bP y < k)->Ep "NoSuch"))
def ah4 (Ep:Str->Prop):aP:=(aH (bB 4 (iZ Ep nV (a6 (a5 0) (a6 (a5 1) (a6 (a5 2) aA)))))
 (aH (bB 5 (sJ (aG kS (a6 (a5 2) aA)) (hJ (dI (a5 4)) [none,none] (gN 0 1) g9 (aG kR (a6 (a5 0) (a6 (a5 1) aA))))))
 (aH (bR (aW (rG (a5 3) (qC (.int 1)))) (dB (dI (a5 5)) (cQ 6)
   (bR (aW (rG (aG tU (a6 (a5 6) aA)) (a5 3))) (lE 6) bW)) bW)
 (lW Ep "NoSuch" (a6 (qC (.str "no grown box is so long")) aA)))))
theorem bd6 {i j:Nat}{a b:PV}{g:Bool}{ρ:bC}{Q:bC->Prop} (fa:flat a=true) (fb:flat b=true) (q:Q ((ρ.set i (some (.sh true a))).set j (some (.sh true b)))):gN i j (.tup [a,b]) g ρ Q:=by
 refine⟨_,_,rfl,?_⟩
 rw [fa,fb,Bool.or_true]
 exact q
theorem ah5 (a b:List Bx):aX a ++ aX b=aX (a ++ b):=by unfold aX iL; rw [bm5,bm5]
theorem bd7:m6 ah4 ["rows","columns","seeds","length","steps","boxes","box"] nY:=by
 rintro Ep xs Q ⟨r,c,v,ls,k,rfl,hv,hl,e1,e2,q⟩
 refine⟨_,rfl,_,rfl,_,rfl,r,c,v,ls,rfl,hv,hl,e1,e2,fun ok st sts T hw far sl=>⟨trivial,?_⟩⟩
 have nd:=m8 st.1
 obtain ⟨qg,qn⟩:=q ok st T (kQ nd _ hw).1 far
 refine⟨_,rfl,v,ls,rfl,hv,hl,?_⟩
 refine⟨_,rfl,fG sts,rfl,(fun z=>by cases z),by rw [bk8]; omega,fun i acc=>acc=aX ((sts.take i).map fun s=>bL s.1 s.2),rfl,?_,?_⟩
 ·rintro i w acc hw2 rfl
  obtain ⟨s,rfl,hs⟩:=af0 hw2
  have tk:sts.take (i+1)=sts.take i ++ [s]:=by rw [bo8,hs]; rfl
  refine bd6 (j6 _) (j6 _) ?_
  unfold g9
  dsimp only
  rw [if_pos rfl]
  refine⟨_,rfl,_,rfl,s.1,s.2,rfl,trivial,?_⟩
  rw [tk,bm5,<- ah5]
  rfl
 rintro acc rfl
 rw [bk8,bp2]
 refine⟨aX (ls.map cX),_,rfl,rfl,yU _,yU _,by rw [i7,i7,bk8,bk8]; omega,trivial,?_⟩
 rw [ah5]
 have allm:∀ y ∈ eO ls sts,nX r c ls T y:=fun y hy=>bd2 st hw hy
 refine⟨_,rfl,k,1,rfl,rfl,_,rfl,?_⟩
 show if decide (1<=k)=true then _ else _
 by_cases k1:1<=k
 ·rw [bk4 k1]
  refine b7 ⟨_,rfl,aX (eO ls sts),rfl,(fun z=>by cases z),fun i ρ=>(∀ y ∈ (eO ls sts).take i,bP y < k)/\∃ y6,ρ = [si r,si c,some (.sh (flat v) v),si k,some (.sh true (.lst (fG sts))),some (.sh true (.lst (aX (eO ls sts)))),y6],⟨fun y hy=>(by rw [List.take_zero] at hy; cases hy),none,rfl⟩,?_,?_⟩
  ·rintro i w ρ hw2 ⟨no,y6,rfl⟩
   obtain ⟨x,rfl,hx⟩:=mE hw2
   refine mC (j6 x) ?_
   refine⟨_,rfl,x,rfl,_,rfl,_,k,rfl,rfl,_,rfl,?_⟩
   show if decide (k<=bP x)=true then _ else _
   by_cases kx:k<=bP x
   ·rw [bk4 kx]
    exact b7 ⟨_,rfl,trivial,qg x (allm x (br3 hx)) k1 kx (bd4 nd hw k1 hx kx no)⟩
   ·rw [bk1 kx]
    refine aJ ⟨fun y hy=>?_,_,rfl⟩
    rw [bo8,hx] at hy
    rcases bn5.mp hy with g | g
    ·exact no y g
    ·rw [show y=x by simpa using g]; omega
  ·rintro ρ ⟨no,y6,rfl⟩
   rw [i7,bp2] at no
   exact⟨by show 1<=1000; decide,qn (.inr fun y hy=>no y (ag7 _ hw y hy))⟩
 ·rw [bk1 k1]
  exact aJ ⟨by show 1<=1000; decide,qn (.inl (by omega))⟩
def mI:bS:=fun xs Q=>∃ x:Bx,xs = [bK x]/\Q (.int (bP x))
def ah6:aP:=(bG (dC (qC (.int 1)) (aG kE (a6 (eI (b8 (a5 0) (qC (.int 2))) (b8 (a5 0) (qC (.int 0)))) (a6 (eI (b8 (a5 0) (qC (.int 3))) (b8 (a5 0) (qC (.int 1)))) aA)))))
theorem bd8:cV ah6 ["box"] mI:=by
 rintro xs Q ⟨x,rfl,q⟩
 refine⟨_,rfl,_,_,_,rfl,rfl,rfl,_,rfl,_,_,_,rfl,rfl,rfl,x.b,x.t,rfl,rfl,_,rfl,_,_,_,rfl,rfl,rfl,_,rfl,_,_,_,rfl,rfl,rfl,x.r,x.l,rfl,rfl,_,_,rfl,_,_,rfl,rfl,trivial,?_⟩
 show Q (.int (1+(if x.r - x.l > x.b - x.t then x.r - x.l else x.b - x.t)))
 rw [tK,Int.add_comm]
 exact q
def ah7:aP:=(aH (bB 6 (dC (eI (a5 4) (a5 2)) (qC (.int 1))))
 (aH (bB 7 (dC (eI (a5 5) (a5 3)) (qC (.int 1))))
 (aH (gL 8 (fL aA))
 (aH (dB (dI (a5 0)) (gN 9 10)
  (bR (jI (aW (m9 (fun i j=>decide (i<=j)) (fun i j=>decide (i<=j)) (a5 2) (a5 9) (a5 4))) (aW (m9 (fun i j=>decide (i<=j)) (fun i j=>decide (i<=j)) (a5 3) (a5 10) (a5 5)))) (iQ 8 (dY (a6 (eI (a5 9) (a5 2)) (a6 (eI (a5 10) (a5 3)) aA)))) bW))
 (bG (nC (aG fZ (a6 (aG tQ (a6 (a5 6) (a6 (a5 7) (a6 (a5 8) aA)))) aA)) (lI (a5 6) (a5 7))))))))
def ah8:aP:=(aH (nO (nR 2 3 4 5) (a5 1)) ah7)
theorem bd9 {r c:Int}{ls:List aO}{x:Bx}{Q:PV->Prop}{y3 y11 y12:Option Slot} (okb:bE r c) (st:bY r c ls) (hl:ls.length<=4096) (ok:okX x) (h1:0<=x.t) (h2:0<=x.l) (h3:x.b < r) (h4:x.r < c) (q:∀ b:Bool,(b=true ↔ mH r c ls x)->Q (.bl b)) :
  ah7 { nx:=fun _=>Q .non,rt:=Q } [some (.sh (flat (.tup (aF ls))) (.tup (aF ls))),y3,si x.t,si x.l,si x.b,si x.r,none,none,none,none,none]:=by
 have okk:=ok
 unfold okX at okk
 unfold bE at okb
 refine⟨_,rfl,_,rfl,_,_,rfl,rfl,_,_,rfl,rfl,trivial,?_⟩
 refine⟨_,rfl,_,rfl,_,_,rfl,rfl,_,_,rfl,rfl,trivial,?_⟩
 refine⟨by show 0<=1000; decide,rfl,rfl,rfl,?_⟩
 refine⟨_,rfl,aF ls,rfl,mD,fun i ρ=>∃ y11 y12:Option Slot,ρ = [some (.sh (flat (.tup (aF ls))) (.tup (aF ls))),y3,si x.t,si x.l,si x.b,si x.r,si (x.b - x.t+1),si (x.r - x.l+1),some (.own (.lst (aF (((ls.take i).filter (c7 x)).map (shift x))))),y11,y12],⟨none,none,rfl⟩,?_,?_⟩
 ·rintro i w ρ hw ⟨y11,y12,rfl⟩
  obtain ⟨l,rfl,h⟩:=lU hw
  have il:=(bl0.mp h).1
  have tk:=pF (p:=c7 x) h
  have no:c7 x l=false->aF (((ls.take i).filter (c7 x)).map (shift x))=aF (((ls.take (i+1)).filter (c7 x)).map (shift x)):=fun e=>by
   rw [e,if_neg (by decide),bo5] at tk
   rw [tk]
  have fl:=List.length_filter_le (c7 x) (ls.take i)
  rw [bz0] at fl
  refine bb9 ?_
  refine⟨_,rfl,_,rfl,x.t,l.1,rfl,rfl,?_⟩
  show if decide (x.t<=l.1)=true then _ else _
  have go:c7 x l=false->∃ u v:Option Slot,[some (.sh (flat (.tup (aF ls))) (.tup (aF ls))),y3,si x.t,si x.l,si x.b,si x.r,si (x.b - x.t+1),si (x.r - x.l+1),some (.own (.lst (aF (((ls.take i).filter (c7 x)).map (shift x))))),si l.1,si l.2] = [some (.sh (flat (.tup (aF ls))) (.tup (aF ls))),y3,si x.t,si x.l,si x.b,si x.r,si (x.b - x.t+1),si (x.r - x.l+1),some (.own (.lst (aF (((ls.take (i+1)).filter (c7 x)).map (shift x))))),u,v]:=fun e=>⟨_,_,by rw [no e]⟩
  by_cases a1:x.t<=l.1
  ·rw [bk4 a1]
   refine b7 ⟨_,rfl,x.b,rfl,_,rfl,?_⟩
   show if decide (l.1<=x.b)=true then _ else _
   by_cases a2:l.1<=x.b
   ·rw [bk4 a2]
    refine b7 ⟨_,rfl,_,rfl,x.l,l.2,rfl,rfl,?_⟩
    show if decide (x.l<=l.2)=true then _ else _
    by_cases a3:x.l<=l.2
    ·rw [bk4 a3]
     refine b7 ⟨_,rfl,x.r,rfl,_,rfl,?_⟩
     show if decide (l.2<=x.r)=true then _ else _
     by_cases a4:l.2<=x.r
     ·rw [bk4 a4]
      have b:c7 x l=true:=pX.mpr ⟨a1,a2,a3,a4⟩
      rw [b,if_pos rfl] at tk
      refine b7 ⟨_,rfl,_,rfl,_,rfl,_,_,rfl,rfl,_,rfl,_,rfl,_,_,rfl,rfl,by show 2<=1000; decide,rfl,trivial,by rw [fF,bk8]; omega,?_⟩
      refine⟨si l.1,si l.2,?_⟩
      rw [tk,bm5,<- af8]
      rfl
     ·rw [bk1 a4]
      exact aJ (go (by unfold c7; rw [bk1 a4,bn8,bn8,bn8]))
    ·rw [bk1 a3]
     exact aJ ⟨_,rfl,aJ (go (by unfold c7; rw [bk1 a3,bq2,bn8,bn8]))⟩
   ·rw [bk1 a2]
    exact aJ (aJ (go (by unfold c7; rw [bk1 a2,bq2,bn8])))
  ·rw [bk1 a1]
   exact aJ ⟨_,rfl,aJ (aJ (go (by unfold c7; rw [bk1 a1,bq2])))⟩
 ·rintro ρ ⟨y11,y12,rfl⟩
  rw [fF,bp2]
  have ok2:bE (x.b - x.t+1) (x.r - x.l+1):=by unfold bE; omega
  refine⟨_,rfl,_,rfl,_,rfl,_,_,_,_,rfl,.inr rfl,ok2,bc1 st x,fun K ord mem kl=>?_⟩
  refine⟨_,_,rfl,rfl,_,rfl,_,rfl,_,_,rfl,rfl,.inl ⟨by omega,by omega⟩,.inl ⟨_,_,rfl,rfl,trivial,?_⟩⟩
  refine q _ ?_
  show decide (((aF K).length:Int)=(x.b - x.t+1) * (x.r - x.l+1))=true ↔ _
  rw [fF,decide_eq_true_iff]
  exact bb6 ok h1 h2 h3 h4 (m8 ord) mem
def tV:bS:=fun xs Q=>∃ (r c:Int) (ls:List aO) (x:Bx),xs = [.tup (aF ls),bK x]/\bE r c/\bY r c ls/\ls.length<=4096/\mH r c ls x/\Q (.bl true)
theorem be0:cV ah8 ["seeds","box","top","left","bottom","right","high","wide","mine","row","column"] tV:=by
 rintro xs Q ⟨r,c,ls,x,rfl,okb,st,hl,al,q⟩
 refine⟨_,rfl,trivial,_,_,_,_,rfl,?_⟩
 obtain ⟨h0,h1,h2,h3,h4,_⟩:=id al
 exact bd9 (y11:=none) (y12:=none) okb st hl h0 h1 h2 h3 h4 fun b hb=>by rw [hb.mpr al]; exact q
def eD (x y:Bx):Bool:=(decide (y.t<=x.t) && (decide (x.t<=x.b) && decide (x.b<=y.b))) && (decide (y.l<=x.l) && (decide (x.l<=x.r) && decide (x.r<=y.r)))
theorem ah9 {x y:Bx} (ok:okX x):eD x y=true ↔ bA x y:=by
 unfold eD bA
 simp only [br1,bm4]
 unfold okX at ok
 exact⟨fun h=>⟨h.1.1,h.2.1,h.1.2.2,h.2.2.2⟩,fun h=>⟨⟨h.1,ok.1,h.2.2.1⟩,h.2.1,ok.2,h.2.2.2⟩⟩
theorem be1 {bs:List Bx}{x:Bx} (ok:okX x) (far:cR bs) (okb:∀ y ∈ bs,okX y) (h:∃ y ∈ bs,bA x y):(bs.filter (eD x)).length=1:=by
 obtain ⟨y,hy,sy⟩:=h
 have nd:=far.nd okb
 have:bs.filter (eD x) = [y]:=ag0 (nd.sublist List.filter_sublist) (bo1.mpr ⟨hy,(ah9 ok).mpr sy⟩) fun z hz=>by
  obtain ⟨hz1,hz2⟩:=bo1.mp hz
  have sz:=(ah9 ok).mp hz2
  have ip:aQ x (x.t,x.l):=⟨bk7 _,ok.1,bk7 _,ok.2⟩
  exact far.eq hz1 hy (tD (sz.in_ ip) (sy.in_ ip))
 rw [this]; rfl
def tW:bS:=fun xs Q=>∃ (r c:Int) (ls:List aO) (bs:List Bx) (x:Bx) (k:Int),xs = [.tup (aF ls),.lst (aX bs),bK x,.int k]/\bE r c/\bY r c ls/\ls.length<=4096/\cR bs/\(∀ y ∈ bs,okX y)/\nX r c ls bs x/\1<=k/\k<=1000/\k<=bP x/\bP x<=2 * k - 1/\Q (.bl true)
def ai0:aP:=(aH (bB 4 (qC (.int 0)))
 (aH (dB (dI (a5 1)) (nR 5 6 7 8)
  (bR (jI (aW (tT (a5 5) (b8 (a5 2) (qC (.int 0))) (b8 (a5 2) (qC (.int 2))) (a5 7))) (aW (tT (a5 6) (b8 (a5 2) (qC (.int 1))) (b8 (a5 2) (qC (.int 3))) (a5 8)))) (bB 4 (dC (a5 4) (qC (.int 1)))) bW))
 (bG (iD (nC (a5 4) (qC (.int 1))) (aG tV (a6 (a5 0) (a6 (a5 2) aA)))))))
def ai1:aP:=(aH (bR (iC (hG (aW (aG tP (a6 (fL (a6 (a5 2) aA)) (a6 (fL (a6 (a5 2) aA)) aA))))) (aW (wB (aG fZ (a6 (a5 2) aA)) (qC (.int 4))))) (bG (qC (.bl false))) bW)
 (aH (bR (iC (aW (iS (aG mI (a6 (a5 2) aA)) (a5 3))) (aW (nB (aG mI (a6 (a5 2) aA)) (eI (lI (qC (.int 2)) (a5 3)) (qC (.int 1)))))) (bG (qC (.bl false))) bW)
 ai0))
theorem be2 {i j k l:Nat}{x:Bx}{g:Bool}{ρ:bC}{Q:bC->Prop} (q:Q ((((ρ.set i (si x.t)).set j (si x.l)).set k (si x.b)).set l (si x.r))):nR i j k l (bK x) g ρ Q:=by
 refine⟨_,_,_,_,rfl,?_⟩
 rw [show flat (.int x.t)=true from rfl,show flat (.int x.l)=true from rfl,show flat (.int x.b)=true from rfl,show flat (.int x.r)=true from rfl,Bool.or_true]
 exact q
theorem be3 {r c k:Int}{ls:List aO}{bs:List Bx}{x:Bx}{Q:PV->Prop}{y1:Bool} (okb:bE r c) (st:bY r c ls) (hl:ls.length<=4096) (far:cR bs) (okbs:∀ y ∈ bs,okX y) (md:nX r c ls bs x) (q:Q (.bl true)) :
  ai0 { nx:=fun _=>Q .non,rt:=Q } [some (.sh (flat (.tup (aF ls))) (.tup (aF ls))),some (.sh y1 (.lst (aX bs))),some (.sh true (bK x)),si k,none,none,none,none,none]:=by
 have ok:=md.alone.1
 refine⟨trivial,?_⟩
 refine⟨_,rfl,aX bs,rfl,mD,fun i ρ=>∃ y5 y6 y7 y8:Option Slot,ρ = [some (.sh (flat (.tup (aF ls))) (.tup (aF ls))),some (.sh y1 (.lst (aX bs))),some (.sh true (bK x)),si k,si (((bs.take i).filter (eD x)).length:Nat),y5,y6,y7,y8],⟨none,none,none,none,rfl⟩,?_,?_⟩
 ·rintro i v ρ hv ⟨y5,y6,y7,y8,rfl⟩
  obtain ⟨y,rfl,hy⟩:=mE hv
  have tk:=pF (p:=eD x) hy
  have no:eD x y=false->((bs.take (i+1)).filter (eD x)).length=((bs.take i).filter (eD x)).length:=fun e=>by rw [tk,e,if_neg (by decide),bo5]
  have go:eD x y=false->∃ u5 u6 u7 u8:Option Slot,[some (.sh (flat (.tup (aF ls))) (.tup (aF ls))),some (.sh y1 (.lst (aX bs))),some (.sh true (bK x)),si k,si (((bs.take i).filter (eD x)).length:Nat),si y.t,si y.l,si y.b,si y.r] = [some (.sh (flat (.tup (aF ls))) (.tup (aF ls))),some (.sh y1 (.lst (aX bs))),some (.sh true (bK x)),si k,si (((bs.take (i+1)).filter (eD x)).length:Nat),u5,u6,u7,u8]:=fun e=>⟨_,_,_,_,by rw [no e]⟩
  refine be2 ?_
  refine⟨_,rfl,_,rfl,_,_,_,rfl,rfl,rfl,y.t,x.t,rfl,rfl,?_⟩
  cases a1:decide (y.t<=x.t) with
  | false=>exact aJ ⟨_,rfl,aJ (aJ (go (by unfold eD; rw [a1]; rfl)))⟩
  | true=>
   refine b7 ⟨_,rfl,_,_,_,rfl,rfl,rfl,x.b,rfl,?_⟩
   rw [bk4 ok.1]
   refine b7 ⟨_,rfl,y.b,rfl,_,rfl,?_⟩
   cases a2:decide (x.b<=y.b) with
   | false=>exact aJ (aJ (go (by unfold eD; rw [a2,bn8,bn8,bq2])))
   | true=>
    refine b7 ⟨_,rfl,_,rfl,_,_,_,rfl,rfl,rfl,y.l,x.l,rfl,rfl,?_⟩
    cases a3:decide (y.l<=x.l) with
    | false=>exact aJ ⟨_,rfl,aJ (go (by unfold eD; rw [a3,bq2,bn8]))⟩
    | true=>
     refine b7 ⟨_,rfl,_,_,_,rfl,rfl,rfl,x.r,rfl,?_⟩
     rw [bk4 ok.2]
     refine b7 ⟨_,rfl,y.r,rfl,_,rfl,?_⟩
     cases a4:decide (x.r<=y.r) with
     | false=>exact aJ (go (by unfold eD; rw [a4,bn8,bn8,bn8]))
     | true=>
      have e:eD x y=true:=by unfold eD; rw [a1,a2,a3,a4,bk4 ok.1,bk4 ok.2]; rfl
      rw [e,if_pos rfl] at tk
      refine b7 ⟨_,rfl,_,_,rfl,rfl,trivial,si y.t,si y.l,si y.b,si y.r,?_⟩
      rw [tk,bn2,bq3]
      rfl
 ·rintro ρ ⟨y5,y6,y7,y8,rfl⟩
  rw [i7,bp2,be1 ok far okbs md.sub]
  exact⟨_,rfl,.inl ⟨_,_,rfl,rfl,_,rfl,b7 ⟨_,rfl,_,rfl,r,c,ls,x,rfl,okb,st,hl,md.alone,trivial,q⟩⟩⟩
theorem be4:cV ai1 ["seeds","boxes","box","k","around","top","left","bottom","right"] tW:=by
 rintro xs Q ⟨r,c,ls,bs,x,k,rfl,okb,st,hl,far,okbs,md,k1,k2,kx,xk,q⟩
 have fl:flats [bK x]=true:=by
  show (flat (bK x) && true)=true
  rw [j6]; rfl
 refine⟨_,rfl,by show 1<=1000; decide,fl,_,rfl,by show 1<=1000; decide,fl,[x],rfl,by show 1<=4096; decide,_,rfl,aJ ⟨_,rfl,_,_,rfl,rfl,.inl ⟨_,_,rfl,rfl,_,rfl,aJ ?_⟩⟩⟩
 refine⟨_,rfl,x,rfl,_,rfl,_,_,rfl,rfl,_,rfl,?_⟩
 show if decide (bP x < k)=true then _ else _
 rw [bk1 (by omega)]
 refine aJ ⟨_,rfl,x,rfl,_,rfl,_,_,rfl,rfl,.inl ⟨by decide,by decide⟩,_,_,rfl,rfl,_,_,rfl,rfl,_,rfl,?_⟩
 show if decide (2 * k - 1 < bP x)=true then _ else _
 rw [bk1 (by omega)]
 exact aJ (be3 okb st hl far okbs md q)
def Knd (r c:Int) (ls:List aO) (kN:PV) (Q:PV->Prop):Prop:=(¬ bE r c/\Q (.str "board")) ∨ (bE r c/\¬ bY r c ls/\Q (.str "set")) ∨ (bE r c/\bY r c ls/\∃ k,kN = .int k/\(∀ T,bU ls T->cR T->k < 1 ∨ ∀ y ∈ T,bP y < k)/\Q (.str "none"))
def nZ:bS:=fun xs Q=>∃ (r c:Int) (v:PV) (ls:List aO) (kN:PV),xs = [.int r,.int c,v,kN]/\(v = .tup (aF ls) ∨ v = .lst (aF ls))/\ls.length<=4096/\(kN = .non ∨ ∃ k,kN = .int k)/\Knd r c ls kN Q
def tX:aP:=(aH (bR (iC (aW (L8 (a5 4) (qC .non))) (hG (aW (lZ "ValueError" (a5 4))))) (bG (qC (.str ""))) bW)
 (aH (bB 6 (xZ (sS (qC (.str "board")) (aG pQ (a6 (lZ "BadBoard" (a5 4)) aA))) (sS (qC (.str "set")) (aG pQ (a6 (lZ "BadSet" (a5 4)) aA)))))
 (bG (xZ (a5 6) (sS (qC (.str "none")) (aG pQ (a6 (lZ "NoSuch" (a5 4)) aA)))))))
def ai2:aP:=(aH (bB 4 (qC .non))
 (aH (xJ "HearthError" 5 (V5 (aW (L8 (a5 3) (qC .non))) (xI tS (a6 (a5 0) (a6 (a5 1) (a6 (a5 2) (a6 (dY (a6 (qC (.int 0)) (a6 (qC (.int 0)) (a6 (qC (.int 0)) (a6 (qC (.int 0)) aA))))) aA))))) (xI nY (a6 (a5 0) (a6 (a5 1) (a6 (a5 2) (a6 (a5 3) aA)))))) (bB 4 (a5 5)))
 tX))
section
variable {Q : PV → Prop} {y0 y1 y2 y3 : Option Slot}
theorem ai3 (q:Q (.str "board")):tX { nx:=fun _=>Q .non,rt:=Q } [y0,y1,y2,y3,some (.sh true (.exc "BadBoard")),none,none]:=by
 refine⟨_,rfl,rfl,_,rfl,aJ ⟨_,rfl,true,(by decide),_,rfl,aJ ?_⟩⟩
 refine⟨_,rfl,true,(by decide),.inr ⟨true,rfl,_,true,rfl,rfl,_,rfl,false,(by decide),.inr ⟨false,rfl,_,false,rfl,rfl,_,_,rfl,rfl,by decide,trivial,?_⟩⟩⟩
 exact⟨_,rfl,_,rfl,false,(by decide),.inr ⟨false,rfl,_,false,rfl,rfl,_,_,rfl,rfl,by decide,trivial,q⟩⟩
theorem ai4 (q:Q (.str "set")):tX { nx:=fun _=>Q .non,rt:=Q } [y0,y1,y2,y3,some (.sh true (.exc "BadSet")),none,none]:=by
 refine⟨_,rfl,rfl,_,rfl,aJ ⟨_,rfl,true,(by decide),_,rfl,aJ ?_⟩⟩
 refine⟨_,rfl,false,(by decide),.inr ⟨false,rfl,_,false,rfl,rfl,_,rfl,true,(by decide),.inr ⟨true,rfl,_,true,rfl,rfl,_,_,rfl,rfl,by decide,trivial,?_⟩⟩⟩
 exact⟨_,rfl,_,rfl,false,(by decide),.inr ⟨false,rfl,_,false,rfl,rfl,_,_,rfl,rfl,by decide,trivial,q⟩⟩
theorem be5 (q:Q (.str "none")):tX { nx:=fun _=>Q .non,rt:=Q } [y0,y1,y2,y3,some (.sh true (.exc "NoSuch")),none,none]:=by
 refine⟨_,rfl,rfl,_,rfl,aJ ⟨_,rfl,true,(by decide),_,rfl,aJ ?_⟩⟩
 refine⟨_,rfl,false,(by decide),.inr ⟨false,rfl,_,false,rfl,rfl,_,rfl,false,(by decide),.inr ⟨false,rfl,_,false,rfl,rfl,_,_,rfl,rfl,by decide,trivial,?_⟩⟩⟩
 exact⟨_,rfl,_,rfl,true,(by decide),.inr ⟨true,rfl,_,true,rfl,rfl,_,_,rfl,rfl,by decide,trivial,q⟩⟩
end
theorem be6:cV ai2 ["rows","columns","seeds","number","caught","e","told"] nZ:=by
 rintro xs Q ⟨r,c,v,ls,kN,rfl,hv,hl,hnum,h⟩
 refine⟨trivial,?_⟩
 rcases hnum with rfl | ⟨k,rfl⟩
 ·refine⟨_,rfl,rfl,_,rfl,b7 ⟨_,rfl,_,rfl,_,rfl,by show 4<=1000; decide,rfl,r,c,v,ls,⟨0,0,0,0⟩,rfl,hv,hl,fun no=>?_,fun ok no=>?_,fun ok st=>?_⟩⟩
  ·rcases h with ⟨_,q⟩ | ⟨ok,_⟩ | ⟨ok,_⟩
   ·exact⟨by decide,_,rfl,trivial,ai3 q⟩
   ·exact absurd ok no
   ·exact absurd ok no
  ·rcases h with ⟨z,_⟩ | ⟨_,_,q⟩ | ⟨_,st,_⟩
   ·exact absurd ok z
   ·exact⟨by decide,_,rfl,trivial,ai4 q⟩
   ·exact absurd st no
  ·rcases h with ⟨z,_⟩ | ⟨_,z,_⟩ | ⟨_,_,k,e,_⟩
   ·exact absurd ok z
   ·exact absurd st z
   ·cases e
 ·refine⟨_,rfl,rfl,_,rfl,aJ ⟨_,rfl,_,rfl,_,rfl,_,rfl,r,c,v,ls,k,rfl,hv,hl,fun no=>?_,fun ok no=>?_,fun ok st T ow far=>?_⟩⟩
  ·rcases h with ⟨_,q⟩ | ⟨ok,_⟩ | ⟨ok,_⟩
   ·exact⟨by decide,_,rfl,trivial,ai3 q⟩
   ·exact absurd ok no
   ·exact absurd ok no
  ·rcases h with ⟨z,_⟩ | ⟨_,_,q⟩ | ⟨_,st,_⟩
   ·exact absurd ok z
   ·exact⟨by decide,_,rfl,trivial,ai4 q⟩
   ·exact absurd st no
  ·rcases h with ⟨z,_⟩ | ⟨_,z,_⟩ | ⟨_,_,k',e,all,q⟩
   ·exact absurd ok z
   ·exact absurd st z
   ·cases e
    refine⟨fun x md k1 kx _=>?_,fun _=>⟨by decide,_,rfl,trivial,be5 q⟩⟩
    exfalso
    rcases all T ow far with z | z
    ·omega
    ·obtain ⟨y,hy,sy⟩:=md.sub
     have:=bc8 sy
     have:=z y hy
     omega
def yX:bS:=U3
theorem yY {r c:Int}{ls:List aO}{T T':List Bx} (st:bY r c ls) (o:bU ls T) (far:cR T) (o':bU ls T') (far':cR T') {x:Bx} (h:x ∈ T):x ∈ T':=
 yT far far' (fun _ hy=>o.ok hy) (fun _ hy=>o'.ok hy) (fun p=>(o.burnt far st.2 p).trans (o'.burnt far' st.2 p).symm) h
def ai5:aP:=(aH (bB 11 (sJ (aG oN (a6 (a5 3) aA)) (fL (a6 (dY (a6 (a5 1) (a6 (qC (.int 0)) aA))) aA))))
 (aH (dB (dI (fL (a6 (qC .non) (a6 (qC (.int 0)) aA)))) (cQ 10)
  (aH (bR (aW (q2 (pS true) (aG nZ (a6 (a5 1) (a6 (a5 2) (a6 (a5 11) (a6 (a5 10) aA))))) (qC (.str "set")))) (bG (qC (.bl false))) bW)
  (bR (aW (q2 (pS true) (aG nZ (a6 (qC (.int 0)) (a6 (a5 2) (a6 (a5 11) (a6 (a5 10) aA))))) (qC (.str "board")))) (bG (qC (.bl false))) bW)))
 (bG (qC (.bl true)))))
def ai6:aP:=(aH (bB 9 (dD (aG jV (a6 (a5 0) (a6 (qC (.int 1)) aA))) (aE3 (qC (.int 10)) (qC (.int 30)))))
 (aH (dB (dI (fL (a6 (L6 (a5 9)) (a6 (dC (dC (a5 5) (qC (.int 1))) (a5 9)) aA)))) (cQ 10)
  (bR (aW (q2 (pS true) (aG nZ (a6 (a5 1) (a6 (a5 2) (a6 (a5 3) (a6 (a5 10) aA))))) (qC (.str "none")))) (bG (qC (.bl false))) bW))
 ai5))
def ai7:aP:=(aH (vS 6 (dB (dI (a5 6)) (cQ 7)
  (aH (bB 8 (aG (nY fun _=>False) (a6 (a5 1) (a6 (a5 2) (a6 (aG oN (a6 (a5 3) aA)) (a6 (a5 7) aA))))))
  (bR (hG (aW (aG tW (a6 (a5 3) (a6 (a5 4) (a6 (a5 8) (a6 (a5 7) aA))))))) (bG (qC (.bl false))) bW))))
 ai6)
def ai8:aP:=(aH (nO (gN 1 2) (aG t7 (a6 (aG jV (a6 (a5 0) (a6 (qC (.int 0)) aA))) aA)))
 (aH (bB 3 (aG t9 (a6 (a5 0) (a6 (qC (.int 2)) (a6 (a5 1) (a6 (a5 2) aA))))))
 (aH (bB 4 (aG (nW fun _=>False) (a6 (a5 1) (a6 (a5 2) (a6 (a5 3) aA)))))
 (aH (bB 5 (aG xX (a6 (sJ (fL (a6 (qC (.int 0)) aA)) (hJ (dI (a5 4)) [none] (cQ 0) g9 (aG mI (a6 (a5 0) aA)))) aA)))
 (aH (gL 6 (ag6 (qC (.int 1)) (dC (aG mV (a6 (a5 5) (a6 (qC (.int 12)) aA))) (qC (.int 1)))))
 (aH (bR (aW (nB (a5 5) (qC (.int 12)))) (iQ 6 (a5 5)) bW)
 ai7))))))
section
variable {ns : List Int} {r c M : Int} {ls : List aO} {bs : List Bx} {Q : PV → Prop}
theorem be7 (ok:bE r c) (st:bY r c ls) (hl:ls.length<=200) (q:Q (.bl true)) (y4 y5 y6 y7 y8 y9 y10:Option Slot) :
  ai5 { nx:=fun _=>Q .non,rt:=Q } [some (.sh true (.scr ns)),si r,si c,some (.sh true (.tup (aF ls))),y4,y5,y6,y7,y8,y9,y10,none]:=by
 have no : ¬ bY r c (ls ++ [(r,0)]):=fun z=>by
  have:=eM.mp (z.2 (r,0) (by simp))
  dsimp only at this
  omega
 have nb : ¬ bE 0 c:=fun z=>by unfold bE at z; omega
 have le:(ls ++ [(r,(0:Int))]).length<=4096:=by rw [bn2,bq3]; omega
 refine⟨_,rfl,_,_,rfl,rfl,iX _,_,rfl,by show 2<=1000; decide,rfl,by show 1<=1000; decide,rfl,aF ls,_,rfl,rfl,iX _,rfl,by rw [fF]; show ls.length+1<=16000000; omega,trivial,?_⟩
 have e:aF ls ++ [PV.tup [.int r,.int 0]]=aF (ls ++ [(r,0)]):=by rw [<- af8]; rfl
 dsimp only
 refine⟨by show 2<=1000; decide,rfl,[.non,.int 0],rfl,(fun z=>by cases z),fun i ρ=>∃ y10:Option Slot,ρ = [some (.sh true (.scr ns)),si r,si c,some (.sh true (.tup (aF ls))),y4,y5,y6,y7,y8,y9,y10,some (.sh true (.lst (aF (ls ++ [(r,0)]))))],⟨y10,by rw [<- e]; rfl⟩,?_,?_⟩
 ·rintro i v ρ hv ⟨y10,rfl⟩
  have hv2:v = .non ∨ ∃ k,v = .int k:=by
   have:=br3 hv
   simp only [bk6,bl4,bo6] at this
   rcases this with rfl | rfl
   ·exact .inl rfl
   ·exact .inr ⟨_,rfl⟩
  have fv:flat v=true:=by rcases hv2 with rfl | ⟨k,rfl⟩ <;> rfl
  refine mC fv ?_
  refine⟨_,rfl,_,rfl,_,rfl,_,rfl,r,c,_,_,v,rfl,.inr rfl,le,hv2,.inr (.inl ⟨ok,no,_,_,rfl,rfl,_,rfl,aJ ?_⟩)⟩
  exact⟨_,rfl,_,rfl,_,rfl,0,c,_,_,v,rfl,.inr rfl,le,hv2,.inl ⟨nb,_,_,rfl,rfl,_,rfl,aJ ⟨_,rfl⟩⟩⟩
 ·rintro ρ ⟨y10,rfl⟩
  exact⟨trivial,q⟩
theorem be8 (hn:ns.length<=63) (ok:bE r c) (st:bY r c ls) (hl:ls.length<=200) (g:tO ls bs) (M0:0<=M) (Mx:∀ y ∈ bs,bP y<=M) (q:Q (.bl true)) (y4 y6 y7 y8:Option Slot) :
  ai6 { nx:=fun _=>Q .non,rt:=Q } [some (.sh true (.scr ns)),si r,si c,some (.sh true (.tup (aF ls))),y4,si M,y6,y7,y8,none,none,none]:=by
 refine⟨_,rfl,_,ns,1,rfl,.inl rfl,by decide,_,_,rfl,rfl,⟨by decide,by decide,by decide⟩,_,_,rfl,rfl,(by show (0:Int) < 10 ^ (30:Int).toNat; decide),trivial,?_⟩
 have f0:0<=ns.getD (1:Int).toNat 0 % 10 ^ (30:Int).toNat:=bA2 _ (by decide)
 dsimp only
 generalize ns.getD (1:Int).toNat 0 % 10 ^ (30:Int).toNat=f at f0
 refine⟨_,rfl,f,rfl,_,rfl,_,_,rfl,rfl,_,rfl,_,_,rfl,rfl,by show 2<=1000; decide,rfl,intz [-f,M+1+f],rfl,(fun z=>by cases z),fun i ρ=>∃ y10:Option Slot,ρ = [some (.sh true (.scr ns)),si r,si c,some (.sh true (.tup (aF ls))),y4,si M,y6,y7,y8,si f,y10,none],⟨none,rfl⟩,?_,?_⟩
 ·rintro i v ρ hv ⟨y10,rfl⟩
  obtain ⟨k,rfl,hk⟩:=x4 hv
  have hk:k = -f ∨ k=M+1+f:=by
   have:=br3 hk
   simpa using this
  refine xF ?_
  refine⟨_,rfl,_,rfl,_,rfl,_,rfl,r,c,_,ls,.int k,rfl,.inl rfl,by omega,.inr ⟨k,rfl⟩,.inr (.inr ⟨ok,st,k,rfl,fun T ow far=>?_,_,_,rfl,rfl,_,rfl,aJ ⟨_,rfl⟩⟩)⟩
  rcases hk with e | e
  ·exact .inl (by omega)
  ·refine .inr fun y hy=>?_
   have:=Mx y (yY st ow far g.own g.far hy)
   omega
 ·rintro ρ ⟨y10,rfl⟩
  exact be7 ok st hl q y4 (si M) y6 y7 y8 (si f) y10
theorem ai9 (hn:ns.length<=63) (ok:bE r c) (st:bY r c ls) (hl:ls.length<=200) (g:tO ls bs) (M0:0<=M) (M1:M<=1000) (Mx:∀ y ∈ bs,bP y<=M) (Mm:M=0 ∨ ∃ y ∈ bs,bP y=M) {Ls:List Int} (hL:∀ k ∈ Ls,1<=k/\k<=M) (q:Q (.bl true)) :
  ai7 { nx:=fun _=>Q .non,rt:=Q } [some (.sh true (.scr ns)),si r,si c,some (.sh true (.tup (aF ls))),some (.sh true (.lst (aX bs))),si M,some (.own (.lst (intz Ls))),none,none,none,none,none]:=by
 refine⟨_,rfl,?_⟩
 refine⟨_,rfl,intz Ls,rfl,(fun z=>by cases z),fun i ρ=>∃ y7 y8:Option Slot,ρ = [some (.sh true (.scr ns)),si r,si c,some (.sh true (.tup (aF ls))),some (.sh true (.lst (aX bs))),si M,some (.sh true (.lst (intz Ls))),y7,y8,none,none,none],⟨none,none,rfl⟩,?_,?_⟩
 ·rintro i v ρ hv ⟨y7,y8,rfl⟩
  obtain ⟨k,rfl,hk⟩:=x4 hv
  obtain ⟨k1,kM⟩:=hL k (br3 hk)
  refine xF ?_
  refine⟨_,rfl,_,rfl,_,rfl,_,_,rfl,rfl,iX _,_,rfl,r,c,_,ls,k,rfl,.inr rfl,by omega,(fun z=>z ok),(fun _ z=>z st),fun _ _ T ow far=>⟨fun x md _ kx xk=>⟨trivial,?_⟩,fun z=>?_⟩⟩
  ·have md':nX r c ls bs x:=⟨by obtain ⟨y,hy,sy⟩:=md.sub; exact⟨y,yY st ow far g.own g.far hy,sy⟩,md.alone⟩
   exact⟨_,rfl,_,rfl,_,rfl,_,rfl,r,c,ls,bs,x,k,rfl,ok,st,by omega,g.far,fun y hy=>g.own.ok hy,md',k1,by omega,kx,xk,_,rfl,aJ ⟨_,_,rfl⟩⟩
  ·rcases z with z | z
   ·omega
   ·rcases Mm with e | ⟨y,hy,e⟩
    ·omega
    ·have:=z y (yY st g.own g.far ow far hy)
     omega
 ·rintro ρ ⟨y7,y8,rfl⟩
  exact be8 hn ok st hl g M0 Mx q (some (.sh true (.lst (aX bs)))) (some (.sh true (.lst (intz Ls)))) y7 y8
end
theorem aj0 (lo:Int) (n:Nat):gM lo n=intz ((List.range n).map fun i:Nat=>lo+(i:Int)):=by unfold gM intz; rw [bq4]; rfl
theorem be9:cV ai8 ["script","rows","columns","seeds","boxes","most","lengths","k","box","far","number","odd"] yX:=by
 rintro xs Q ⟨ns,rfl,hn,q⟩
 refine⟨_,rfl,_,ns,0,rfl,.inl rfl,by decide,_,rfl,fun r c ok=>⟨trivial,_,_,rfl,?_⟩⟩
 refine⟨_,rfl,_,rfl,_,rfl,ns,2,r,c,rfl,hn,by decide,by decide,ok,fun ls st sl=>⟨trivial,?_⟩⟩
 refine⟨_,rfl,_,rfl,_,rfl,r,c,_,ls,rfl,.inl rfl,by omega,(fun z=>z ok),(fun _ z=>z st),fun _ _ bs g=>⟨trivial,?_⟩⟩
 have bl:bs.length<=200:=by have:=g.len; omega
 refine⟨by show 1<=1000; decide,rfl,_,rfl,aX bs,rfl,(fun z=>by cases z),by rw [i7]; omega,fun i acc=>acc=intz ((bs.take i).map bP),rfl,?_,?_⟩
 ·rintro i v acc hv rfl
  obtain ⟨x,rfl,hx⟩:=mE hv
  have tk:bs.take (i+1)=bs.take i ++ [x]:=by rw [bo8,hx]; rfl
  refine mC (j6 x) ?_
  unfold g9
  dsimp only
  rw [if_pos rfl]
  refine⟨_,rfl,x,rfl,trivial,?_⟩
  rw [tk,bm5,S5]
  rfl
 rintro acc rfl
 rw [i7,bp2]
 refine⟨intz [0],intz (bs.map bP),rfl,rfl,rfl,oH _,by rw [bk8,bk8,bk8]; show 1+bs.length<=16000000; omega,0 :: bs.map bP,rfl,List.cons_ne_nil _ _,fun M mem top=>⟨trivial,?_⟩⟩
 have M0:0<=M:=top 0 bl6
 have Mx:∀ y ∈ bs,bP y<=M:=fun y hy=>top _ (bl2 _ (bm9.mpr ⟨y,hy,rfl⟩))
 have Mm:M=0 ∨ ∃ y ∈ bs,bP y=M:=by
  rcases bk6.mp mem with e | e
  ·exact .inl e
  ·obtain ⟨y,hy,e⟩:=bm9.mp e
   exact .inr ⟨y,hy,e⟩
 have M1:M<=1000:=by
  rcases Mm with e | ⟨y,hy,e⟩
  ·omega
  ·have on:=g.own.on ok st.2 hy
   unfold onX at on
   unfold bP at e
   omega
 refine⟨_,rfl,M,12,rfl,_,_,rfl,rfl,1,_,rfl,rfl,?_,by decide,?_,rfl,?_,?_⟩
 ·show 1<=(if (12:Int) < M then 12 else M)+1
  split <;> omega
 ·show (if (12:Int) < M then 12 else M)+1<=1000000
  split <;> omega
 ·rw [aj0]; exact oH _
 rw [aj0]
 have hL:∀ k ∈ (List.range ((if (12:Int) < M then 12 else M)+1 - 1).toNat).map (fun i:Nat=>(1:Int)+(i:Int)),1<=k/\k<=M:=fun k hk=>by
  obtain ⟨i,hi,rfl⟩:=bm9.mp hk
  have hi:=List.mem_range.mp hi
  split at hi <;> omega
 have len:((List.range ((if (12:Int) < M then 12 else M)+1 - 1).toNat).map (fun i:Nat=>(1:Int)+(i:Int))).length<=12:=by
  rw [bk8,List.length_range]
  split <;> omega
 generalize (List.range ((if (12:Int) < M then 12 else M)+1 - 1).toNat).map (fun i:Nat=>(1:Int)+(i:Int))=Ls at hL len
 refine⟨_,rfl,M,12,rfl,rfl,_,rfl,?_⟩
 show if decide (12 < M)=true then _ else _
 by_cases m12:12 < M
 ·rw [bk4 m12]
  refine b7 ⟨_,rfl,_,rfl,trivial,by rw [bk8]; omega,?_⟩
  have e:intz Ls ++ [.int M]=intz (Ls ++ [M]):=by rw [S5]; rfl
  have:=ai9 (Ls:=Ls ++ [M]) hn ok st sl g M0 M1 Mx Mm (fun k hk=>(bn5.mp hk).elim (hL k) fun z=>by rw [bk9.mp z]; omega) q
  rw [<- e] at this
  exact this
 ·rw [bk1 m12]
  exact aJ (ai9 hn ok st sl g M0 M1 Mx Mm hL q)
end Core
namespace K_k67
open PySem PySem.W L2 PP Core
theorem _root_.L2.FnScope.au {N P:List Str}{s:Scope} (a:s.kind=.function:=by rfl) (b:s.isCoroutine=false:=by rfl) (c:s.isGenerator=false:=by rfl) (d:N.Nodup:=by decide +kernel) (e:N.take P.length=P:=by rfl) (f:∀ x∈P,s.names.lookup x=some .local∨s.names.lookup x=some .cell:=by decide +kernel) (g:∀ y∈s.names,y.2≠.free:=by decide +kernel):FnScope N P s:=⟨a,b,c,d,e,f,g⟩
def top (i:Nat):Stmt:=PySem.Challenge.pw_kindleweb_k67_whole_middling_boxes.main.body.getD i (.Pass ⟨0,0,0,0⟩)
structure FK (K:Frag) (n:Str) (i:Nat) (f:Addr) (d:FuncData):Prop where
 a:nsIn K mainGlobals n=some (some (.ref f))
 F:gH K n n (top i) f d
structure FM (K:Frag) (mg:Str->Option Value) (n:Str) (i:Nat) (f:Addr) (d:FuncData):Prop where
 F:gH K n n (top i) f d
 m:mg n=some (.ref f)
theorem FK.M {K:Frag}{mg:Str->Option Value}{n:Str}{i:Nat}{f:Addr}{d:FuncData}{h:Heap} (z:FK K n i f d) (X:K.In h) (G:h.Ns mainGlobals mg):FM K mg n i f d:=⟨z.F,mg_of X G z.a⟩
abbrev Hb (x:Str) (ps:List Str) (i:Nat):Prop:=∀ (kV doc pm:Value) (an:Option Addr) (cdv ct:Value) (us:List Value),us.length=ps.length->bindArgs (fnOf x x (jE (top i)) (eV (top i)) (aY (top i)) .none kV doc pm an cdv ct) ⟨us,[]⟩=pure (ps.zip us)
theorem pY {A:Around}{k:Nat} (hr:cE k A):A.units+3 < cLine:=by have:=hr.units; omega
section
variable {P : Program} {w : World} {K : Frag} {mg : Str → Option Value} {base : Heap} {f : Addr} {fd : FuncData} {k i : Nat} {x : Str} {ps N : List Str}
theorem Df.au {p:bS} (F:FM K mg x i f fd) (S:FnScope N ps (aY (top i))) (body:∀ (cdv:Value) (A:Around) (outer:List Env) (s:Shared) (H:Hp) (E:XK),cE k (A.deeper (PyProof.Rows.envOfC x (aY (top i)) s.heap.objs.size f cdv))->∃ t,eJ (dH fJ P w K mg base N x (aY (top i)) f cdv A outer s H E).nox (eV (top i)) t/\∀ xs Q,p xs Q->t { nx:=fun _=>Q .non,rt:=Q } (fD N xs)) (hb:Hb x ps i:=by intro _ _ _ _ _ _ us hl; first | (obtain ⟨_,rfl⟩:=xQ hl; rfl) | (obtain ⟨_,_,rfl⟩:=xR hl; rfl) | (obtain ⟨_,_,_,rfl⟩:=xS hl; rfl) | (obtain ⟨_,_,_,_,rfl⟩:=V9 hl; rfl) | (obtain ⟨_,_,_,_,_,rfl⟩:=us5 hl; rfl)) (len:∀ xs Q,p xs Q->xs.length=ps.length:=by intro xs Q h; repeat (first | (obtain ⟨rfl,_⟩:=h; rfl) | (obtain ⟨_,h⟩:=h))):Df P w K mg base (k+1) x ps p:=
 Df.of F.F F.m S hb len body
theorem bX.au {p:eB} (F:FM K mg x i f fd) (S:FnScope N ps (aY (top i))) (t:(Str->Prop)->aP) (rd:∀ Ep xs Q,p Ep xs Q->t Ep { nx:=fun _=>Q .non,rt:=Q } (fD N xs)) (body:∀ (cdv:Value) (A:Around) (outer:List Env) (s:Shared) (H:Hp) (E:XK) (Ep:Str->Prop),cE k (A.deeper (PyProof.Rows.envOfC x (aY (top i)) s.heap.objs.size f cdv))->nM (dH (e9 P w) P w K mg base N x (aY (top i)) f cdv A outer s H E) (EX K H Ep)->eJ (dH (e9 P w) P w K mg base N x (aY (top i)) f cdv A outer s H E) (eV (top i)) (t Ep)) (hb:Hb x ps i:=by intro _ _ _ _ _ _ us hl; first | (obtain ⟨_,rfl⟩:=xQ hl; rfl) | (obtain ⟨_,_,rfl⟩:=xR hl; rfl) | (obtain ⟨_,_,_,rfl⟩:=xS hl; rfl) | (obtain ⟨_,_,_,_,rfl⟩:=V9 hl; rfl) | (obtain ⟨_,_,_,_,_,rfl⟩:=us5 hl; rfl)) (len:∀ Ep xs Q,p Ep xs Q->xs.length=ps.length:=by intro Ep xs Q h; repeat (first | (obtain ⟨rfl,_⟩:=h; rfl) | (obtain ⟨_,h⟩:=h))):bX P w K mg base (k+1) x ps p:=
 bX.of F.F F.m S hb t len rd body
end
section
variable {P : Program} {w : World} {K : Frag} {mg : Str → Option Value} {base : Heap} {f : Addr} {fd : FuncData}
theorem bf0:FnScope ["things"] ["things"] (aY (top 7)):=.au
theorem U0 (B:Bt mg) (F:FM K mg "rises" 7 f fd)  : Df P w K mg base 1 "rises" ["things"] sY:=
 Df.au F bf0 (fun cdv A outer s H E hr=>by
  have hu:=oF hr
  exact⟨(Z1),(aN (bI (N3 B rfl (a8 (xE (N:=["ahead","behind"]) (fr:=[none,none]) (aT0 B (qv 0) (N9 (qv 0) (N8 a9) N7)) (fun _ _ _ _=>(aS6 hu (qv 0) (qv 1)))) aC)))),aT3⟩)
theorem aj1:FnScope ["hearths","inside","hearth"] ["hearths"] (aY (top 8)):=.au
theorem bf1 (B:Bt mg) (F:FM K mg "marked" 8 f fd)  : Df P w K mg base 1 "marked" ["hearths"] tM:=
 Df.au F aj1 (fun cdv A outer s H E hr=>by
  have nd:=aj1.nd
  have hu:=oF hr
  exact⟨(ae6),(aI (iF (i:=1) nd wF)
   (aI (gB 2 nd (dX (qv 0))
    (aN (oY hu (i:=1) (qv 2) eL)))
   (aN (oX 1)))),ba5⟩)
theorem bf2:FnScope ["rows","columns"] ["rows","columns"] (aY (top 11)):=.au
theorem bf3 (B:Bt mg) (F:FM K mg "looked_through" 11 f fd) (x_BadBoard:Xc K mg base "BadBoard") {u_MOST_ROWS:Nat} (m_MOST_ROWS:mg "MOST_ROWS" = some (.int 40 u_MOST_ROWS)):bX P w K mg base 1 "looked_through" ["rows","columns"] sZ:=
 bX.au F bf2 Z2 aT4 (fun cdv A outer s H E Ep hr hX=>by
  exact (aN (cC (fM (jO (lN (rL B rfl (a8 (qv 0) (a8 (qv 1) aC))) a9) (jN (oV (nF B rfl (a8 (qv 0) (a8 (qv 1) aC))) (U7 rfl m_MOST_ROWS))))) (aN (pM hX x_BadBoard (a8 hU aC))) cF)))
theorem bf4:FnScope ["rows","columns","cell"] ["rows","columns","cell"] (aY (top 12)):=.au
theorem bf5 (B:Bt mg) (F:FM K mg "is_cell" 12 f fd)  : Df P w K mg base 1 "is_cell" ["rows","columns","cell"] t0:=
 Df.au F bf4 (fun cdv A outer s H E hr=>by
  exact⟨(Z3),(aN (bI (jP (M6 (b9 (qv 2) a9) a9) (jP (M5 (b9 (qv 2) a9) (qv 0)) (jP (M6 (b9 (qv 2) a9) a9) (oW (M5 (b9 (qv 2) a9) (qv 1)))))))),aT5⟩)
theorem bf6:FnScope ["start","end","other_start","other_end"] ["start","end","other_start","other_end"] (aY (top 17)):=.au
theorem bf7 (B:Bt mg) (F:FM K mg "gap" 17 f fd)  : Df P w K mg base 1 "gap" ["start","end","other_start","other_end"] pW:=
 Df.au F bf6 (fun cdv A outer s H E hr=>by
  exact⟨(ad3),(aN (bI (aW8 B rfl (a8 a9 (a8 (fE (qv 2) (qv 1)) (a8 (fE (qv 0) (qv 3)) aC)))))),aZ5⟩)
theorem bf8:FnScope ["one","other"] ["one","other"] (aY (top 18)):=.au
theorem bf9 (B:Bt mg) (F:FM K mg "hull_of" 18 f fd)  : Df P w K mg base 1 "hull_of" ["one","other"] kR:=
 Df.au F bf8 (fun cdv A outer s H E hr=>by
  exact⟨(ad5),(aN (bI (gA (a8 (rL B rfl (a8 (b9 (qv 0) a9) (a8 (b9 (qv 1) a9) aC))) (a8 (rL B rfl (a8 (b9 (qv 0) a9) (a8 (b9 (qv 1) a9) aC))) (a8 (nF B rfl (a8 (b9 (qv 0) a9) (a8 (b9 (qv 1) a9) aC))) (a8 (nF B rfl (a8 (b9 (qv 0) a9) (a8 (b9 (qv 1) a9) aC))) aC))))))),aZ7⟩)
theorem bg0:FnScope ["cells"] ["cells"] (aY (top 19)):=.au
theorem bg1 (B:Bt mg) (F:FM K mg "cell_boxes" 19 f fd)  : Df P w K mg base 1 "cell_boxes" ["cells"] kS:=
 Df.au F bg0 (fun cdv A outer s H E hr=>by
  exact⟨(ad7),(aN (bI (xE (N:=["row","column"]) (fr:=[none,none]) (dX (qv 0)) (fun _ _ _ _=>(gA (a8 (qv 0) (a8 (qv 1) (a8 (qv 0) (a8 (qv 1) aC))))))))),aZ8⟩)
theorem bg2:FnScope ["box","cell"] ["box","cell"] (aY (top 26)):=.au
theorem bg3 (B:Bt mg) (F:FM K mg "has_cell" 26 f fd)  : Df P w K mg base 1 "has_cell" ["box","cell"] tR:=
 Df.au F bg2 (fun cdv A outer s H E hr=>by
  exact⟨(ag1),(aN (bI (jP (oU (b9 (qv 0) a9) (b9 (qv 1) a9)) (jP (oU (b9 (qv 1) a9) (b9 (qv 0) a9)) (jP (oU (b9 (qv 0) a9) (b9 (qv 1) a9)) (oW (oU (b9 (qv 1) a9) (b9 (qv 0) a9)))))))),bb7⟩)
theorem bg4:FnScope ["box"] ["box"] (aY (top 28)):=.au
theorem bg5 (B:Bt mg) (F:FM K mg "length_of" 28 f fd)  : Df P w K mg base 1 "length_of" ["box"] tU:=
 Df.au F bg4 (fun cdv A outer s H E hr=>by
  exact⟨(ah3),(aN (bI (dE (nF B rfl (a8 (fE (b9 (qv 0) a9) (b9 (qv 0) a9)) (a8 (fE (b9 (qv 0) a9) (b9 (qv 0) a9)) aC))) a9))),bd5⟩)
theorem bg6:FnScope ["script","k"] ["script","k"] (aY (top 30)):=.au
theorem bg7 (B:Bt mg) (F:FM K mg "_law_cell" 30 f fd)  : Df P w K mg base 1 "_law_cell" ["script","k"] jV:=
 Df.au F bg6 (fun cdv A outer s H E hr=>by
  exact⟨(T5),(aI (cC (lN (qv 1) (iG B (a8 (qv 0) aC))) (aN (bI (b9 (qv 0) (qv 1)))) cF)
   (aN (bI a9))),aL3⟩)
theorem bg8:FnScope ["found"] ["found"] (aY (top 32)):=.au
theorem bg9 (B:Bt mg) (F:FM K mg "_law_whole" 32 f fd)  : Df P w K mg base 1 "_law_whole" ["found"] sG:=
 Df.au F bg8 (fun cdv A outer s H E hr=>by
  exact⟨(T6 K),(aN (bI (jP (aF3 B (qv 0)) (oW (aE5 (aF4 B (qv 0))))))),aL4 (pL K).ii (pL K).ib⟩)
theorem aj2:FnScope ["cell","rows","columns"] ["cell"] (aY (top 34)):=.au
theorem bh0 (B:Bt mg) (F:FM K mg "_law_lines" 34 f fd)  : Df P w K mg base 1 "_law_lines" ["cell"] t7:=
 Df.au F aj2 (fun cdv A outer s H E hr=>by
  have nd:=aj2.nd
  exact⟨(aa9),(aI (bH (i:=1) nd (dE a9 (dJ (qv 0) a9)))
   (aI (bH (i:=2) nd (dE a9 (dJ (hV (qv 0) a9) a9)))
   (aI (cC (rJ (dJ (hV (qv 0) a9) a9) a9) (aI (bH (i:=1) nd (dE a9 (dJ (hV (qv 0) a9) a9)))
    (aN (bH (i:=2) nd (dE a9 (dJ (hV (qv 0) a9) a9))))) cF)
   (aN (bI (gA (a8 (qv 1) (a8 (qv 2) aC)))))))),aU4⟩)
theorem aj3:FnScope ["rows","columns","cell","row","column","around"] ["rows","columns","cell"] (aY (top 36)):=.au
theorem bh1 (B:Bt mg) (F:FM K mg "_law_beside" 36 f fd)  : Df P w K mg base 1 "_law_beside" ["rows","columns","cell"] t6:=
 Df.au F aj3 (fun cdv A outer s H E hr=>by
  have nd:=aj3.nd
  exact⟨(aa8),(aI (V0 3 4 nd (qv 2))
   (aI (bH (i:=5) nd (gP (a8 (gA (a8 (fE (qv 3) a9) (a8 (qv 4) aC))) (a8 (gA (a8 (qv 3) (a8 (fE (qv 4) a9) aC))) (a8 (gA (a8 (qv 3) (a8 (dE (qv 4) a9) aC))) (a8 (gA (a8 (dE (qv 3) a9) (a8 (qv 4) aC))) aC))))))
   (aN (bI (aG0 (N:=["one","rows","columns"]) (fr:=[none,some 0,some 1]) (dX (qv 5)) (fun _ _ _ _=>(fM (nE (Z9 a9 (b9 (qv 0) a9) (qv 1)) (nD (Z9 a9 (b9 (qv 0) a9) (qv 2)))))) (fun _ _ _ _=>(qv 0))))))),aU3⟩)
theorem bh2:FnScope ["box"] ["box"] (aY (top 38)):=.au
theorem bh3 (B:Bt mg) (F:FM K mg "_law_length" 38 f fd)  : Df P w K mg base 1 "_law_length" ["box"] mI:=
 Df.au F bh2 (fun cdv A outer s H E hr=>by
  exact⟨(ah6),(aN (bI (dE a9 (nF B rfl (a8 (fE (b9 (qv 0) a9) (b9 (qv 0) a9)) (a8 (fE (b9 (qv 0) a9) (b9 (qv 0) a9)) aC)))))),bd8⟩)
theorem bh4:FnScope ["rows","columns","cells"] ["rows","columns","cells"] (aY (top 13)):=.au
theorem bh5 (B:Bt mg) (F:FM K mg "made_cells" 13 f fd) (d_looked_through:bX P w K mg base 1 "looked_through" ["rows","columns"] sZ) (d_rises:Df P w K mg base 1 "rises" ["things"] sY) (d_is_cell:Df P w K mg base 1 "is_cell" ["rows","columns","cell"] t0) (x_BadSet:Xc K mg base "BadSet"):bX P w K mg base 2 "made_cells" ["rows","columns","cells"] kK:=
 bX.au F bh4 Z4 aT6 (fun cdv A outer s H E Ep hr hX=>by
  exact (aI (aE8 (kJ hX d_looked_through hr (a8 (qv 0) (a8 (qv 1) aC))))
   (aI (cC (fM (jO (iU (hZ (bJ d_rises hr (a8 (qv 2) aC)))) (jN (iU (hZ (N3 B rfl (a8 (O2 (N:=["cell","rows","columns"]) (fr:=[none,some 0,some 1]) (dX (qv 2)) (fun _ _ _ _=>(bJ d_is_cell hr (a8 (qv 1) (a8 (qv 2) (a8 (qv 0) aC)))))) aC))))))) (aN (pM hX x_BadSet (a8 hU aC))) cF)
   (aN (bI (rK B (a8 (qv 2) aC)))))))
theorem aj4:FnScope ["one","other","between_rows","between_columns"] ["one","other"] (aY (top 16)):=.au
theorem bh6 (B:Bt mg) (F:FM K mg "near_boxes" 16 f fd) (d_gap:Df P w K mg base 1 "gap" ["start","end","other_start","other_end"] pW) {u_MOST_STEPS_APART:Nat} (m_MOST_STEPS_APART:mg "MOST_STEPS_APART" = some (.int 2 u_MOST_STEPS_APART)):Df P w K mg base 2 "near_boxes" ["one","other"] nT:=
 Df.au F aj4 (fun cdv A outer s H E hr=>by
  have nd:=aj4.nd
  exact⟨(ad4),(aI (bH (i:=2) nd (bJ d_gap hr (a8 (b9 (qv 0) a9) (a8 (b9 (qv 0) a9) (a8 (b9 (qv 1) a9) (a8 (b9 (qv 1) a9) aC))))))
   (aI (bH (i:=3) nd (bJ d_gap hr (a8 (b9 (qv 0) a9) (a8 (b9 (qv 0) a9) (a8 (b9 (qv 1) a9) (a8 (b9 (qv 1) a9) aC))))))
   (aN (bI (oU (dE (qv 2) (qv 3)) (U7 rfl m_MOST_STEPS_APART)))))),aZ6⟩)
theorem aj5:FnScope ["script","k","stir"] ["script","k"] (aY (top 31)):=.au
theorem bh7 (B:Bt mg) (F:FM K mg "_law_number" 31 f fd) (d__law_cell:Df P w K mg base 1 "_law_cell" ["script","k"] jV):Df P w K mg base 2 "_law_number" ["script","k"] t8:=
 Df.au F aj5 (fun cdv A outer s H E hr=>by
  have nd:=aj5.nd
  exact⟨(ab0),(aI (cC (lN (qv 1) (iG B (a8 (qv 0) aC))) (aN (bI (b9 (qv 0) (qv 1)))) cF)
   (aI (bH (i:=2) nd (dJ (lL (dE (dE (dJ (bJ d__law_cell hr (a8 (qv 0) (a8 (dJ (qv 1) (nF B rfl (a8 a9 (a8 (iG B (a8 (qv 0) aC)) aC)))) aC))) a9) (lL a9 (qv 1))) a9) a9) a9))
   (aN (bI (hV (dJ (lL (qv 2) (qv 2)) a9) a9))))),aU5⟩)
theorem aj6:FnScope ["found","due","k","number"] ["found","due"] (aY (top 33)):=.au
theorem bh8 (B:Bt mg) (F:FM K mg "_law_boxes_are" 33 f fd) (d__law_whole:Df P w K mg base 1 "_law_whole" ["found"] sG):Df P w K mg base 2 "_law_boxes_are" ["found","due"] tP:=
 Df.au F aj6 (fun cdv A outer s H E hr=>by
  have nd:=aj6.nd
  have hu3:=pY hr
  exact⟨(af7 K),(aI (cC (fM (jO (iU (hZ (aF5 B (qv 0)))) (jN (wD (iG B (a8 (qv 0) aC)) (iG B (a8 (qv 1) aC)))))) (aN (bI eL)) cF)
   (aI (gB 2 nd (wH rfl B.range (iG B (a8 (qv 1) aC)))
    (aI (cC (fM (jO (iU (hZ (N5 B (b9 (qv 0) (qv 2))))) (jN (aF8 hu3 (b9 (qv 0) (qv 2)) (b9 (qv 1) (qv 2)))))) (aN (bI eL)) cF)
    (aN (gB 3 nd (dX (b9 (qv 0) (qv 2)))
     (aN (cC (iU (hZ (bJ d__law_whole hr (a8 (qv 3) aC)))) (aN (bI eL)) cF))))))
   (aN (bI eL)))),bb2 (pL K).ll (pL K).tt⟩)
theorem aj7:FnScope ["rows","columns","seeds","met","burning","line","seed","at","other"] ["rows","columns","seeds"] (aY (top 37)):=.au
theorem bh9 (B:Bt mg) (F:FM K mg "_law_burnt" 37 f fd) (d__law_beside:Df P w K mg base 1 "_law_beside" ["rows","columns","cell"] t6):Df P w K mg base 2 "_law_burnt" ["rows","columns","seeds"] tQ:=
 Df.au F aj7 (fun cdv A outer s H E hr=>by
  have nd:=aj7.nd
  have hu:=oF hr
  exact⟨(af9),(aI (iF (i:=3) nd wF)
   (aI (iF (i:=4) nd wF)
   (aI (iF (i:=5) nd (wJ B (a8 (qv 2) aC)))
   (aI (gB 6 nd (dX (qv 2))
    (aN (oY hu (i:=4) (qv 6) eL)))
   (aI (bH (i:=7) nd a9)
   (aI (N1 PassesOwn.never (lN (qv 7) (iG B (a8 (qv 5) aC)))
    (aI (gB 8 nd (dX (bJ d__law_beside hr (a8 (qv 0) (a8 (qv 1) (a8 (b9 (qv 5) (qv 7)) aC)))))
     (aI (oY hu (i:=3) (qv 8) (dE (aT9 hu (qv 3) (qv 8) a9) a9))
     (aN (cC (fM (nE (oV (aE6 hu (qv 3) (qv 8)) a9) (nD (wE hu (qv 8) (qv 4))))) (aI (oY hu (i:=4) (qv 8) eL)
      (aN (lO 5 (qv 8)))) cF))))
    (aN (bH (i:=7) nd (dE (qv 7) a9)))))
   (aN (bI (rK B (a8 (W5 B (a8 (qv 5) aC)) aC)))))))))),bb3⟩)
theorem aj8:FnScope ["boxes","box","other"] ["boxes","box"] (aY (top 22)):=.au
theorem bi0 (B:Bt mg) (F:FM K mg "first_near" 22 f fd) (d_near_boxes:Df P w K mg base 2 "near_boxes" ["one","other"] nT):Df P w K mg base 3 "first_near" ["boxes","box"] mF:=
 Df.au F aj8 (fun cdv A outer s H E hr=>by
  have nd:=aj8.nd
  exact⟨(ad8),(aI (gB 2 nd (dX (qv 0))
    (aN (cC (hZ (bJ d_near_boxes hr (a8 (qv 2) (a8 (qv 1) aC)))) (aN (oX 2)) cF)))
   (aN (bI lK))),ba0⟩)
theorem bi1:FnScope ["there","step"] ["there","step"] (aY (top 24)):=.au
theorem bi2 (B:Bt mg) (F:FM K mg "may_be_done" 24 f fd) (d_near_boxes:Df P w K mg base 2 "near_boxes" ["one","other"] nT):Df P w K mg base 3 "may_be_done" ["there","step"] tL:=
 Df.au F bi1 (fun cdv A outer s H E hr=>by
  have hu:=oF hr
  have hu3:=pY hr
  exact⟨(ae5 K),(aI (cC (fM (jO (iU (hZ (N5 B (qv 1)))) (jN (wD (iG B (a8 (qv 1) aC)) a9)))) (aN (bI eL)) cF)
   (aI (cC (fM (jO (wE hu (b9 (qv 1) a9) (qv 0)) (jN (wE hu (b9 (qv 1) a9) (qv 0))))) (aN (bI eL)) cF)
   (aN (bI (jP (aS3 hu3 (b9 (qv 1) a9) (b9 (qv 1) a9)) (oW (bJ d_near_boxes hr (a8 (b9 (qv 1) a9) (a8 (b9 (qv 1) a9) aC))))))))),ba4 (pL K).tt⟩)
theorem aj9:FnScope ["script","at","rows","columns","cell","seeds","place","many","row","column","k"] ["script","at","rows","columns"] (aY (top 35)):=.au
theorem bi3 (B:Bt mg) (F:FM K mg "_law_seeds" 35 f fd) (d__law_cell:Df P w K mg base 1 "_law_cell" ["script","k"] jV) (d__law_number:Df P w K mg base 2 "_law_number" ["script","k"] t8):Df P w K mg base 3 "_law_seeds" ["script","at","rows","columns"] t9:=
 Df.au F aj9 (fun cdv A outer s H E hr=>by
  have nd:=aj9.nd
  have hu3:=pY hr
  exact⟨(ab1),(aI (bH (i:=4) nd (bJ d__law_cell hr (a8 (qv 0) (a8 (qv 1) aC))))
   (aI (cC (fM (nE (rJ (dJ (qv 4) a9) a9) (nD (lN (lL (qv 2) (qv 3)) a9)))) (aI (iF (i:=5) nd (gP aC))
    (aI (gB 6 nd (wH rfl B.range (lL (qv 2) (qv 3)))
     (aI (bH (i:=4) nd (hV (qv 4) a9))
     (aN (cC (rJ (dJ (qv 4) a9) a9) (aN (lO 5 (gA (a8 (hV (qv 6) (qv 3)) (a8 (dJ (qv 6) (qv 3)) aC))))) cF))))
    (aN (bI (rK B (a8 (qv 5) aC)))))) cF)
   (aI (bH (i:=7) nd (fE (iG B (a8 (qv 0) aC)) (qv 1)))
   (aI (cC (lN (qv 7) a9) (aN (bH (i:=7) nd a9)) cF)
   (aI (iF (i:=5) nd (gP aC))
   (aI (bH (i:=8) nd a9)
   (aI (bH (i:=9) nd a9)
   (aI (gB 10 nd (wH rfl B.range (qv 7))
    (aI (bH (i:=4) nd (bJ d__law_number hr (a8 (qv 0) (a8 (dE (qv 1) (qv 10)) aC))))
    (aI (cC (rJ (dJ (qv 4) a9) a9) (aI (bH (i:=8) nd (dJ (hV (qv 4) a9) (qv 2)))
     (aN (bH (i:=9) nd (dJ (hV (qv 4) a9) (qv 3))))) (aI (bH (i:=8) nd (dJ (fE (dE (qv 8) (dJ (hV (qv 4) a9) a9)) a9) (qv 2)))
     (aN (bH (i:=9) nd (dJ (fE (dE (qv 9) (dJ (hV (qv 4) a9) a9)) a9) (qv 3))))))
    (aN (cC (fM (nE (aR7 hu3 (gA (a8 (qv 8) (a8 (qv 9) aC))) (qv 5)) (nD (oV (dJ (hV (qv 4) a9) a9) a9)))) (aN (lO 5 (gA (a8 (qv 8) (a8 (qv 9) aC))))) cF)))))
   (aN (bI (rK B (a8 (W5 B (a8 (qv 5) aC)) aC)))))))))))),aU8⟩)
theorem ak0:FnScope ["seeds","box","top","left","bottom","right","high","wide","mine","row","column"] ["seeds","box"] (aY (top 39)):=.au
theorem bi4 (B:Bt mg) (F:FM K mg "_law_alone" 39 f fd) (d__law_burnt:Df P w K mg base 2 "_law_burnt" ["rows","columns","seeds"] tQ):Df P w K mg base 3 "_law_alone" ["seeds","box"] tV:=
 Df.au F ak0 (fun cdv A outer s H E hr=>by
  have nd:=ak0.nd
  exact⟨(ah8),(aI (aX8 2 3 4 5 nd (qv 1))
   (aI (bH (i:=6) nd (dE (fE (qv 4) (qv 2)) a9))
   (aI (bH (i:=7) nd (dE (fE (qv 5) (qv 3)) a9))
   (aI (iF (i:=8) nd (gP aC))
   (aI (O0 9 10 nd (dX (qv 0))
    (aN (cC (fM (nE (aa0 (qv 2) (qv 9) (qv 4)) (nD (aa0 (qv 3) (qv 10) (qv 5))))) (aN (lO 8 (gA (a8 (fE (qv 9) (qv 2)) (a8 (fE (qv 10) (qv 3)) aC))))) cF)))
   (aN (bI (M7 (iG B (a8 (bJ d__law_burnt hr (a8 (qv 6) (a8 (qv 7) (a8 (qv 8) aC)))) aC)) (lL (qv 6) (qv 7)))))))))),be0⟩)
theorem ak1:FnScope ["rows","columns","seeds","settled","steps","box","growing","close"] ["rows","columns","seeds"] (aY (top 21)):=.au
theorem bi5 (B:Bt mg) (F:FM K mg "growth" 21 f fd) (d_cell_boxes:Df P w K mg base 1 "cell_boxes" ["cells"] kS) (d_made_cells:bX P w K mg base 2 "made_cells" ["rows","columns","cells"] kK) (d_first_near:Df P w K mg base 3 "first_near" ["boxes","box"] mF) (d_hull_of:Df P w K mg base 1 "hull_of" ["one","other"] kR):bX P w K mg base 4 "growth" ["rows","columns","seeds"] nV:=
 bX.au F ak1 af1 ba9 (fun cdv A outer s H E Ep hr hX=>by
  have nd:=ak1.nd
  have hu3:=pY hr
  exact (aI (iF (i:=3) nd (gP aC))
   (aI (iF (i:=4) nd (gP aC))
   (aI (gB 5 (hp:=hX.own) nd (dX (bJ d_cell_boxes hr (a8 (kJ hX d_made_cells hr (a8 (qv 0) (a8 (qv 1) (a8 (qv 2) aC)))) aC)))
    (aI (bH (i:=6) nd (qv 5))
    (aI (bH (i:=7) nd (bJ d_first_near hr (a8 (qv 3) (a8 (qv 6) aC))))
    (aI (N1 hX.own (N0 (qv 7) lK)
     (aI (lO 4 (gA (a8 (aX1 B rfl hu3 (a8 (qv 6) (a8 (qv 7) aC))) (a8 (aX2 B rfl hu3 (a8 (qv 6) (a8 (qv 7) aC))) aC))))
     (aI (bH (i:=6) nd (bJ d_hull_of hr (a8 (qv 6) (a8 (qv 7) aC))))
     (aI (aX7 3 hu3 (qv 7))
     (aN (bH (i:=7) nd (bJ d_first_near hr (a8 (qv 3) (a8 (qv 6) aC)))))))))
    (aN (lO 3 (qv 6)))))))
   (aN (oX 4))))))
theorem ak2:FnScope ["rows","columns","seeds","steps","there","step","boxes","turn","box"] ["rows","columns","seeds","steps"] (aY (top 23)):=.au
theorem bi6 (B:Bt mg) (F:FM K mg "judged_growth" 23 f fd) (d_marked:Df P w K mg base 1 "marked" ["hearths"] tM) (d_cell_boxes:Df P w K mg base 1 "cell_boxes" ["cells"] kS) (d_made_cells:bX P w K mg base 2 "made_cells" ["rows","columns","cells"] kK) (d_may_be_done:Df P w K mg base 3 "may_be_done" ["there","step"] tL) (d_hull_of:Df P w K mg base 1 "hull_of" ["one","other"] kR) (d_first_near:Df P w K mg base 3 "first_near" ["boxes","box"] mF) (x_NoPaper:Xc K mg base "NoPaper"):bX P w K mg base 4 "judged_growth" ["rows","columns","seeds","steps"] tN:=
 bX.au F ak2 af2 bb0 (fun cdv A outer s H E Ep hr hX=>by
  have nd:=ak2.nd
  have hu:=oF hr
  exact (aI (iF (i:=4) nd (bJ d_marked hr (a8 (bJ d_cell_boxes hr (a8 (kJ hX d_made_cells hr (a8 (qv 0) (a8 (qv 1) (a8 (qv 2) aC)))) aC)) aC)))
   (aI (gB 5 (hp:=hX.own) nd (dX (qv 3))
    (aI (cC (iU (hZ (bJ d_may_be_done hr (a8 (qv 4) (a8 (qv 5) aC))))) (aN (pM hX x_NoPaper (a8 hU aC))) cF)
    (aI (W0 4 hu (b9 (qv 5) a9))
    (aI (W0 4 hu (b9 (qv 5) a9))
    (aN (oY hu (i:=4) (bJ d_hull_of hr (a8 (b9 (qv 5) a9) (a8 (b9 (qv 5) a9) aC))) eL))))))
   (aI (bH (i:=6) nd (aV6 B rfl (a8 (qv 4) aC)))
   (aI (O0 7 8 (hp:=hX.own) nd (aN7 rfl B.enum (qv 6))
    (aN (cC (N0 (bJ d_first_near hr (a8 (N9 (qv 6) N7 (N8 (qv 7))) (a8 (qv 8) aC))) lK) (aN (pM hX x_NoPaper (a8 hU aC))) cF)))
   (aN (oX 6)))))))
theorem ak3:FnScope ["seeds","boxes","box","k","around","top","left","bottom","right"] ["seeds","boxes","box","k"] (aY (top 40)):=.au
theorem bi7 (B:Bt mg) (F:FM K mg "_law_good" 40 f fd) (d__law_boxes_are:Df P w K mg base 2 "_law_boxes_are" ["found","due"] tP) (d__law_length:Df P w K mg base 1 "_law_length" ["box"] mI) (d__law_alone:Df P w K mg base 3 "_law_alone" ["seeds","box"] tV):Df P w K mg base 4 "_law_good" ["seeds","boxes","box","k"] tW:=
 Df.au F ak3 (fun cdv A outer s H E hr=>by
  have nd:=ak3.nd
  exact⟨(ai1),(aI (cC (fM (jO (iU (hZ (bJ d__law_boxes_are hr (a8 (gP (a8 (qv 2) aC)) (a8 (gP (a8 (qv 2) aC)) aC))))) (jN (wD (iG B (a8 (qv 2) aC)) a9)))) (aN (bI eL)) cF)
   (aI (cC (fM (jO (lN (bJ d__law_length hr (a8 (qv 2) aC)) (qv 3)) (jN (oV (bJ d__law_length hr (a8 (qv 2) aC)) (fE (lL a9 (qv 3)) a9))))) (aN (bI eL)) cF)
   (aI (bH (i:=4) nd a9)
   (aI (aX9 5 6 7 8 nd (dX (qv 1))
    (aN (cC (fM (nE (ag5 (qv 5) (b9 (qv 2) a9) (b9 (qv 2) a9) (qv 7)) (nD (ag5 (qv 6) (b9 (qv 2) a9) (b9 (qv 2) a9) (qv 8))))) (aN (bH (i:=4) nd (dE (qv 4) a9))) cF)))
   (aN (bI (jP (M7 (qv 4) a9) (oW (bJ d__law_alone hr (a8 (qv 0) (a8 (qv 2) aC))))))))))),be4⟩)
theorem bi8:FnScope ["rows","columns","seeds"] ["rows","columns","seeds"] (aY (top 20)):=.au
theorem bi9 (B:Bt mg) (F:FM K mg "grown_boxes" 20 f fd) (d_judged_growth:bX P w K mg base 4 "judged_growth" ["rows","columns","seeds","steps"] tN) (d_growth:bX P w K mg base 4 "growth" ["rows","columns","seeds"] nV):bX P w K mg base 5 "grown_boxes" ["rows","columns","seeds"] nW:=
 bX.au F bi8 af6 bb1 (fun cdv A outer s H E Ep hr hX=>by
  exact (aN (bI (kJ hX d_judged_growth hr (a8 (qv 0) (a8 (qv 1) (a8 (qv 2) (a8 (kJ hX d_growth hr (a8 (qv 0) (a8 (qv 1) (a8 (qv 2) aC)))) aC))))))))
theorem ak4:FnScope ["rows","columns","seeds","length","steps","boxes","box"] ["rows","columns","seeds","length"] (aY (top 27)):=.au
theorem bj0 (B:Bt mg) (F:FM K mg "middling_box" 27 f fd) (d_growth:bX P w K mg base 4 "growth" ["rows","columns","seeds"] nV) (d_cell_boxes:Df P w K mg base 1 "cell_boxes" ["cells"] kS) (d_hull_of:Df P w K mg base 1 "hull_of" ["one","other"] kR) (d_length_of:Df P w K mg base 1 "length_of" ["box"] tU) (x_NoSuch:Xc K mg base "NoSuch"):bX P w K mg base 5 "middling_box" ["rows","columns","seeds","length"] nY:=
 bX.au F ak4 ah4 bd7 (fun cdv A outer s H E Ep hr hX=>by
  have nd:=ak4.nd
  exact (aI (bH (i:=4) nd (kJ hX d_growth hr (a8 (qv 0) (a8 (qv 1) (a8 (qv 2) aC)))))
   (aI (bH (i:=5) nd (x8 (bJ d_cell_boxes hr (a8 (qv 2) aC)) (xE (N:=["one","other"]) (fr:=[none,none]) (dX (qv 4)) (fun _ _ _ _=>(bJ d_hull_of hr (a8 (qv 0) (a8 (qv 1) aC)))))))
   (aI (cC (M8 (qv 3) a9) (aN (gB 6 (hp:=hX.own) nd (dX (qv 5))
     (aN (cC (M8 (bJ d_length_of hr (a8 (qv 6) aC)) (qv 3)) (aN (oX 6)) cF)))) cF)
   (aN (pM hX x_NoSuch (a8 hU aC)))))))
theorem ak5:FnScope ["rows","columns","seeds","box","own"] ["rows","columns","seeds","box"] (aY (top 25)):=.au
theorem bj1 (B:Bt mg) (F:FM K mg "grown_alone" 25 f fd) (d_made_cells:bX P w K mg base 2 "made_cells" ["rows","columns","cells"] kK) (d_has_cell:Df P w K mg base 1 "has_cell" ["box","cell"] tR) (d_grown_boxes:bX P w K mg base 5 "grown_boxes" ["rows","columns","seeds"] nW):bX P w K mg base 6 "grown_alone" ["rows","columns","seeds","box"] tS:=
 bX.au F ak5 ag2 bc0 (fun cdv A outer s H E Ep hr hX=>by
  have nd:=ak5.nd
  have hu3:=pY hr
  exact (aI (aG1 (i:=4) nd (N:=["cell","box"]) (fr:=[none,some 3]) (dX (kJ hX d_made_cells hr (a8 (qv 0) (a8 (qv 1) (a8 (qv 2) aC))))) (fun _ _ _ _=>(hZ (bJ d_has_cell hr (a8 (qv 1) (a8 (qv 0) aC))))) (fun _ _ _ _=>(qv 0)))
   (aN (bI (aF9 hu3 (kJ hX d_grown_boxes hr (a8 (qv 0) (a8 (qv 1) (a8 (qv 4) aC)))) (gP (a8 (qv 3) aC)))))))
theorem ak6:FnScope ["rows","columns","seeds","number","caught","e","told"] ["rows","columns","seeds","number"] (aY (top 41)):=.au
theorem bj2 (B:Bt mg) (F:FM K mg "_law_kind" 41 f fd) (d_grown_alone:bX P w K mg base 6 "grown_alone" ["rows","columns","seeds","box"] tS) (d_middling_box:bX P w K mg base 5 "middling_box" ["rows","columns","seeds","length"] nY) (cat_HearthError:xK K mg "HearthError") (is_BadSet:m5 K mg "BadSet") (is_BadBoard:m5 K mg "BadBoard") (is_NoSuch:m5 K mg "NoSuch") (is_ValueError:xM K mg):Df P w K mg base 7 "_law_kind" ["rows","columns","seeds","number"] nZ:=
 Df.au F ak6 (fun cdv A outer s H E hr=>by
  have nd:=ak6.nd
  exact⟨(ai2),(aI (bH (i:=4) nd lK)
   (aI (aP1 5 cat_HearthError nd (aO9 (fun _=>(M9 (qv 3) lK)) (V6 d_grown_alone hr (fun _=>(a8 (qv 0) (a8 (qv 1) (a8 (qv 2) (a8 (gA (a8 a9 (a8 a9 (a8 a9 (a8 a9 aC))))) aC)))))) (V6 d_middling_box hr (fun _=>(a8 (qv 0) (a8 (qv 1) (a8 (qv 2) (a8 (qv 3) aC))))))) (fun _=>(aN (bH (i:=4) nd (qv 5)))))
   (aI (cC (fM (jO (M9 (qv 4) lK) (jN (iU (hZ (aP5 B is_ValueError (qv 4))))))) (aN (bI hU)) cF)
   (aI (bH (i:=6) nd (Y2 (yA hU (xY B (a8 (xN B is_BadBoard (qv 4)) aC))) (yA hU (xY B (a8 (xN B is_BadSet (qv 4)) aC)))))
   (aN (bI (Y2 (qv 6) (yA hU (xY B (a8 (xN B is_NoSuch (qv 4)) aC)))))))))),be6⟩)
theorem ak7:FnScope ["script","rows","columns","seeds","boxes","most","lengths","k","box","far","number","odd"] ["script"] (aY (top 42)):=.au
theorem bj3 (B:Bt mg) (F:gH K "law" "law" (top 42) f fd) (d__law_lines:Df P w K mg base 1 "_law_lines" ["cell"] t7) (d__law_cell:Df P w K mg base 1 "_law_cell" ["script","k"] jV) (d__law_seeds:Df P w K mg base 3 "_law_seeds" ["script","at","rows","columns"] t9) (d_grown_boxes:bX P w K mg base 5 "grown_boxes" ["rows","columns","seeds"] nW) (d__law_length:Df P w K mg base 1 "_law_length" ["box"] mI) (d_middling_box:bX P w K mg base 5 "middling_box" ["rows","columns","seeds","length"] nY) (d__law_good:Df P w K mg base 4 "_law_good" ["seeds","boxes","box","k"] tW) (d__law_kind:Df P w K mg base 7 "_law_kind" ["rows","columns","seeds","number"] nZ):dQ P w K mg base fJ 8 f fd ["script"] (oO K yX):=
 aL9 F ak7 (fun xs Q h=>by unfold yX at h; repeat (first | (obtain ⟨rfl,_⟩:=h; rfl) | (obtain ⟨_,h⟩:=h))) (fun cdv A outer s H E hr=>by
  have nd:=ak7.nd
  exact⟨(ai8),(aI (V0 1 2 nd (bJ d__law_lines hr (a8 (bJ d__law_cell hr (a8 (qv 0) (a8 a9 aC))) aC)))
   (aI (bH (i:=3) nd (bJ d__law_seeds hr (a8 (qv 0) (a8 a9 (a8 (qv 1) (a8 (qv 2) aC))))))
   (aI (bH (i:=4) nd (V3 d_grown_boxes hr (a8 (qv 1) (a8 (qv 2) (a8 (qv 3) aC)))))
   (aI (bH (i:=5) nd (aR3 B rfl (a8 (x8 (gP (a8 a9 aC)) (O2 (N:=["box"]) (fr:=[none]) (dX (qv 4)) (fun _ _ _ _=>(bJ d__law_length hr (a8 (qv 0) aC))))) aC)))
   (aI (iF (i:=6) nd (bc7 B a9 (dE (rL B rfl (a8 (qv 5) (a8 a9 aC))) a9)))
   (aI (cC (oV (qv 5) a9) (aN (lO 6 (qv 5))) cF)
   (aI (aE7 6 (gB 7 nd (dX (qv 6))
    (aI (bH (i:=8) nd (V3 d_middling_box hr (a8 (qv 1) (a8 (qv 2) (a8 (wJ B (a8 (qv 3) aC)) (a8 (qv 7) aC))))))
    (aN (cC (iU (hZ (bJ d__law_good hr (a8 (qv 3) (a8 (qv 4) (a8 (qv 8) (a8 (qv 7) aC))))))) (aN (bI eL)) cF)))))
   (aI (bH (i:=9) nd (dJ (bJ d__law_cell hr (a8 (qv 0) (a8 a9 aC))) (aE4 a9 a9)))
   (aI (gB 10 nd (dX (gP (a8 (aF0 (qv 9)) (a8 (dE (dE (qv 5) a9) (qv 9)) aC))))
    (aN (cC (yB (bJ d__law_kind hr (a8 (qv 1) (a8 (qv 2) (a8 (qv 3) (a8 (qv 10) aC))))) hU) (aN (bI eL)) cF)))
   (aI (bH (i:=11) nd (x8 (wJ B (a8 (qv 3) aC)) (gP (a8 (gA (a8 (qv 1) (a8 a9 aC))) aC))))
   (aI (gB 10 nd (dX (gP (a8 lK (a8 a9 aC))))
    (aI (cC (yB (bJ d__law_kind hr (a8 (qv 1) (a8 (qv 2) (a8 (qv 11) (a8 (qv 10) aC))))) hU) (aN (bI eL)) cF)
    (aN (cC (yB (bJ d__law_kind hr (a8 a9 (a8 (qv 2) (a8 (qv 11) (a8 (qv 10) aC))))) hU) (aN (bI eL)) cF))))
   (aN (bI eL))))))))))))),be9⟩)
end
set_option autoImplicit true in
theorem bj4 {l:OpenLaw}{w:World}{K:Frag}{h:Heap}{mg:Str->Option Value} (X:K.In h) (G:h.Ns mainGlobals mg) (hfa:mg "law" = some (.ref fa))
  (h0:FK K "rises" 7 f0 d0)
  (h1:FK K "marked" 8 f1 d1)
  (h2:FK K "looked_through" 11 f2 d2)
  (h3:FK K "is_cell" 12 f3 d3)
  (h4:FK K "gap" 17 f4 d4)
  (h5:FK K "hull_of" 18 f5 d5)
  (h6:FK K "cell_boxes" 19 f6 d6)
  (h7:FK K "has_cell" 26 f7 d7)
  (h8:FK K "length_of" 28 f8 d8)
  (h9:FK K "_law_cell" 30 f9 d9)
  (h10:FK K "_law_whole" 32 f10 d10)
  (h11:FK K "_law_lines" 34 f11 d11)
  (h12:FK K "_law_beside" 36 f12 d12)
  (h13:FK K "_law_length" 38 f13 d13)
  (h14:FK K "made_cells" 13 f14 d14)
  (h15:FK K "near_boxes" 16 f15 d15)
  (h16:FK K "_law_number" 31 f16 d16)
  (h17:FK K "_law_boxes_are" 33 f17 d17)
  (h18:FK K "_law_burnt" 37 f18 d18)
  (h19:FK K "first_near" 22 f19 d19)
  (h20:FK K "may_be_done" 24 f20 d20)
  (h21:FK K "_law_seeds" 35 f21 d21)
  (h22:FK K "_law_alone" 39 f22 d22)
  (h23:FK K "growth" 21 f23 d23)
  (h24:FK K "judged_growth" 23 f24 d24)
  (h25:FK K "_law_good" 40 f25 d25)
  (h26:FK K "grown_boxes" 20 f26 d26)
  (h27:FK K "middling_box" 27 f27 d27)
  (h28:FK K "grown_alone" 25 f28 d28)
  (h29:FK K "_law_kind" 41 f29 d29)
  (a30:nsIn K mainGlobals "law" = some (some (.ref f30))) (l30:K.lookup f30=some ⟨oc30,od30,.func (fnOf "law" "law" (jE (top 42)) (eV (top 42)) (aY (top 42)) .none kV30 dc30 pm30 an30 cd30 ct30),sl30⟩) (c30:codeIn K cd30 "law" = true) (k30:keepIn K (.ref f30)=true)
  (z_len:nsIn K mainGlobals "len" = some none)
  (z_range:nsIn K mainGlobals "range" = some none)
  (z_tuple:nsIn K mainGlobals "tuple" = some none)
  (z_list:nsIn K mainGlobals "list" = some none)
  (z_sorted:nsIn K mainGlobals "sorted" = some none)
  (z_all:nsIn K mainGlobals "all" = some none)
  (z_any:nsIn K mainGlobals "any" = some none)
  (z_zip:nsIn K mainGlobals "zip" = some none)
  (z_min:nsIn K mainGlobals "min" = some none)
  (z_max:nsIn K mainGlobals "max" = some none)
  (z_sum:nsIn K mainGlobals "sum" = some none)
  (z_isinstance:nsIn K mainGlobals "isinstance" = some none)
  (z_int:nsIn K mainGlobals "int" = some none)
  (z_bool:nsIn K mainGlobals "bool" = some none)
  (z_enumerate:nsIn K mainGlobals "enumerate" = some none)
  {u_MOST_ROWS:Nat} (z_MOST_ROWSx:nsIn K mainGlobals "MOST_ROWS" = some (some (.int 40 u_MOST_ROWS)))
  {u_MOST_STEPS_APART:Nat} (z_MOST_STEPS_APARTx:nsIn K mainGlobals "MOST_STEPS_APART" = some (some (.int 2 u_MOST_STEPS_APART)))
  {C_HearthError C_BadSet C_BadBoard C_NoPaper C_NoSuch:Addr}
  (aX_HE:nsIn K mainGlobals "HearthError" = some (some (.ref C_HearthError)))
  (aX_BS:nsIn K mainGlobals "BadSet" = some (some (.ref C_BadSet)))
  (aX_BB:nsIn K mainGlobals "BadBoard" = some (some (.ref C_BadBoard)))
  (aX_NP:nsIn K mainGlobals "NoPaper" = some (some (.ref C_NoPaper)))
  (aX_NS:nsIn K mainGlobals "NoSuch" = some (some (.ref C_NoSuch)))
  (zX_BW:nsIn K mainGlobals "BadWeb" = some none)
  (zX_BO:nsIn K mainGlobals "BadOrder" = some none)
  (zX_BP:nsIn K mainGlobals "BadPrices" = some none)
  (zX_BD:nsIn K mainGlobals "BadDeed" = some none)
  (zX_NW:nsIn K mainGlobals "NotWood" = some none)
  (zX_TM:nsIn K mainGlobals "TooMany" = some none)
  (zX_NT:nsIn K mainGlobals "NoText" = some none)
  (zX_OR:nsIn K mainGlobals "OddRound" = some none)
  (y_fg:specialIn K (.builtin "object.__class__") "__get__" = some (some (.builtin "getset_descriptor.__get__")))
  (y_ft:takesIn K (.builtin "object.__class__")=some true)
  (z_VE:nsIn K mainGlobals "ValueError" = some none)
  (y1_HE:isClsIn K C_HearthError=true)
  (y2_HE:typeIn K (.ref C_HearthError)=some (.type "type"))
  (y3_HE:findIn K (.ref C_HearthError) "__getattribute__" = some (some (.builtin "BaseException.__getattribute__")))
  (y4_HE:findIn K (.ref C_HearthError) "__getattr__" = some none)
  (y5_HE:findIn K (.ref C_HearthError) "__class__" = some (some (.builtin "object.__class__")))
  (y6_HE:mroIn K C_HearthError (.type "object")=some true)
  (y7_HE:mroIn K C_HearthError (.type "BaseException")=some true)
  (y1_BS:isClsIn K C_BadSet=true)
  (y2_BS:typeIn K (.ref C_BadSet)=some (.type "type"))
  (y3_BS:findIn K (.ref C_BadSet) "__getattribute__" = some (some (.builtin "BaseException.__getattribute__")))
  (y4_BS:findIn K (.ref C_BadSet) "__getattr__" = some none)
  (y5_BS:findIn K (.ref C_BadSet) "__class__" = some (some (.builtin "object.__class__")))
  (y6_BS:mroIn K C_BadSet (.type "object")=some true)
  (y7_BS:mroIn K C_BadSet (.type "BaseException")=some true)
  (y1_BB:isClsIn K C_BadBoard=true)
  (y2_BB:typeIn K (.ref C_BadBoard)=some (.type "type"))
  (y3_BB:findIn K (.ref C_BadBoard) "__getattribute__" = some (some (.builtin "BaseException.__getattribute__")))
  (y4_BB:findIn K (.ref C_BadBoard) "__getattr__" = some none)
  (y5_BB:findIn K (.ref C_BadBoard) "__class__" = some (some (.builtin "object.__class__")))
  (y6_BB:mroIn K C_BadBoard (.type "object")=some true)
  (y7_BB:mroIn K C_BadBoard (.type "BaseException")=some true)
  (y1_NP:isClsIn K C_NoPaper=true)
  (y2_NP:typeIn K (.ref C_NoPaper)=some (.type "type"))
  (y3_NP:findIn K (.ref C_NoPaper) "__getattribute__" = some (some (.builtin "BaseException.__getattribute__")))
  (y4_NP:findIn K (.ref C_NoPaper) "__getattr__" = some none)
  (y5_NP:findIn K (.ref C_NoPaper) "__class__" = some (some (.builtin "object.__class__")))
  (y6_NP:mroIn K C_NoPaper (.type "object")=some true)
  (y7_NP:mroIn K C_NoPaper (.type "BaseException")=some true)
  (y1_NS:isClsIn K C_NoSuch=true)
  (y2_NS:typeIn K (.ref C_NoSuch)=some (.type "type"))
  (y3_NS:findIn K (.ref C_NoSuch) "__getattribute__" = some (some (.builtin "BaseException.__getattribute__")))
  (y4_NS:findIn K (.ref C_NoSuch) "__getattr__" = some none)
  (y5_NS:findIn K (.ref C_NoSuch) "__class__" = some (some (.builtin "object.__class__")))
  (y6_NS:mroIn K C_NoSuch (.type "object")=some true)
  (y7_NS:mroIn K C_NoSuch (.type "BaseException")=some true)
  (sB_HE:subIn K (.ref C_HearthError) (.type "BaseException")=some true)
  (s_BS_HE:subIn K (.ref C_BadSet) (.ref C_HearthError)=some true)
  (s_BB_HE:subIn K (.ref C_BadBoard) (.ref C_HearthError)=some true)
  (s_NP_HE:subIn K (.ref C_NoPaper) (.ref C_HearthError)=some true)
  (s_NS_HE:subIn K (.ref C_NoSuch) (.ref C_HearthError)=some true)
  (sN_BB:subIn K (.type "NoneType") (.ref C_BadBoard)=some false)
  (s_BS_BB:subIn K (.ref C_BadSet) (.ref C_BadBoard)=some false)
  (n_BS_BB:(C_BadSet == C_BadBoard)=false)
  (s_NP_BB:subIn K (.ref C_NoPaper) (.ref C_BadBoard)=some false)
  (n_NP_BB:(C_NoPaper == C_BadBoard)=false)
  (s_NS_BB:subIn K (.ref C_NoSuch) (.ref C_BadBoard)=some false)
  (n_NS_BB:(C_NoSuch == C_BadBoard)=false)
  (sN_BS:subIn K (.type "NoneType") (.ref C_BadSet)=some false)
  (s_BB_BS:subIn K (.ref C_BadBoard) (.ref C_BadSet)=some false)
  (n_BB_BS:(C_BadBoard == C_BadSet)=false)
  (s_NP_BS:subIn K (.ref C_NoPaper) (.ref C_BadSet)=some false)
  (n_NP_BS:(C_NoPaper == C_BadSet)=false)
  (s_NS_BS:subIn K (.ref C_NoSuch) (.ref C_BadSet)=some false)
  (n_NS_BS:(C_NoSuch == C_BadSet)=false)
  (sN_NS:subIn K (.type "NoneType") (.ref C_NoSuch)=some false)
  (s_BS_NS:subIn K (.ref C_BadSet) (.ref C_NoSuch)=some false)
  (n_BS_NS:(C_BadSet == C_NoSuch)=false)
  (s_BB_NS:subIn K (.ref C_BadBoard) (.ref C_NoSuch)=some false)
  (n_BB_NS:(C_BadBoard == C_NoSuch)=false)
  (s_NP_NS:subIn K (.ref C_NoPaper) (.ref C_NoSuch)=some false)
  (n_NP_NS:(C_NoPaper == C_NoSuch)=false)
  (sV_BS:subIn K (.ref C_BadSet) (.type "ValueError")=some true)
  (sV_BB:subIn K (.ref C_BadBoard) (.type "ValueError")=some true)
  (sV_NP:subIn K (.ref C_NoPaper) (.type "ValueError")=some true)
  (sV_NS:subIn K (.ref C_NoSuch) (.type "ValueError")=some true)
  (q_BB:excIn K C_BadBoard [.type "ValueError",.type "Exception",.type "BaseException",.type "object"] "ValueError.__new__" = true)
  (q_BS:excIn K C_BadSet [.type "ValueError",.type "Exception",.type "BaseException",.type "object"] "ValueError.__new__" = true)
  (q_NP:excIn K C_NoPaper [.type "ValueError",.type "Exception",.type "BaseException",.type "object"] "ValueError.__new__" = true)
  (q_NS:excIn K C_NoSuch [.type "ValueError",.type "Exception",.type "BaseException",.type "object"] "ValueError.__new__" = true)
  : ∃ fd:FuncData,(∀ (s:Shared) (v:Value),BindsTo s fd ⟨[v],[]⟩ [("script",v)])/\∀ base:Heap,K.In base->base.Ns mainGlobals mg->dQ l.prog w K mg base fJ 8 fa fd ["script"] (sH K):=by
 have e:=hfa.symm.trans (mg_of X G a30)
 cases e
 have F30:=aw7 (st:=top 42) l30 c30 k30
 have m30:=mg_of X G a30
 have B:Bt mg:=⟨mg_none_of X G z_len,mg_none_of X G z_range,mg_none_of X G z_tuple,mg_none_of X G z_list,mg_none_of X G z_sorted,mg_none_of X G z_all,mg_none_of X G z_any,mg_none_of X G z_zip,mg_none_of X G z_min,mg_none_of X G z_max,mg_none_of X G z_sum,mg_none_of X G z_isinstance,mg_none_of X G z_int,mg_none_of X G z_bool,mg_none_of X G z_enumerate⟩
 have m_MOST_ROWS:=mg_of X G z_MOST_ROWSx
 have m_MOST_STEPS_APART:=mg_of X G z_MOST_STEPS_APARTx
 refine⟨fnOf "law" "law" (jE (top 42)) (eV (top 42)) (aY (top 42)) .none kV30 dc30 pm30 an30 cd30 ct30,fun s v=>.of_eq rfl,fun base KB _=>?_⟩
 have XK_HearthError:jY K C_HearthError:=⟨y1_HE,y2_HE,y3_HE,y4_HE,y5_HE,y_fg,y_ft,y6_HE,y7_HE⟩
 have XK_BadSet:jY K C_BadSet:=⟨y1_BS,y2_BS,y3_BS,y4_BS,y5_BS,y_fg,y_ft,y6_BS,y7_BS⟩
 have XK_BadBoard:jY K C_BadBoard:=⟨y1_BB,y2_BB,y3_BB,y4_BB,y5_BB,y_fg,y_ft,y6_BB,y7_BB⟩
 have XK_NoPaper:jY K C_NoPaper:=⟨y1_NP,y2_NP,y3_NP,y4_NP,y5_NP,y_fg,y_ft,y6_NP,y7_NP⟩
 have XK_NoSuch:jY K C_NoSuch:=⟨y1_NS,y2_NS,y3_NS,y4_NS,y5_NS,y_fg,y_ft,y6_NS,y7_NS⟩
 have cat_HearthError:xK K mg "HearthError":=⟨C_HearthError,mg_of X G aX_HE,⟨y1_HE,y2_HE,sB_HE⟩,fun n C h2 h1=>by
  obtain ⟨hm,hb⟩:=pN h2
  simp only [lX,bk6,bl4,bo6] at hm
  rcases hm with rfl | rfl | rfl | rfl | rfl | rfl | rfl | rfl | rfl | rfl | rfl | rfl
  ·rw [zX_BW] at h1; cases h1
  ·rw [aX_BS] at h1; cases h1; exact s_BS_HE
  ·rw [zX_BO] at h1; cases h1
  ·rw [zX_BP] at h1; cases h1
  ·rw [aX_BB] at h1; cases h1; exact s_BB_HE
  ·rw [zX_BD] at h1; cases h1
  ·rw [zX_NW] at h1; cases h1
  ·rw [aX_NP] at h1; cases h1; exact s_NP_HE
  ·rw [aX_NS] at h1; cases h1; exact s_NS_HE
  ·rw [zX_TM] at h1; cases h1
  ·rw [zX_NT] at h1; cases h1
  ·rw [zX_OR] at h1; cases h1⟩
 have is_BadBoard:m5 K mg "BadBoard":=⟨C_BadBoard,mg_of X G aX_BB,fun z=>(by cases z),(fun n C b h1 h2=>by
  obtain ⟨hm,hb⟩:=pN h2
  simp only [lX,bk6,bl4,bo6] at hm
  rcases hm with rfl | rfl | rfl | rfl | rfl | rfl | rfl | rfl | rfl | rfl | rfl | rfl
  ·rw [zX_BW] at h1; cases h1
  ·rw [aX_BS] at h1; cases h1; rw [hb,show (("BadSet" : Str) == "BadBoard" || ("BadBoard" : Str) == "HearthError" || ("BadBoard" : Str) == "ValueError")=false by decide]; exact⟨XK_BadSet.exc,jZ XK_BadBoard n_BS_BB s_BS_BB⟩
  ·rw [zX_BO] at h1; cases h1
  ·rw [zX_BP] at h1; cases h1
  ·rw [aX_BB] at h1; cases h1; rw [hb,show (("BadBoard" : Str) == "BadBoard" || ("BadBoard" : Str) == "HearthError" || ("BadBoard" : Str) == "ValueError")=true by decide]; exact⟨XK_BadBoard.exc,xO⟩
  ·rw [zX_BD] at h1; cases h1
  ·rw [zX_NW] at h1; cases h1
  ·rw [aX_NP] at h1; cases h1; rw [hb,show (("NoPaper" : Str) == "BadBoard" || ("BadBoard" : Str) == "HearthError" || ("BadBoard" : Str) == "ValueError")=false by decide]; exact⟨XK_NoPaper.exc,jZ XK_BadBoard n_NP_BB s_NP_BB⟩
  ·rw [aX_NS] at h1; cases h1; rw [hb,show (("NoSuch" : Str) == "BadBoard" || ("BadBoard" : Str) == "HearthError" || ("BadBoard" : Str) == "ValueError")=false by decide]; exact⟨XK_NoSuch.exc,jZ XK_BadBoard n_NS_BB s_NS_BB⟩
  ·rw [zX_TM] at h1; cases h1
  ·rw [zX_NT] at h1; cases h1
  ·rw [zX_OR] at h1; cases h1),xP XK_BadBoard sN_BB⟩
 have is_BadSet:m5 K mg "BadSet":=⟨C_BadSet,mg_of X G aX_BS,fun z=>(by cases z),(fun n C b h1 h2=>by
  obtain ⟨hm,hb⟩:=pN h2
  simp only [lX,bk6,bl4,bo6] at hm
  rcases hm with rfl | rfl | rfl | rfl | rfl | rfl | rfl | rfl | rfl | rfl | rfl | rfl
  ·rw [zX_BW] at h1; cases h1
  ·rw [aX_BS] at h1; cases h1; rw [hb,show (("BadSet" : Str) == "BadSet" || ("BadSet" : Str) == "HearthError" || ("BadSet" : Str) == "ValueError")=true by decide]; exact⟨XK_BadSet.exc,xO⟩
  ·rw [zX_BO] at h1; cases h1
  ·rw [zX_BP] at h1; cases h1
  ·rw [aX_BB] at h1; cases h1; rw [hb,show (("BadBoard" : Str) == "BadSet" || ("BadSet" : Str) == "HearthError" || ("BadSet" : Str) == "ValueError")=false by decide]; exact⟨XK_BadBoard.exc,jZ XK_BadSet n_BB_BS s_BB_BS⟩
  ·rw [zX_BD] at h1; cases h1
  ·rw [zX_NW] at h1; cases h1
  ·rw [aX_NP] at h1; cases h1; rw [hb,show (("NoPaper" : Str) == "BadSet" || ("BadSet" : Str) == "HearthError" || ("BadSet" : Str) == "ValueError")=false by decide]; exact⟨XK_NoPaper.exc,jZ XK_BadSet n_NP_BS s_NP_BS⟩
  ·rw [aX_NS] at h1; cases h1; rw [hb,show (("NoSuch" : Str) == "BadSet" || ("BadSet" : Str) == "HearthError" || ("BadSet" : Str) == "ValueError")=false by decide]; exact⟨XK_NoSuch.exc,jZ XK_BadSet n_NS_BS s_NS_BS⟩
  ·rw [zX_TM] at h1; cases h1
  ·rw [zX_NT] at h1; cases h1
  ·rw [zX_OR] at h1; cases h1),xP XK_BadSet sN_BS⟩
 have is_NoSuch:m5 K mg "NoSuch":=⟨C_NoSuch,mg_of X G aX_NS,fun z=>(by cases z),(fun n C b h1 h2=>by
  obtain ⟨hm,hb⟩:=pN h2
  simp only [lX,bk6,bl4,bo6] at hm
  rcases hm with rfl | rfl | rfl | rfl | rfl | rfl | rfl | rfl | rfl | rfl | rfl | rfl
  ·rw [zX_BW] at h1; cases h1
  ·rw [aX_BS] at h1; cases h1; rw [hb,show (("BadSet" : Str) == "NoSuch" || ("NoSuch" : Str) == "HearthError" || ("NoSuch" : Str) == "ValueError")=false by decide]; exact⟨XK_BadSet.exc,jZ XK_NoSuch n_BS_NS s_BS_NS⟩
  ·rw [zX_BO] at h1; cases h1
  ·rw [zX_BP] at h1; cases h1
  ·rw [aX_BB] at h1; cases h1; rw [hb,show (("BadBoard" : Str) == "NoSuch" || ("NoSuch" : Str) == "HearthError" || ("NoSuch" : Str) == "ValueError")=false by decide]; exact⟨XK_BadBoard.exc,jZ XK_NoSuch n_BB_NS s_BB_NS⟩
  ·rw [zX_BD] at h1; cases h1
  ·rw [zX_NW] at h1; cases h1
  ·rw [aX_NP] at h1; cases h1; rw [hb,show (("NoPaper" : Str) == "NoSuch" || ("NoSuch" : Str) == "HearthError" || ("NoSuch" : Str) == "ValueError")=false by decide]; exact⟨XK_NoPaper.exc,jZ XK_NoSuch n_NP_NS s_NP_NS⟩
  ·rw [aX_NS] at h1; cases h1; rw [hb,show (("NoSuch" : Str) == "NoSuch" || ("NoSuch" : Str) == "HearthError" || ("NoSuch" : Str) == "ValueError")=true by decide]; exact⟨XK_NoSuch.exc,xO⟩
  ·rw [zX_TM] at h1; cases h1
  ·rw [zX_NT] at h1; cases h1
  ·rw [zX_OR] at h1; cases h1),xP XK_NoSuch sN_NS⟩
 have is_ValueError:xM K mg:=⟨mg_none_of X G z_VE,fun z=>(by cases z),(fun n C b h1 h2=>by
  obtain ⟨hm,hb⟩:=pN h2
  simp only [lX,bk6,bl4,bo6] at hm
  rcases hm with rfl | rfl | rfl | rfl | rfl | rfl | rfl | rfl | rfl | rfl | rfl | rfl
  ·rw [zX_BW] at h1; cases h1
  ·rw [aX_BS] at h1; cases h1; rw [hb,show (("BadSet" : Str) == "ValueError" || ("ValueError" : Str) == "HearthError" || ("ValueError" : Str) == "ValueError")=true by decide]; exact⟨XK_BadSet.exc,sM sV_BS⟩
  ·rw [zX_BO] at h1; cases h1
  ·rw [zX_BP] at h1; cases h1
  ·rw [aX_BB] at h1; cases h1; rw [hb,show (("BadBoard" : Str) == "ValueError" || ("ValueError" : Str) == "HearthError" || ("ValueError" : Str) == "ValueError")=true by decide]; exact⟨XK_BadBoard.exc,sM sV_BB⟩
  ·rw [zX_BD] at h1; cases h1
  ·rw [zX_NW] at h1; cases h1
  ·rw [aX_NP] at h1; cases h1; rw [hb,show (("NoPaper" : Str) == "ValueError" || ("ValueError" : Str) == "HearthError" || ("ValueError" : Str) == "ValueError")=true by decide]; exact⟨XK_NoPaper.exc,sM sV_NP⟩
  ·rw [aX_NS] at h1; cases h1; rw [hb,show (("NoSuch" : Str) == "ValueError" || ("ValueError" : Str) == "HearthError" || ("ValueError" : Str) == "ValueError")=true by decide]; exact⟨XK_NoSuch.exc,sM sV_NS⟩
  ·rw [zX_TM] at h1; cases h1
  ·rw [zX_NT] at h1; cases h1
  ·rw [zX_OR] at h1; cases h1),aP6⟩
 have x_BadBoard:Xc K mg base "BadBoard":=⟨C_BadBoard,_,_,_,_,sL KB (mg_of X G aX_BB) q_BB,bz8,aX_BB⟩
 have x_BadSet:Xc K mg base "BadSet":=⟨C_BadSet,_,_,_,_,sL KB (mg_of X G aX_BS) q_BS,bz8,aX_BS⟩
 have x_NoPaper:Xc K mg base "NoPaper":=⟨C_NoPaper,_,_,_,_,sL KB (mg_of X G aX_NP) q_NP,bz8,aX_NP⟩
 have x_NoSuch:Xc K mg base "NoSuch":=⟨C_NoSuch,_,_,_,_,sL KB (mg_of X G aX_NS) q_NS,bz8,aX_NS⟩
 have D0:=U0 (P:=l.prog) (w:=w) (base:=base) B (h0.M X G)
 have D1:=bf1 (P:=l.prog) (w:=w) (base:=base) B (h1.M X G)
 have D2:=bf3 (P:=l.prog) (w:=w) (base:=base) B (h2.M X G)  x_BadBoard m_MOST_ROWS
 have D3:=bf5 (P:=l.prog) (w:=w) (base:=base) B (h3.M X G)
 have D4:=bf7 (P:=l.prog) (w:=w) (base:=base) B (h4.M X G)
 have D5:=bf9 (P:=l.prog) (w:=w) (base:=base) B (h5.M X G)
 have D6:=bg1 (P:=l.prog) (w:=w) (base:=base) B (h6.M X G)
 have D7:=bg3 (P:=l.prog) (w:=w) (base:=base) B (h7.M X G)
 have D8:=bg5 (P:=l.prog) (w:=w) (base:=base) B (h8.M X G)
 have D9:=bg7 (P:=l.prog) (w:=w) (base:=base) B (h9.M X G)
 have D10:=bg9 (P:=l.prog) (w:=w) (base:=base) B (h10.M X G)
 have D11:=bh0 (P:=l.prog) (w:=w) (base:=base) B (h11.M X G)
 have D12:=bh1 (P:=l.prog) (w:=w) (base:=base) B (h12.M X G)
 have D13:=bh3 (P:=l.prog) (w:=w) (base:=base) B (h13.M X G)
 have D14:=bh5 (P:=l.prog) (w:=w) (base:=base) B (h14.M X G) D2 D0 D3 x_BadSet
 have D15:=bh6 (P:=l.prog) (w:=w) (base:=base) B (h15.M X G) D4 m_MOST_STEPS_APART
 have D16:=bh7 (P:=l.prog) (w:=w) (base:=base) B (h16.M X G) D9
 have D17:=bh8 (P:=l.prog) (w:=w) (base:=base) B (h17.M X G) D10
 have D18:=bh9 (P:=l.prog) (w:=w) (base:=base) B (h18.M X G) D12
 have D19:=bi0 (P:=l.prog) (w:=w) (base:=base) B (h19.M X G) D15
 have D20:=bi2 (P:=l.prog) (w:=w) (base:=base) B (h20.M X G) D15
 have D21:=bi3 (P:=l.prog) (w:=w) (base:=base) B (h21.M X G) D9 D16
 have D22:=bi4 (P:=l.prog) (w:=w) (base:=base) B (h22.M X G) D18
 have D23:=bi5 (P:=l.prog) (w:=w) (base:=base) B (h23.M X G) D6 D14 D19 D5
 have D24:=bi6 (P:=l.prog) (w:=w) (base:=base) B (h24.M X G) D1 D6 D14 D20 D5 D19 x_NoPaper
 have D25:=bi7 (P:=l.prog) (w:=w) (base:=base) B (h25.M X G) D17 D13 D22
 have D26:=bi9 (P:=l.prog) (w:=w) (base:=base) B (h26.M X G) D24 D23
 have D27:=bj0 (P:=l.prog) (w:=w) (base:=base) B (h27.M X G) D23 D6 D5 D8 x_NoSuch
 have D28:=bj1 (P:=l.prog) (w:=w) (base:=base) B (h28.M X G) D14 D7 D26
 have D29:=bj2 (P:=l.prog) (w:=w) (base:=base) B (h29.M X G) D28 D27 cat_HearthError is_BadSet is_BadBoard is_NoSuch is_ValueError
 exact aM0 (bj3 B F30 D11 D9 D21 D26 D13 D27 D25 D29)
theorem bj5 {l:OpenLaw}{q:Program}{loose:List Str}{XP:(Str->Option Value)->Heap->Prop}{YP:World->Heap->Prop}{d:DefRec}{K:Params->Frag} (hn:l.most=some 63) (hdf:d.params.defaults = [])
  (hY:∀ (w:World) (h:Heap),YP w h->(K w.params).In h)
  (F:∀ (w:World) (mg:Str->Option Value) (fa:Addr) (h:Heap),(K w.params).In h->h.Ns mainGlobals mg->mg d.name=some (.ref fa)->
   ∃ fd:FuncData,(∀ (s:Shared) (u:Value),BindsTo s fd ⟨[u],[]⟩ [("script",u)])/\∀ base:Heap,(K w.params).In base->base.Ns mainGlobals mg->dQ l.prog w (K w.params) mg base fJ 8 fa fd ["script"] (sH (K w.params))) :
  WalkO q loose XP YP l.row.toRowW d [] (fun f vs=>PySem.call f vs):=
 L2.aw5 (n:=63) (k:=8) (x:="script") (CX:=fun _=>fJ) (sp:=fun w=>sH (K w.params)) hn (by decide) hdf ⟨rfl,by decide,by decide⟩ hY F (fun _ _ a ns hl hO hS=>⟨a,ns,rfl,aM1 hO hS,hl,fun _=>rfl⟩) fun _ _ _ _ _ z=>z
end K_k67
open PySem PySem.W PyProof.Rows
theorem PySem.W.Fast.te13052408679150730464 : True := trivial
theorem PySem.W.Fast.te16555476440528808052 : True := trivial
theorem PySem.W.Fast.te5369427470323729400 : True := trivial
set_option maxRecDepth 100000 in
set_option maxHeartbeats 0 in
theorem PySem.Challenge.cw_kindleweb_k67_whole_middling_boxes_holds : PySem.Challenge.rw_kindleweb_k67_whole_middling_boxes.Holds := by
 w_on; o_law; k_head; (case hw => w_witness2)
 k_fill
 refine K_k67.bj5 (l := PySem.Challenge.rw_kindleweb_k67_whole_middling_boxes) rfl rfl (fun w h Y => PySem.W.kIn_of Y) ?F
 case F =>
  intro w mg fa h KX G hmg
  refine' K_k67.bj4 KX G hmg ?h0 ?h1 ?h2 ?h3 ?h4 ?h5 ?h6 ?h7 ?h8 ?h9 ?h10 ?h11 ?h12 ?h13 ?h14 ?h15 ?h16 ?h17 ?h18 ?h19 ?h20 ?h21 ?h22 ?h23 ?h24 ?h25 ?h26 ?h27 ?h28 ?h29 ?a30 ?l30 ?c30 ?k30 ?z_len ?z_range ?z_tuple ?z_list ?z_sorted ?z_all ?z_any ?z_zip ?z_min ?z_max ?z_sum ?z_isinstance ?z_int ?z_bool ?z_enumerate ?z_MOST_ROWSx ?z_MOST_STEPS_APARTx ?aX_HE ?aX_BS ?aX_BB ?aX_NP ?aX_NS ?zX_BW ?zX_BO ?zX_BP ?zX_BD ?zX_NW ?zX_TM ?zX_NT ?zX_OR ?y_fg ?y_ft ?z_VE ?y1_HE ?y2_HE ?y3_HE ?y4_HE ?y5_HE ?y6_HE ?y7_HE ?y1_BS ?y2_BS ?y3_BS ?y4_BS ?y5_BS ?y6_BS ?y7_BS ?y1_BB ?y2_BB ?y3_BB ?y4_BB ?y5_BB ?y6_BB ?y7_BB ?y1_NP ?y2_NP ?y3_NP ?y4_NP ?y5_NP ?y6_NP ?y7_NP ?y1_NS ?y2_NS ?y3_NS ?y4_NS ?y5_NS ?y6_NS ?y7_NS ?sB_HE ?s_BS_HE ?s_BB_HE ?s_NP_HE ?s_NS_HE ?sN_BB ?s_BS_BB ?n_BS_BB ?s_NP_BB ?n_NP_BB ?s_NS_BB ?n_NS_BB ?sN_BS ?s_BB_BS ?n_BB_BS ?s_NP_BS ?n_NP_BS ?s_NS_BS ?n_NS_BS ?sN_NS ?s_BS_NS ?n_BS_NS ?s_BB_NS ?n_BB_NS ?s_NP_NS ?n_NP_NS ?sV_BS ?sV_BB ?sV_NP ?sV_NS ?q_BB ?q_BS ?q_NP ?q_NS
  (case h0 | h1 | h2 | h3 | h4 | h5 | h6 | h7 | h8 | h9 | h10 | h11 | h12 | h13 | h14 | h15 | h16 | h17 | h18 | h19 | h20 | h21 | h22 | h23 | h24 | h25 | h26 | h27 | h28 | h29 => exact ⟨by k_is, ⟨⟨_, _, _, _, _, _, _, _, _, rfl, by k_is, by k_is⟩, by k_is⟩⟩)
  (case a30|l30|c30|k30|z_len|z_range|z_tuple|z_list|z_sorted|z_all|z_any|z_zip|z_min|z_max|z_sum|z_isinstance|z_int|z_bool|z_enumerate|z_MOST_ROWSx|z_MOST_STEPS_APARTx|aX_HE|aX_BS|aX_BB|aX_NP|aX_NS|zX_BW|zX_BO|zX_BP|zX_BD|zX_NW|zX_TM|zX_NT|zX_OR|y_fg|y_ft|z_VE|y1_HE|y2_HE|y3_HE|y4_HE|y5_HE|y6_HE|y7_HE|y1_BS|y2_BS|y3_BS|y4_BS|y5_BS|y6_BS|y7_BS|y1_BB|y2_BB|y3_BB|y4_BB|y5_BB|y6_BB|y7_BB|y1_NP|y2_NP|y3_NP|y4_NP|y5_NP|y6_NP|y7_NP|y1_NS|y2_NS|y3_NS|y4_NS|y5_NS|y6_NS|y7_NS|sB_HE|s_BS_HE|s_BB_HE|s_NP_HE|s_NS_HE|sN_BB|s_BS_BB => k_is)
  (case n_BS_BB => decide)
  (case s_NP_BB => k_is)
  (case n_NP_BB => decide)
  (case s_NS_BB => k_is)
  (case n_NS_BB => decide)
  (case sN_BS|s_BB_BS => k_is)
  (case n_BB_BS => decide)
  (case s_NP_BS => k_is)
  (case n_NP_BS => decide)
  (case s_NS_BS => k_is)
  (case n_NS_BS => decide)
  (case sN_NS|s_BS_NS => k_is)
  (case n_BS_NS => decide)
  (case s_BB_NS => k_is)
  (case n_BB_NS => decide)
  (case s_NP_NS => k_is)
  (case n_NP_NS => decide)
  (case sV_BS|sV_BB|sV_NP|sV_NS => k_is)
  (case q_BB|q_BS|q_NP|q_NS => k_exc)


