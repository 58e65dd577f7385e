import PyProof.Rows.All
import Wide.All
import OpenK.AllK
import Wide.FinOn
import Lean
import PyProof.EqAt
import PyProof.EqKinds
import PyProof.TupleCall
import PyProof.NeKinds
import PyProof.Draws
import PyProof.ZipIter
import PyProof.DictUpdate
import PyProof.AutoSeq1
import PyProof.ListRange
import PyProof.ListMulRoad
import PyProof.FactsAll.tuple_2
import PyProof.Rows.SortShell
import PyProof.EnumFor
import PyProof.EnumMake
import PyProof.EnumStmt
import PyProof.Rows.SortWalk
import KE.KDictList
import PyProof.SumAny
import PyProof.ConsumeWalk
import PyProof.WalksMore
import PyProof.Rows.TupAssign
import PyProof.ExcArgsOwn
import PySem.Challenge.RW_kindleweb_k37_own_papers_judged
set_option Elab.async false
set_option linter.all false
set_option maxRecDepth 100000
set_option maxHeartbeats 4000000
section
open PySem PySem.Spec PyProof.Rows
def bg5:=@wpAny_bind
def bg6:=@Heap.get?_push_of_some
def bg7:=@List.size_toArray
def bg8:=@List.getElem?_eq_getElem
def bg9:=@wpAny_pure
def bh0:=@Nat.le_refl
def bh1:=@List.mem_cons
def bh2:=@decide_eq_false
def bh3:=@decide_eq_true
def bh4:=@List.length_map
def bh5:=@List.not_mem_nil
def bh6:=@wpS_bind
def bh7:=@List.getElem?_eq_some_iff
def bh8:=@List.mem_singleton
def bh9:=@List.getElem?_map
def bi0:=@Heap.get?_push_size
def bi1:=@Heap.lt_size
def bi2:=@Nat.lt_of_lt_of_le
def bi3:=@List.length_append
def bi4:=@List.mem_cons_self
def bi5:=@decide_eq_true_eq
def bi6:=@Bool.false_ne_true
def bi7:=@List.getD_eq_getElem?_getD
def bi8:=@wpS_pure
def bi9:=@List.mem_cons_of_mem
def bj1:=@List.mem_of_getElem?
def bj2:=@Nat.le_add_right
def bj4:=@Bool.false_eq_true
def bj5:=@List.append_assoc
def bj6:=@List.getElem?_set_ne
def bj8:=@List.mem_filter
def bj9:=@Option.some.inj
def bk0:=@List.mem_append
def bk1:=@List.append_nil
def bk2:=@List.length_cons
def bk3:=@Nat.le_trans
def bk4:=@Nat.ne_of_lt
def bk6:=@List.mem_append_right
def bk7:=@List.take_length
def bk9:=@List.length_set
def bl0:=@or_false
def bl1:=@Bool.eq_iff_iff
def bl2:=@List.take_append_drop
def bl3:=@Int.toNat_natCast
def bl4:=@List.map_append
def bl5:=@PyProof.Rows.callWith_type1
def bl6:=@Nat.zero_le
def bl7:=@Bool.and_eq_true
def bl8:=@Array.length_toList
def bl9:=@Nat.lt_or_ge
def bm0:=@List.take_of_length_le
def bm1:=@List.pairwise_append
def bm2:=@Nat.le_of_lt
def bm3:=@Array.getElem_mem
def bm4:=@List.length_singleton
def bm5:=@List.pairwise_iff_getElem
def bm6:=@PySem.mem_of_lookup
def bm8:=@List.getElem?_set_self
def bn0:=@wpAny_call_entry
def bn1:=@wpAny_newObj_type
def bn2:=@List.mem_map
def bn3:=@wpAny_field
def bn4:=@wpAny_callSpecial?_slot
def bn5:=@List.pairwise_singleton
def bn6:=@List.map_cons
def bn8:=@PySem.W.kia_one
def bn9:=@List.length_take
def bo1:=@List.lookup_cons
def bo2:=@Nat.lt_irrefl
def bo3:=@wpAny_setField_rec
def bo4:=@if_false
def bo5:=@Array.getElem?_toList
def bo6:=@Array.toList_append
def bo8:=@beq_self_eq_true
def bo9:=@List.all_eq_true
def bp0:=@wpAny_holding
def bp1:=@List.take_add_one
def bp3:=@List.mem_append_left
def bp5:=@wpAny_mono
def bp6:=@Nat.ne_of_gt
def bp7:=@wpS_forRange
def bp8:=@List.length_drop
def bq0:=@List.replicate_succ
def bq2:=@List.getElem?_cons_succ
def bq4:=@Heap.size_push
def bq6:=@List.getElem_of_mem
def bq7:=@List.flatten_cons
def bq8:=@of_decide_eq_true
def br2:=@List.find?_cons
def br4:=@PySem.F.plainAttrs_list
def br5:=@List.getElem_mem
def br6:=@decide_eq_false_iff_not
def br7:=@List.all_cons
def bs0:=@Int.le_refl
def bs1:=@Int.emod_nonneg
def bs2:=@PyProof.Rows.slot_tuple_getitem
def bs3:=@List.getElem?_append_left
def bs4:=@List.drop_eq_getElem_cons
def bs5:=@List.length_filter_le
def bs6:=@wpAny_pyIter_tuple
def bs9:=@PySem.F.slot_list_append
def bt0:=@PySem.F.type_list_append
def bt3:=@List.map_map
def bt6:=@List.eq_nil_of_length_eq_zero
def bt8:=@wpAny_truthy_bool
def bu0:=@List.length_range
def bu1:=@List.pairwise_map
def bu2:=@List.nodup_append
def bu5:=@List.nodup_cons
def bu6:=@wpAny_rule
def bu7:=@List.countP_eq_length_filter
def bu8:=@Heap.SameBut.update
def bv0:=@Nat.le_of_not_lt
def bv1:=@List.filter_cons
def bv3:=@List.getElem?_append_right
def bv4:=@wpAny_seqItems
def bv5:=@List.zip_cons_cons
def bv6:=@Nat.eq_or_lt_of_le
def bv8:=@Int.emod_lt_of_pos
def bw0:=@wpAny_passesOwn
def bw1:=@codeAny_builtin
def bw4:=@List.Pairwise.nil
def bw6:=@wpS_mono
def bw7:=@List.mem_of_mem_drop
def bw8:=@List.mem_of_mem_take
def bx2:=@List.drop_take
def bx4:=@True.intro
end
namespace L2
open PySem PySem.Spec PyProof.Rows
abbrev aE:=Sum Int Str
def lS:aE->Value->Bool
 | .inl k,v=>Value.isInt k v
 | .inr x,v=>Value.isStrOf x v
def ai1 (w:World):aE->Int
 | .inl k=>hashInt k
 | .inr x=>hashStr w x
theorem iH:∀ {k:aE}{v:Value},lS k v=true->(∃ i t,k=Sum.inl i/\v=Value.int i t) ∨ (∃ x t,k=Sum.inr x/\v=Value.str x t)
 | .inl i,v,h=>by
  obtain ⟨t,e⟩:=Value.isInt_shape (k:=i) (v:=v) h
  exact .inl ⟨i,t,rfl,e⟩
 | .inr x,v,h=>by
  obtain ⟨t,e⟩:=Value.isStrOf_shape (x:=x) (v:=v) h
  exact .inr ⟨x,t,rfl,e⟩
theorem ai2 (i:Int) (t:Tok):lS (.inl i) (.int i t)=true:=by simp [lS,Value.isInt]
theorem ai3 (x:Str) (t:Tok):lS (.inr x) (.str x t)=true:=by simp [lS,Value.isStrOf]
theorem ai4 (a b:Int):decide ((Sum.inl a:aE)=Sum.inl b)=(a == b):=by
 by_cases e:a=b
 ·subst e; simp
 ·have h : ¬ (Sum.inl a:aE)=Sum.inl b:=fun q=>e (Sum.inl.inj q)
  rw [bh2 h]
  exact (beq_eq_false_iff_ne.mpr e).symm
theorem ai5 (a b:Str):decide ((Sum.inr a:aE)=Sum.inr b)=decide (a=b):=by
 by_cases e:a=b
 ·subst e; simp
 ·have h : ¬ (Sum.inr a:aE)=Sum.inr b:=fun q=>e (Sum.inr.inj q)
  rw [bh2 h,bh2 e]
theorem ai6 (a:Int) (b:Str):decide ((Sum.inl a:aE)=Sum.inr b)=false:=bh2 (fun q=>nomatch q)
theorem ai7 (a:Str) (b:Int):decide ((Sum.inr a:aE)=Sum.inl b)=false:=bh2 (fun q=>nomatch q)
def eG (prog:Program) (w:World):PySem.KeyKind prog w aE where
 is:=lS
 hash:=ai1 w
 inj:=fun v a b ha hb=>by
  rcases iH ha with ⟨i,t,rfl,rfl⟩ | ⟨x,t,rfl,rfl⟩
  ·rcases iH hb with ⟨j,u,rfl,e⟩ | ⟨y,u,rfl,e⟩
   ·injection e with e1 _; rw [e1]
   ·exact nomatch e
  ·rcases iH hb with ⟨j,u,rfl,e⟩ | ⟨y,u,rfl,e⟩
   ·exact nomatch e
   ·injection e with e1 _; rw [e1]
 byValue:=fun k v h=>by
  rcases iH h with ⟨i,t,rfl,rfl⟩ | ⟨x,t,rfl,rfl⟩ <;> rfl
 pyHash:=fun hv h=>by
  rcases iH hv with ⟨i,t,rfl,rfl⟩ | ⟨x,t,rfl,rfl⟩
  ·exact wpAny_pyHash_int h
  ·exact wpAny_pyHash_str h
 eqBool:=fun hu hv h=>by
  rcases iH hu with ⟨i,t,rfl,rfl⟩ | ⟨x,t,rfl,rfl⟩
  ·rcases iH hv with ⟨j,u,rfl,rfl⟩ | ⟨y,u,rfl,rfl⟩
   ·rw [ai4] at h; exact wpAny_eqBool_int h
   ·rw [ai6] at h; exact SeqAt.EqAt.int_str i t y u _ _ _ _ h
  ·rcases iH hv with ⟨j,u,rfl,rfl⟩ | ⟨y,u,rfl,rfl⟩
   ·rw [ai7] at h; exact SeqAt.EqAt.str_int x t j u _ _ _ _ h
   ·rw [ai5] at h; exact wpAny_eqBool_str h
 «strs»:=fun k x t v h=>by
  rcases iH h with ⟨i,u,rfl,e⟩ | ⟨y,u,rfl,e⟩
  ·exact nomatch e
  ·injection e with e1 _
   subst e1
   cases v <;> rfl
theorem ai8 (prog:Program) (w:World) (i:Int) (t:Tok):(eG prog w).is (.inl i) (.int i t)=true:=ai2 i t
theorem ai9 (prog:Program) (w:World) (x:Str) (t:Tok):(eG prog w).is (.inr x) (.str x t)=true:=ai3 x t
inductive V where
 | non | bl (b:Bool) | int (i:Int) | str (x:Str) | byt (b:Array UInt8) | flt (b:UInt64) | ref (a:Addr) | ty (n:String)
 deriving DecidableEq
def aV:V->Value->Prop
 | .non,u=>u=Value.none
 | .bl b,u=>u=Value.bool b
 | .int i,u=>∃ t,u=Value.int i t
 | .str x,u=>∃ t,u=Value.str x t
 | .byt b,u=>∃ t,u=Value.bytes b t
 | .flt b,u=>∃ t,u=Value.float b t
 | .ref a,u=>u=Value.ref a
 | .ty n,u=>u=Value.type n
abbrev aN:List V->List Value->Prop:=Paired aV
theorem aN.length {xs:List V}{us:List Value} (r:aN xs us):xs.length=us.length:=Paired.length r
theorem aN.get:∀ {xs:List V}{us:List Value}{i:Nat}{x:V},aN xs us->xs[i]? = some x->∃ u,us[i]? = some u/\aV x u
 | _,_,_,_,.nil,e=>by simp at e
 | _,_,0,_,.cons r _,e=>by simp at e; subst e; exact⟨_,rfl,r⟩
 | _,_,i+1,x,.cons _ t,e=>by
  obtain ⟨u,h1,h2⟩:=aN.get (i:=i) (x:=x) t (by simpa using e)
  exact⟨u,by simpa using h1,h2⟩
theorem aN.set {x:V}{u:Value} (r:aV x u):∀ {xs:List V}{us:List Value} (i:Nat),aN xs us->aN (xs.set i x) (us.set i u)
 | _,_,_,.nil=>.nil
 | _,_,0,.cons _ t=>.cons r t
 | _,_,i+1,.cons q t=>.cons q (aN.set r i t)
theorem aN.append:∀ {xs ys:List V}{us ws:List Value},aN xs us->aN ys ws->aN (xs ++ ys) (us ++ ws)
 | _,_,_,_,.nil,s=>s
 | _,_,_,_,.cons r t,s=>.cons r (aN.append t s)
theorem aN.take:∀ {xs:List V}{us:List Value} (n:Nat),aN xs us->aN (xs.take n) (us.take n)
 | _,_,0,_=>.nil
 | _,_,_+1,.nil=>.nil
 | _,_,n+1,.cons r t=>.cons r (aN.take n t)
theorem aN.drop:∀ {xs:List V}{us:List Value} (n:Nat),aN xs us->aN (xs.drop n) (us.drop n)
 | _,_,0,r=>r
 | _,_,_+1,.nil=>.nil
 | _,_,n+1,.cons _ t=>aN.drop n t
def kH:Option V->Option Value->Prop
 | some v,some u=>aV v u
 | none,none=>True
 | _,_=>False
def KV {κ:Type}:List (κ × V)->List (κ × Value)->Prop:=Paired fun (p:κ × V) (q:κ × Value)=>p.1=q.1/\aV p.2 q.2
def kV:aE->V
 | .inl i=>.int i
 | .inr x=>.str x
inductive HO where
 | lst (xs:List V)
 | tup (xs:List V)
 | dK (kvs:List (aE × V)) | dT (kvs:List (List aE × V))
 | set (S:Int->Bool) (n:Nat)
 | ins (C dx:Addr) (fs:List (Str × V))
 | own (x:Addr)
 | xd (fs:List (Str × V))
 | met (f x:Addr)
 | rng (lo hi:Int)
 | frz (o:Obj) (u:HO)
 | tbl (ps:Array Value)
 | ext (φ:Heap->Prop)
abbrev Hp:=Addr->Option HO
def upd (H:Hp) (a:Addr) (o:HO):Hp:=fun b=>if b=a then some o else H b
theorem bE {H:Hp}{a:Addr}{o:HO}:upd H a o a=some o:=by unfold upd; rw [if_pos rfl]
theorem aR {H:Hp}{a b:Addr}{o:HO} (h:b ≠ a):upd H a o b=H b:=by unfold upd; rw [if_neg h]
theorem aj0 {H:Hp}{a b:Addr}{o u:HO} (h:H a=some o) (h':H b=some u) (d:o ≠ u):a ≠ b:=by
 intro e; subst e; rw [h] at h'; exact d (bj9 h')
theorem cH {H:Hp}{a b:Addr}{o:HO} (h:H a=some o) (h':H b=none):a ≠ b:=by
 intro e; subst e; rw [h] at h'; cases h'
def gT (h:Heap) (a:Addr):Prop:=∀ o,h.get? a=some o->o.dict=none
theorem gT.new (h:Heap) (o:Obj) (d:o.dict=none) (s:o.isFreed=false:=by rfl):gT (h.push o) h.objs.size:=fun u e=>by
 rw [bi0 h (o:=o) s] at e
 cases e; exact d
theorem gT.stay {h h':Heap}{a:Addr}{o:Obj} (n:gT h a) (e:h.get? a=some o) (e':h'.get? a=some o):gT h' a:=fun u hu=>by
 rw [e'] at hu; cases hu; exact n _ e
section
variable (P : Program) (w : World)
def bR (H:Hp) (h:Heap) (a:Addr):HO->Prop
 | .lst xs=>xs.length<=sizeLine/\∃ (its:List Value) (n:Nat),aN xs its/\h.get? a=some { cls:=.type "list",data:=.seq its.toArray n }
 | .tup xs=>xs.length<=sizeLine/\∃ its:List Value,aN xs its/\IsTup h a its.toArray/\gT h a
 | .dK kvs=>kvs.length<=sizeLine/\(a == sysModules)=false/\∃ vs,KV kvs vs/\h.DictOf (eG P w) a vs
 | .dT kvs=>kvs.length<=sizeLine/\(a == sysModules)=false/\∃ xs:List (List aE × Addr × Value),
   Paired (fun (p:List aE × V) (q:List aE × Addr × Value)=>p.1=q.1/\H q.2.1=some (.tup (p.1.map kV))/\aV p.2 q.2.2) kvs xs/\
   ∃ o es ep,h.get? a=some o/\o.ExactDict/\o.data = .dict es ep/\es.toList=xs.map (entryOfKey (tupleKind (eG P w)))/\(xs.map (·.1)).Nodup
 | .set S n=>h.SetOf (intKind P w) a S n
 | .ins C dx fs=>H dx=some (.own a)/\fs.length<=1000/\dx ≠ a/\h.get? a=some (PySem.W.instObj C dx)/\
   ∃ mA,h.Ns1 dx mA/\(∀ f,kH (fs.lookup f) (mA f))/\PySem.Within mA (fs.map (·.1))
 | .own _=>∃ o,h.get? a=some o
 | .xd fs=>∃ mA,h.Ns1 a mA/\∀ f,kH (fs.lookup f) (mA f)
 | .rng lo hi=>∃ t u v,h.get? a=some { cls:=.type "range",data:=.fields #[.int lo t,.int hi u,.int 1 v] }
 | .frz o u=>h.get? a=some o/\bR H h a u
 | .tbl ps=>h.get? a=some { cls:=.none,data:=.fields ps }
 | .met f x=>h.get? a=some (PySem.W.methodObj (.ref f) (.ref x))
 | .ext φ=>φ h/\(∃ o,h.get? a=some o)/\∀ h1 h2:Heap,φ h1->(∀ o,h1.get? a=some o->h2.get? a=some o)->φ h2
def bS (H:Hp) (h:Heap):Prop:=∀ a o,H a=some o->bR P w H h a o
end
section
variable {P : Program} {w : World} {H H' : Hp} {h h' : Heap} {a : Addr} {o : HO}
theorem bR.lt (x:bR P w H h a o):a < h.objs.size:=by
 cases o with
 | lst xs=>obtain ⟨_,_,_,_,e⟩:=x; exact bi1 e
 | tup xs=>obtain ⟨_,_,_,p,_⟩:=x; exact p.lt
 | dK kvs=>obtain ⟨_,_,_,_,o,_,_,e,_⟩:=x; exact bi1 e
 | dT kvs=>obtain ⟨_,_,_,_,o,_,_,e,_⟩:=x; exact bi1 e
 | set S n=>obtain ⟨o,_,_,_,e,_⟩:=x; exact bi1 e
 | ins C dx fs=>obtain ⟨_,_,_,e,_⟩:=x; exact bi1 e
 | own y=>obtain ⟨_,e⟩:=x; exact bi1 e
 | xd fs=>obtain ⟨_,⟨_,_,_,e,_⟩,_⟩:=x; exact bi1 e
 | rng lo hi=>obtain ⟨_,_,_,e⟩:=x; exact bi1 e
 | frz ob u=>obtain ⟨e,_⟩:=x; exact bi1 e
 | tbl ps=>exact bi1 (show h.get? a=some _ from x)
 | met f y=>exact bi1 (show h.get? a=some _ from x)
 | ext φ=>obtain ⟨_,⟨_,e⟩,_⟩:=x; exact bi1 e
theorem Paired.mapP {α β:Type}{F G:α->β->Prop}:∀ {l₁:List α}{l₂:List β},Paired F l₁ l₂->(∀ a b,F a b->G a b)->Paired G l₁ l₂
 | _,_,.nil,_=>.nil
 | _,_,.cons r t,f=>.cons (f _ _ r) (Paired.mapP t f)
theorem bR.stay (x:bR P w H h a o) (k:∀ b u,(b=a ∨ H b=some (.own a))->h.get? b=some u->h'.get? b=some u)
  (ho:∀ b,H b=some (.own a)->H' b=some (.own a)) (ht:∀ b xs,H b=some (.tup xs)->H' b=some (.tup xs)):bR P w H' h' a o:=by
 induction o with
 | lst xs=>obtain ⟨z,its,n,r,e⟩:=x; exact⟨z,its,n,r,k _ _ (.inl rfl) e⟩
 | tup xs=>obtain ⟨z,its,r,⟨ob,e,c⟩,nd⟩:=x; exact⟨z,its,r,⟨ob,k _ _ (.inl rfl) e,c⟩,nd.stay e (k _ _ (.inl rfl) e)⟩
 | dK kvs=>obtain ⟨z,y,vs,r,ob,es,ep,e,c⟩:=x; exact⟨z,y,vs,r,ob,es,ep,k _ _ (.inl rfl) e,c⟩
 | dT kvs=>
  obtain ⟨z,y,xs,r,ob,es,ep,e,c⟩:=x
  exact⟨z,y,xs,Paired.mapP r fun p q z=>⟨z.1,ht _ _ z.2.1,z.2.2⟩,ob,es,ep,k _ _ (.inl rfl) e,c⟩
 | set S n=>obtain ⟨ob,es,ep,t,e,c⟩:=x; exact⟨ob,es,ep,t,k _ _ (.inl rfl) e,c⟩
 | ins C dx fs=>
  obtain ⟨d,z,ne,e,mA,⟨od,es,ep,e2,c⟩,r⟩:=x
  exact⟨ho _ d,z,ne,k _ _ (.inl rfl) e,mA,⟨od,es,ep,k _ _ (.inr d) e2,c⟩,r⟩
 | own y=>obtain ⟨ob,e⟩:=x; exact⟨ob,k _ _ (.inl rfl) e⟩
 | xd fs=>obtain ⟨mA,⟨od,es,ep,e,c⟩,r⟩:=x; exact⟨mA,⟨od,es,ep,k _ _ (.inl rfl) e,c⟩,r⟩
 | rng lo hi=>obtain ⟨t,u,v,e⟩:=x; exact⟨t,u,v,k _ _ (.inl rfl) e⟩
 | frz ob u ih=>obtain ⟨e,q⟩:=x; exact⟨k _ _ (.inl rfl) e,ih q⟩
 | tbl ps=>
  have e:h.get? a=some { cls:=.none,data:=.fields ps }:=x
  show h'.get? a=some { cls:=.none,data:=.fields ps }
  exact k a _ (.inl rfl) e
 | met f y=>
  have e:h.get? a=some (PySem.W.methodObj (.ref f) (.ref y)):=x
  show h'.get? a=some (PySem.W.methodObj (.ref f) (.ref y))
  exact k a _ (.inl rfl) e
 | ext φ=>obtain ⟨p,⟨o,e⟩,st⟩:=x; exact⟨st _ _ p fun o q=>k _ _ (.inl rfl) q,⟨o,k _ _ (.inl rfl) e⟩,st⟩
theorem bS.lt (x:bS P w H h) (e:H a=some o):a < h.objs.size:=(x a o e).lt
theorem bS.fresh (x:bS P w H h) (e:h.objs.size<=a):H a=none:=by
 cases q:H a with
 | none=>rfl
 | some u=>exact absurd (bi2 (x.lt q) e) (bo2 _)
theorem bS.kept (x:bS P w H h) (k:∀ b u,h.get? b=some u->h'.get? b=some u):bS P w H h':=fun a o e=>
 (x a o e).stay (fun b u _ q=>k b u q) (fun _ q=>q) fun _ _ q=>q
theorem bS.laid (x:bS P w H h) (k:∀ b u,h.get? b=some u->h'.get? b=some u) (hp:h.objs.size<=a) (new:bR P w (upd H a o) h' a o):bS P w (upd H a o) h':=fun b u e=>by
 have hn:=x.fresh hp
 by_cases hb:b=a
 ·subst hb; rw [bE] at e; cases e; exact new
 ·rw [aR hb] at e
  exact (x b u e).stay (fun c v _ q=>k c v q) (fun c q=>by rw [aR (cH q hn)]; exact q) fun c xs q=>by rw [aR (cH q hn)]; exact q
end
def Rd (H:Hp) (a:Addr) (u:HO):Prop:=H a=some u ∨ ∃ o,H a=some (.frz o u)
theorem Rd.ok {P:Program}{w:World}{H:Hp}{h:Heap}{a:Addr}{u:HO} (r:Rd H a u) (x:bS P w H h):bR P w H h a u:=by
 rcases r with r | ⟨o,r⟩
 ·exact x a u r
 ·obtain ⟨_,q⟩:=x a _ r
  exact q
def nB:Option HO->Prop
 | some (.lst _)=>True
 | some (.dK _)=>True
 | some (.dT _)=>True
 | some (.set _ _)=>True
 | some (.ins _ _ _)=>True
 | some (.ext _)=>True
 | _=>False
section
variable {P : Program} {w : World} {H : Hp} {h h' : Heap} {x e : Addr} {o' : HO}
theorem bS.write (ok:bS P w H h) (mu:nB (H x)) (he:e=x ∨ H e=some (.own x)) (k:∀ b u,b ≠ e->h.get? b=some u->h'.get? b=some u) (heo:∃ u,h'.get? e=some u)
  (new:bR P w (upd H x o') h' x o'):bS P w (upd H x o') h':=fun b u q=>by
 have nown:∀ c y,H c=some (.own y)->c ≠ x:=fun c y r z=>by subst z; rw [r] at mu; exact mu
 have ntup:∀ c xs,H c=some (.tup xs)->c ≠ x:=fun c xs r z=>by subst z; rw [r] at mu; exact mu
 by_cases hb:b=x
 ·subst hb; rw [bE] at q; cases q; exact new
 ·rw [aR hb] at q
  by_cases hbe:b=e
  ·have q':H b=some (.own x):=by
    rcases he with z | z
    ·exact absurd (hbe.trans z) hb
    ·rw [hbe]; exact z
   rw [q] at q'; cases q'
   obtain ⟨v,hv⟩:=heo
   exact⟨v,by rw [hbe]; exact hv⟩
  ·refine (ok b u q).stay (fun c v hc r=>k c v ?_ r) (fun c r=>by rw [aR (nown c b r)]; exact r) fun c xs r=>by rw [aR (ntup c xs r)]; exact r
   rcases hc with rfl | hc
   ·exact hbe
   ·rintro rfl
    rcases he with z | z
    ·exact nown c b hc z
    ·rw [hc] at z; cases z; exact hb rfl
end
structure Un (fs ex:List Addr) (H H':Hp) (h h':Heap):Prop where
 keep:∀ b o,h.get? b=some o->H b=none->b ∉ fs->b ∉ ex->h'.get? b=some o
 slot:∀ b o,h.get? b=some o->H b=none->b ∈ fs->b ∉ ex->∃ sl,h'.get? b=some { o with slots:=sl }
 free:∀ b o,h.get? b=some o->H b=none->b ∉ ex->H' b=none
 there:∀ b o,h.get? b=some o->b ∉ ex->∃ o',h'.get? b=some o'
 tups:∀ b xs,H b=some (.tup xs)->H' b=some (.tup xs)
 frzs:∀ b o u,H b=some (.frz o u)->H' b=some (.frz o u)
 tbls:∀ b ps,H b=some (.tbl ps)->∃ more,H' b=some (.tbl (ps ++ more))
section
variable {fs fs' ex ex' : List Addr} {H H1 H2 : Hp} {h h1 h2 h' : Heap} {a x e : Addr} {o : HO}
theorem Un.any (u:Un fs ex H H1 h h1) {b:Addr}{ob:Obj} (q:h.get? b=some ob) (n:H b=none) (hx:b ∉ ex):∃ sl,h1.get? b=some { ob with slots:=sl }:=by
 by_cases hb:b ∈ fs
 ·exact u.slot b ob q n hb hx
 ·exact⟨ob.slots,u.keep b ob q n hb hx⟩
theorem Un.kept (k:∀ b u,h.get? b=some u->h'.get? b=some u):Un fs ex H H h h':=
 ⟨fun b ob q _ _ _=>k b ob q,fun b ob q _ _ _=>⟨ob.slots,k b ob q⟩,fun _ _ _ n _=>n,fun b ob q _=>⟨ob,k b ob q⟩,fun _ _ q=>q,fun _ _ _ q=>q,fun _ ps q=>⟨#[],by rw [q]; simp⟩⟩
theorem Un.refl:Un fs ex H H h h:=Un.kept fun _ _ q=>q
theorem Un.laid (k:∀ b u,h.get? b=some u->h'.get? b=some u) (hp:h.objs.size<=a) (hn:H a=none):Un fs ex H (upd H a o) h h' where
 keep:=fun b u q _ _ _=>k b u q
 slot:=fun b u q _ _ _=>⟨u.slots,k b u q⟩
 free:=fun b u q n _=>by rw [aR (bk4 (bi2 (bi1 q) hp))]; exact n
 there:=fun b u q _=>⟨u,k b u q⟩
 tups:=fun b xs q=>by rw [aR (cH q hn)]; exact q
 frzs:=fun b u xs q=>by rw [aR (cH q hn)]; exact q
 tbls:=fun b ps q=>⟨#[],by rw [aR (cH q hn),q]; simp⟩
theorem Un.write (mu:nB (H x)) (he:e=x ∨ H e=some (.own x)) (k:∀ b u,b ≠ e->h.get? b=some u->h'.get? b=some u) (heo:∃ u,h'.get? e=some u):Un fs ex H (upd H x o) h h':=by
 have hx:∀ b,H b=none->b ≠ x:=fun b n z=>by subst z; rw [n] at mu; exact mu
 have hb:∀ b,H b=none->b ≠ e:=fun b n z=>by
  subst z
  rcases he with r | r
  ·exact hx b n r
  ·rw [n] at r; cases r
 have hm:∀ b u,H b=some u->¬ nB (some u)->b ≠ x:=fun b u q nm z=>by subst z; rw [q] at mu; exact nm mu
 refine⟨fun b u q n _ _=>k b u (hb b n) q,fun b u q n _ _=>⟨u.slots,k b u (hb b n) q⟩,fun b u q n _=>by rw [aR (hx b n)]; exact n,fun b u q _=>?_,
  fun b xs q=>by rw [aR (hm b _ q fun z=>z)]; exact q,fun b u xs q=>by rw [aR (hm b _ q fun z=>z)]; exact q,fun b ps q=>⟨#[],by rw [aR (hm b _ q fun z=>z),q]; simp⟩⟩
 by_cases hbe:b=e
 ·subst hbe; exact heo
 ·exact⟨u,k b u hbe q⟩
end
def pN (h:Heap) (H:Hp):List Addr:=(List.range h.objs.size).filter fun a=>(H a).isSome
def iX (h:Heap) (H:Hp):Heap:=PySem.W.hideAll h (pN h H)
theorem aj1 (h:Heap) (H:Hp):(iX h H).objs.size=h.objs.size:=PySem.W.hideAll_size _ _
theorem aj2 {h:Heap}{H:Hp}{b:Addr}{o:Obj} (e:h.get? b=some o) (n:H b=none):(iX h H).get? b=some o:=
 PySem.W.hideAll_get _ e fun hm=>by
  have q:(H b).isSome=true:=(bj8.mp hm).2
  rw [n] at q; simp at q
theorem aj3 {h:Heap}{H:Hp}{b:Addr}{o:Obj} (e:(iX h H).get? b=some o):h.get? b=some o/\H b=none:=by
 have e':h.get? b=some o:=PySem.W.of_hideAll (pN h H) e
 refine⟨e',?_⟩
 cases q:H b with
 | none=>rfl
 | some x=>
  have hm:b ∈ pN h H:=bj8.mpr ⟨List.mem_range.mpr (bi1 e'),by simp [q]⟩
  have z:(iX h H).get? b=none:=PySem.W.hideAll_none (pN h H) hm
  rw [z] at e; cases e
def aj4 (g h:Heap) (L:Addr):List (Addr × Obj):=(List.range h.objs.size).filterMap fun a=>if a=L ∨ (g.get? a).isSome=true then none else (h.get? a).map fun o=>(a,o)
def cY (g h:Heap) (L d:Addr):List (Addr × Obj):=(aj4 g h L).filter fun p=>decide (p.1 ≠ d)
structure Mod (K:PySem.W.Frag) (mg:Str->Option Value) (base:Heap):Prop where
 kin:K.In base
 glob:base.Ns mainGlobals mg
 blt:∃ mb,base.Ns builtinsNs mb/\∀ x:Str,x ≠ "__name__"->mb x=bootBuiltins x
 nolimit:base.NoLimit
structure Cx where
 prog:Program
 w:World
 K:PySem.W.Frag
 mg:Str->Option Value
 base:Heap
 A:Around
 N:List Str
 s₀:Shared
 H₀:Hp
 env:Env
 outer:List Env
 stack:List Env
 ex:List Addr
 fn:Str->Bool
 calm:Bool
 pn:List (Addr × Obj)
 xe:Value->Shared->Prop
def bN (l:List Env):List Addr:=l.filterMap (·.frame)
abbrev Cx.fs (X:Cx):List Addr:=bN X.outer
def fZ (sc:Scope) (x:Str):Prop:=sc.names.lookup x=some .local ∨ sc.names.lookup x=some .cell ∨ sc.names.lookup x=some .free
def iY (sc:Scope) (x:Str):Prop:=sc.names.lookup x=some .local ∨ sc.names.lookup x=some .cell
def aj5 (env:Env) (h:Heap) (m:Str->Option Value) (x:Str) (u:Value):Prop:=
 (env.kindOf x=some .local/\m x=some u) ∨ ((env.kindOf x=some .cell ∨ env.kindOf x=some .free)/\∃ c,env.cells.lookup x=some c/\h.IsCell c (some u))
structure Cx.Ok (X:Cx):Prop where
 mod:Mod X.K X.mg X.base
 kind:X.env.scope.kind = .function
 glob:X.env.globals=mainGlobals
 blt:X.env.builtins=builtinsNs
 above:X.s₀.heap.objs.size<=X.env.locals
 inj:∀ x y c,X.env.cells.lookup x=some c->X.env.cells.lookup y=some c->x=y
 has:∀ x,(X.env.kindOf x=some .cell ∨ X.env.kindOf x=some .free)->∃ c,X.env.cells.lookup x=some c
 cab:∀ x c,X.fn x=true->X.env.cells.lookup x=some c->X.s₀.heap.objs.size<=c
 hd:X.calm=true->X.A.handled=none
 frames:X.A.frames=some X.stack
 stk:X.stack=X.outer ∨ (X.stack=X.env :: X.outer/\X.env.frame=some X.env.locals)
 exf:∀ b ∈ X.ex,b ≠ X.env.locals/\∀ x c,X.env.cells.lookup x=some c->c ≠ b
 bs:∀ b o,X.base.get? b=some o->X.s₀.heap.get? b=some o/\X.H₀ b=none
 bsz:X.base.objs.size<=X.s₀.heap.objs.size
 noex:∀ b o,X.base.get? b=some o->b ∉ X.ex
 exfs:∀ b ∈ X.ex,b ∉ X.fs
 funs:X.s₀.heap.FunFrames X.base X.outer
 frf:∀ b ∈ X.fs,X.H₀ b=none
structure a8 (X:Cx) (pins:List (Addr × Obj)) (σ:List (Option V)) (H:Hp) (s:Shared):Prop where
 ok:X.Ok
 os:s.os=X.s₀.os
 bare:AllBare s.gens
 base:Un X.fs X.ex X.H₀ H X.s₀.heap s.heap
 loc:∃ m,s.heap.Ns X.env.locals m/\∀ (i:Nat) (x:Str) (v:V),X.N[i]? = some x->σ[i]? = some (some v)->fZ X.env.scope x->∃ u,aV v u/\aj5 X.env s.heap m x u
 cell:∀ x c,X.env.cells.lookup x=some c->∃ v,s.heap.IsCell c v
 free:H X.env.locals=none
 freeC:∀ x c,X.env.cells.lookup x=some c->H c=none
 pin:∀ p ∈ X.pn ++ pins,s.heap.get? p.1=some p.2/\H p.1=none/\p.1 ≠ X.env.locals/\p.1 ∉ X.fs/\∀ v,p.2.data ≠ .cell v
 hok:bS X.prog X.w H s.heap
 len:σ.length=X.N.length
section
variable {X : Cx} {pins : List (Addr × Obj)} {σ : List (Option V)} {H H' : Hp} {s : Shared} {h' : Heap}
theorem Cx.Ok.nofr (ok:X.Ok) {b:Addr}{o:Obj} (e:X.base.get? b=some o):b ∉ X.fs:=fun hb=>by
 have:=(ok.funs.mem hb).1
 rw [e] at this; cases this
theorem a8.bs (I:a8 X pins σ H s):∀ b o,X.base.get? b=some o->s.heap.get? b=some o/\H b=none:=fun b o e=>
 ⟨I.base.keep b o (I.ok.bs b o e).1 (I.ok.bs b o e).2 (I.ok.nofr e) (I.ok.noex b o e),I.base.free b o (I.ok.bs b o e).1 (I.ok.bs b o e).2 (I.ok.noex b o e)⟩
theorem a8.bk (I:a8 X pins σ H s):∀ b o,X.base.get? b=some o->s.heap.get? b=some o:=fun b o e=>(I.bs b o e).1
theorem a8.mod (I:a8 X pins σ H s):Mod X.K X.mg X.base:=I.ok.mod
theorem a8.kIn (I:a8 X pins σ H s):X.K.In s.heap:=I.ok.mod.kin.keeps I.bk
theorem a8.fr (I:a8 X pins σ H s):∃ m,Fr X.base X.env.locals s.heap m:=
 let ⟨m,hn,_⟩:=I.loc
 ⟨m,hn,I.bk,bk3 I.ok.bsz I.ok.above⟩
theorem a8.lt (I:a8 X pins σ H s):X.env.locals < s.heap.objs.size:=let ⟨_,hn,_⟩:=I.loc; hn.lt
theorem a8.sz (I:a8 X pins σ H s):X.s₀.heap.objs.size<=s.heap.objs.size:=bk3 I.ok.above (bm2 I.lt)
theorem a8.nofs (I:a8 X pins σ H s) {a:Addr} (h:s.heap.objs.size<=a):a ∉ X.fs:=fun hb=>by
 obtain ⟨_,o,ho,_⟩:=I.ok.funs.mem hb
 exact absurd (bi2 (bi1 ho) (bk3 I.sz h)) (bo2 _)
theorem a8.cne (I:a8 X pins σ H s):∀ x c,X.env.cells.lookup x=some c->c ≠ X.env.locals:=fun x c e z=>by
 obtain ⟨v,o,ho,hd⟩:=I.cell x c e
 obtain ⟨m,⟨o',es,ep,ho',hd',_⟩,_⟩:=I.loc
 rw [z,ho'] at ho; cases ho; rw [hd'] at hd; cases hd
theorem a8.funs (I:a8 X pins σ H s):s.heap.FunFrames X.base X.outer:=by
 have all:∀ (l:List Env),(∀ b ∈ bN l,b ∈ X.fs)->X.s₀.heap.FunFrames X.base l->s.heap.FunFrames X.base l:=by
  intro l
  induction l with
  | nil=>intro _ _; trivial
  | cons env r ih=>
   intro hs hl
   obtain ⟨hk,⟨L,o,hf,hn,ho,hd⟩,hr⟩:=hl
   have hL:L ∈ X.fs:=hs L (by unfold bN; rw [List.filterMap_cons,hf]; exact bi4)
   obtain ⟨sl,e⟩:=I.base.slot L o ho (I.ok.frf L hL) hL fun z=>I.ok.exfs L z hL
   exact⟨hk,⟨L,_,hf,hn,e,hd⟩,ih (fun b hb=>hs b (by unfold bN; rw [List.filterMap_cons,hf]; exact bi9 _ hb)) hr⟩
 exact all X.outer (fun _ hb=>hb) I.ok.funs
theorem a8.stack (I:a8 X pins σ H s):s.heap.FunFrames X.base X.stack:=by
 rcases I.ok.stk with e | ⟨e,hf⟩
 ·rw [e]; exact I.funs
 ·rw [e]
  obtain ⟨m,hn,_⟩:=I.loc
  refine .cons (by rw [I.ok.kind]; decide) hf hn ?_ I.funs
  exact Heap.get?_none_of_le (bk3 I.ok.bsz I.ok.above)
theorem a8.stkSub (I:a8 X pins σ H s):∀ b ∈ bN X.stack,b ∈ X.env.locals :: X.fs:=fun b hb=>by
 rcases I.ok.stk with e | ⟨e,hf⟩
 ·rw [e] at hb; exact bi9 _ hb
 ·rw [e] at hb
  unfold bN at hb
  rw [List.filterMap_cons,hf] at hb
  exact hb
theorem a8.stkFree (I:a8 X pins σ H s):∀ b ∈ bN X.stack,H b=none:=fun b hb=>by
 rcases bh1.mp (I.stkSub b hb) with e | hb
 ·rw [e]; exact I.free
 ·obtain ⟨_,o,ho,_⟩:=I.ok.funs.mem hb
  exact I.base.free b o ho (I.ok.frf b hb) fun z=>I.ok.exfs b z hb
theorem a8.step {g':Array GenState}{t':Nat}{d':Drawn}{ch:List Addr} (I:a8 X pins σ H s)
  (hch:∀ b ∈ ch,(b ∈ X.ex ∨ X.s₀.heap.objs.size<=b)/\b ≠ X.env.locals/\(∀ x c,X.env.cells.lookup x=some c->c ≠ b)/\∀ p ∈ X.pn ++ pins,p.1 ≠ b)
  (keep:∀ b o,b ≠ X.env.locals->b ∉ X.fs->b ∉ ch->s.heap.get? b=some o->H b=none->h'.get? b=some o)
  (slot:∀ b o,b ≠ X.env.locals->b ∈ X.fs->b ∉ ch->s.heap.get? b=some o->H b=none->∃ sl,h'.get? b=some { o with slots:=sl }) (free:∀ b o,b ∉ ch->s.heap.get? b=some o->H b=none->H' b=none)
  (there:∀ b o,b ∉ ch->s.heap.get? b=some o->∃ o',h'.get? b=some o')
  (tups:∀ b xs,H b=some (.tup xs)->H' b=some (.tup xs)) (frzs:∀ b o u,H b=some (.frz o u)->H' b=some (.frz o u)) (tbls:∀ b ps,H b=some (.tbl ps)->∃ more,H' b=some (.tbl (ps ++ more)))
  (ns:∀ m,s.heap.Ns X.env.locals m->h'.Ns X.env.locals m) (hok:bS X.prog X.w H' h') (hg:AllBare g') :
  a8 X pins σ H' { s with heap:=h',gens:=g',drawn:=d',toks:=t' }:=by
 have neL:∀ b o,X.s₀.heap.get? b=some o->b ≠ X.env.locals:=fun b o e=>bk4 (bi2 (bi1 e) I.ok.above)
 have neC:∀ b o,X.s₀.heap.get? b=some o->b ∉ X.ex->b ∉ ch:=fun b o e hx hb=>by
  rcases (hch b hb).1 with z | z
  ·exact hx z
  ·exact absurd (bi2 (bi1 e) z) (bo2 _)
 have cellK:∀ x c,X.env.cells.lookup x=some c->∀ v,s.heap.IsCell c v->h'.IsCell c v:=fun x c e v ⟨o,ho,hd⟩=>by
  have nch:c ∉ ch:=fun z=>(hch c z).2.2.1 x c e rfl
  by_cases hc:c ∈ X.fs
  ·obtain ⟨sl,q⟩:=slot c o (I.cne x c e) hc nch ho (I.freeC x c e)
   exact⟨_,q,hd⟩
  ·exact⟨o,keep c o (I.cne x c e) hc nch ho (I.freeC x c e),hd⟩
 refine⟨I.ok,I.os,hg,⟨fun b o e n hb hx=>?_,fun b o e n hb hx=>?_,fun b o e n hx=>?_,fun b o e hx=>?_,fun b xs e=>tups b xs (I.base.tups b xs e),fun b o xs e=>frzs b o xs (I.base.frzs b o xs e),fun b ps e=>?_⟩,?_,fun x c e=>?_,?_,fun x c e=>?_,fun p hp=>?_,hok,I.len⟩
 ·exact keep b o (neL b o e) hb (neC b o e hx) (I.base.keep b o e n hb hx) (I.base.free b o e n hx)
 ·obtain ⟨sl,e1⟩:=I.base.slot b o e n hb hx
  obtain ⟨sl',e2⟩:=slot b _ (neL b o e) hb (neC b o e hx) e1 (I.base.free b o e n hx)
  exact⟨sl',e2⟩
 ·obtain ⟨o',e1⟩:=I.base.there b o e hx
  exact free b o' (neC b o e hx) e1 (I.base.free b o e n hx)
 ·obtain ⟨o',e1⟩:=I.base.there b o e hx
  exact there b o' (neC b o e hx) e1
 ·obtain ⟨m1,e1⟩:=I.base.tbls b ps e
  obtain ⟨m2,e2⟩:=tbls b _ e1
  exact⟨m1 ++ m2,by rw [e2,Array.append_assoc]⟩
 ·obtain ⟨m,hn,hl⟩:=I.loc
  refine⟨m,ns m hn,fun i x v e1 e2 e3=>?_⟩
  obtain ⟨u,r,l⟩:=hl i x v e1 e2 e3
  refine⟨u,r,?_⟩
  rcases l with l | ⟨k,c,e,z⟩
  ·exact .inl l
  ·exact .inr ⟨k,c,e,cellK x c e _ z⟩
 ·obtain ⟨v,z⟩:=I.cell x c e
  exact⟨v,cellK x c e v z⟩
 ·obtain ⟨m,⟨o,_,_,ho,_⟩,_⟩:=I.loc
  exact free _ o (fun z=>(hch _ z).2.1 rfl) ho I.free
 ·obtain ⟨v,o,ho,hd⟩:=I.cell x c e
  exact free c o (fun z=>(hch c z).2.2.1 x c e rfl) ho (I.freeC x c e)
 ·obtain ⟨e,n,ne,nf,d⟩:=I.pin p hp
  have nch:p.1 ∉ ch:=fun z=>(hch p.1 z).2.2.2 p hp rfl
  exact⟨keep p.1 p.2 ne nf nch e n,free p.1 p.2 nch e n,ne,nf,d⟩
theorem a8.un {t':Nat} (I:a8 X pins σ H s) (u:Un X.fs [] H H' s.heap h') (hok:bS X.prog X.w H' h'):a8 X pins σ H' { s with heap:=h',toks:=t' }:=by
 obtain ⟨m,⟨o,es,ep,ho,r⟩,_⟩:=id I.loc
 obtain ⟨sl,hL⟩:=u.any ho I.free (by simp)
 exact I.step (g':=s.gens) (d':=s.drawn) (ch:=[]) (fun _ z=>nomatch z) (fun b o _ hb _ e n=>u.keep b o e n hb (by simp)) (fun b o _ hb _ e n=>u.slot b o e n hb (by simp)) (fun b o _ e n=>u.free b o e n (by simp)) (fun b o _ e=>u.there b o e (by simp)) u.tups u.frzs u.tbls (fun m' hm=>by
  obtain ⟨o',es',ep',ho',r'⟩:=hm
  rw [ho] at ho'; cases ho'
  exact⟨_,es',ep',hL,r'⟩) hok I.bare
theorem a8.call {g':Array GenState}{t':Nat}{d':Drawn}{ch:List Addr} (I:a8 X pins σ H s) (u:Un (bN X.stack) ch H H' s.heap h') (hok:bS X.prog X.w H' h') (hg:AllBare g')
  (hch:∀ b ∈ ch,(b ∈ X.ex ∨ X.s₀.heap.objs.size<=b)/\b ≠ X.env.locals/\(∀ x c,X.env.cells.lookup x=some c->c ≠ b)/\∀ p ∈ X.pn ++ pins,p.1 ≠ b) :
  a8 X pins σ H' { s with heap:=h',gens:=g',drawn:=d',toks:=t' }:=by
 obtain ⟨m,⟨o,es,ep,ho,r⟩,_⟩:=id I.loc
 obtain ⟨sl,hL⟩:=u.any ho I.free fun z=>(hch _ z).2.1 rfl
 exact I.step (ch:=ch) hch (fun b o hL hb hc e n=>u.keep b o e n (fun z=>(bh1.mp (I.stkSub b z)).elim hL hb) hc) (fun b o _ _ hc e n=>u.any e n hc) (fun b o hc e n=>u.free b o e n hc) (fun b o hc e=>u.there b o e hc) u.tups u.frzs u.tbls (fun m' hm=>by
  obtain ⟨o',es',ep',ho',r'⟩:=hm
  rw [ho] at ho'; cases ho'
  exact⟨_,es',ep',hL,r'⟩) hok hg
theorem a8.turned {t':Nat}{it:Addr} (I:a8 X pins σ H s) (k:∀ b o,b ≠ it->s.heap.get? b=some o->h'.get? b=some o) (hn:H it=none) (hL:it ≠ X.env.locals)
  (h1:it ∈ X.ex ∨ X.s₀.heap.objs.size<=it) (h2:∀ x c,X.env.cells.lookup x=some c->c ≠ it) (h3:∀ p ∈ X.pn ++ pins,p.1 ≠ it):a8 X pins σ H { s with heap:=h',toks:=t' }:=by
 have nit:∀ b u,H b=some u->b ≠ it:=fun b u e z=>by rw [z,hn] at e; cases e
 refine I.step (g':=s.gens) (d':=s.drawn) (ch:=[it]) (fun b hb=>?_) (fun b o _ _ hc e _=>k b o (fun z=>hc (by simp [z])) e) (fun b o _ _ hc e _=>⟨o.slots,k b o (fun z=>hc (by simp [z])) e⟩) (fun _ _ _ _ n=>n)
  (fun b o hc e=>⟨o,k b o (fun z=>hc (by simp [z])) e⟩) (fun _ _ e=>e) (fun _ _ _ e=>e) (fun b ps e=>⟨#[],by rw [e]; simp⟩) (fun m hm=>?_) (fun b u e=>?_) I.bare
 ·have e:b=it:=by simpa using hb
  subst e
  exact⟨h1,hL,h2,h3⟩
 ·obtain ⟨o,es,ep,ho,r⟩:=hm
  exact⟨o,es,ep,k _ o (Ne.symm hL) ho,r⟩
 ·refine (I.hok b u e).stay (fun c v hc q=>k c v ?_ q) (fun _ q=>q) fun _ _ q=>q
  rcases hc with z | z
  ·rw [z]; exact nit b u e
  ·exact nit c _ z
theorem a8.tok (I:a8 X pins σ H s) (t:Nat):a8 X pins σ H { s with toks:=t }:=I.un (h':=s.heap) (t':=t) Un.refl I.hok
theorem a8.kept {t':Nat} (I:a8 X pins σ H s) (k:∀ b u,s.heap.get? b=some u->h'.get? b=some u):a8 X pins σ H { s with heap:=h',toks:=t' }:=I.un (Un.kept k) (I.hok.kept k)
theorem a8.laid {a:Addr}{o:HO}{t':Nat} (I:a8 X pins σ H s) (k:∀ b u,s.heap.get? b=some u->h'.get? b=some u) (hp:s.heap.objs.size<=a) (new:bR X.prog X.w (upd H a o) h' a o) :
  a8 X pins σ (upd H a o) { s with heap:=h',toks:=t' }:=I.un (Un.laid k hp (I.hok.fresh hp)) (I.hok.laid k hp new)
theorem a8.write {x e:Addr}{o:HO}{t':Nat} (I:a8 X pins σ H s) (mu:nB (H x)) (he:e=x ∨ H e=some (.own x)) (k:∀ b u,b ≠ e->s.heap.get? b=some u->h'.get? b=some u) (heo:∃ u,h'.get? e=some u)
  (new:bR X.prog X.w (upd H x o) h' x o):a8 X pins σ (upd H x o) { s with heap:=h',toks:=t' }:=I.un (Un.write mu he k heo) (I.hok.write mu he k heo new)
theorem a8.weak {σ':List (Option V)} (I:a8 X pins σ H s) (hl:σ'.length=σ.length) (w:∀ (i:Nat) v,σ'[i]? = some (some v)->σ[i]? = some (some v)):a8 X pins σ' H s:=
 ⟨I.ok,I.os,I.bare,I.base,let ⟨m,hn,hl'⟩:=I.loc; ⟨m,hn,fun i x v e1 e2 e3=>hl' i x v e1 (w i v e2) e3⟩,I.cell,I.free,I.freeC,I.pin,I.hok,hl.trans I.len⟩
theorem a8.pins_of {pins':List (Addr × Obj)} (I:a8 X pins σ H s) (h:∀ p ∈ pins',s.heap.get? p.1=some p.2/\H p.1=none/\p.1 ≠ X.env.locals/\p.1 ∉ X.fs/\∀ v,p.2.data ≠ .cell v):a8 X pins' σ H s:=
 ⟨I.ok,I.os,I.bare,I.base,I.loc,I.cell,I.free,I.freeC,fun p hp=>(bk0.mp hp).elim (fun z=>I.pin p (bp3 _ z)) (h p),I.hok,I.len⟩
theorem tT {N:List Str} (hN:N.Nodup) {i j:Nat}{x:Str} (a:N[i]? = some x) (b:N[j]? = some x):i=j:=by
 obtain ⟨h1,e1⟩:=bh7.mp a
 obtain ⟨h2,e2⟩:=bh7.mp b
 exact (List.getElem_inj hN).mp (e1.trans e2.symm)
theorem tU {M:Model}{A:Around}{E:Value->Shared->Prop}{i:Nat}{x:Str}{v:V}{u:Value}{Q:Unit->Shared->Prop} (I:a8 X pins σ H s) (hN:X.N.Nodup) (hi:X.N[i]? = some x) (hx:iY X.env.scope x) (r:aV v u)
  (h:∀ s',a8 X pins (σ.set i (some v)) H s'->(∃ a,Heap.SameBut a s.heap s'.heap/\(a=X.env.locals ∨ X.env.cells.lookup x=some a))->Q () s') (hf:X.fn x=true ∨ X.env.scope.names.lookup x=some .local:=by first | exact .inl rfl | exact .inr rfl | assumption):wpAny M A (storeName X.env x u) Q E s:=by
 obtain ⟨m,hn,hl⟩:=id I.loc
 have hcls:(X.env.scope.kind == .class || (X.env.scope.kind == .module && X.env.locals != X.env.globals))=false:=by rw [I.ok.kind]; rfl
 have hiσ:i < σ.length:=by rw [I.len]; exact (bh7.mp hi).1
 have cne:=I.cne
 have tracked:∀ {a:Addr}{h':Heap},(∃ o,s.heap.get? a=some o/\H a=none)->Heap.SameBut a s.heap h'->bS X.prog X.w H h':=fun {a h'} ha hs b ob e=>by
  obtain ⟨_,_,hfree⟩:=ha
  refine (I.hok b ob e).stay (fun c w' hc q=>(hs.2 c ?_).trans q) (fun _ q=>q) fun _ _ q=>q
  rintro rfl
  rcases hc with rfl | hc
  ·rw [hfree] at e; cases e
  ·rw [hfree] at hc; cases hc
 rcases hx with hk | hk
 ·refine wpAny_storeName_local hk hn (fun h' hn' hs=>?_) hcls
  obtain ⟨oL,_,_,hoL,_⟩:=id hn
  refine h _ ⟨I.ok,I.os,I.bare,⟨fun b o e n hb hx=>?_,fun b o e n hb hx=>?_,I.base.free,fun b o e hx=>?_,I.base.tups,I.base.frzs,I.base.tbls⟩,⟨_,hn',fun j y v' e1 e2 e3=>?_⟩,fun y c e=>?_,I.free,I.freeC,fun p hp=>?_,tracked ⟨oL,hoL,I.free⟩ hs,by simpa using I.len⟩ ⟨_,hs,.inl rfl⟩
  ·exact (hs.2 b (bk4 (bi2 (bi1 e) I.ok.above))).trans (I.base.keep b o e n hb hx)
  ·obtain ⟨sl,e1⟩:=I.base.slot b o e n hb hx
   exact⟨sl,(hs.2 b (bk4 (bi2 (bi1 e) I.ok.above))).trans e1⟩
  ·obtain ⟨o',e1⟩:=I.base.there b o e hx
   exact⟨o',(hs.2 b (bk4 (bi2 (bi1 e) I.ok.above))).trans e1⟩
  ·by_cases hj:j=i
   ·subst hj
    rw [hi] at e1; cases e1
    rw [bm8 hiσ] at e2
    cases e2
    exact⟨u,r,.inl ⟨hk,by simp⟩⟩
   ·rw [bj6 (Ne.symm hj)] at e2
    obtain ⟨u',r',q⟩:=hl j y v' e1 e2 e3
    refine⟨u',r',?_⟩
    rcases q with ⟨k,e⟩ | ⟨k,c,e,z⟩
    ·refine .inl ⟨k,?_⟩
     have:y ≠ x:=fun e=>hj (tT hN e1 (e ▸ hi))
     simp [this,e]
    ·exact .inr ⟨k,c,e,z.sameBut hs (cne y c e)⟩
  ·obtain ⟨w',z⟩:=I.cell y c e
   exact⟨w',z.sameBut hs (cne y c e)⟩
  ·obtain ⟨e,n,ne,nf,d⟩:=I.pin p hp
   exact⟨(hs.2 p.1 ne).trans e,n,ne,nf,d⟩
 ·have hfn:X.fn x=true:=by
   rcases hf with z | z
   ·exact z
   ·rw [z] at hk; cases hk
  obtain ⟨c,hc⟩:=I.ok.has x (.inl hk)
  obtain ⟨w',z⟩:=I.cell x c hc
  refine wpAny_storeName_cell I.ok.kind hk hc z (fun h' hc' hs=>?_)
  obtain ⟨oc,hoc,hocd⟩:=id z
  refine h { s with heap:=h' } ⟨I.ok,I.os,I.bare,⟨fun b o e n hb hx=>?_,fun b o e n hb hx=>?_,I.base.free,fun b o e hx=>?_,I.base.tups,I.base.frzs,I.base.tbls⟩,⟨m,hn.sameBut hs (Ne.symm (cne x c hc)),fun j y v' e1 e2 e3=>?_⟩,fun y c' e=>?_,I.free,I.freeC,fun p hp=>?_,tracked ⟨oc,hoc,I.freeC x c hc⟩ hs,by simpa using I.len⟩ ⟨c,hs,.inr hc⟩
  ·exact (hs.2 b (bk4 (bi2 (bi1 e) (I.ok.cab x c hfn hc)))).trans (I.base.keep b o e n hb hx)
  ·obtain ⟨sl,e1⟩:=I.base.slot b o e n hb hx
   exact⟨sl,(hs.2 b (bk4 (bi2 (bi1 e) (I.ok.cab x c hfn hc)))).trans e1⟩
  ·obtain ⟨o',e1⟩:=I.base.there b o e hx
   exact⟨o',(hs.2 b (bk4 (bi2 (bi1 e) (I.ok.cab x c hfn hc)))).trans e1⟩
  ·by_cases hj:j=i
   ·subst hj
    rw [hi] at e1; cases e1
    rw [bm8 hiσ] at e2
    cases e2
    exact⟨u,r,.inr ⟨.inl hk,c,hc,hc'⟩⟩
   ·rw [bj6 (Ne.symm hj)] at e2
    obtain ⟨u',r',q⟩:=hl j y v' e1 e2 e3
    refine⟨u',r',?_⟩
    rcases q with q | ⟨k,c',e,z'⟩
    ·exact .inl q
    ·refine .inr ⟨k,c',e,z'.sameBut hs ?_⟩
     rintro rfl
     exact hj (tT hN e1 (I.ok.inj _ _ _ e hc ▸ hi))
  ·by_cases hcc:c'=c
   ·subst hcc; exact⟨_,hc'⟩
   ·obtain ⟨w2,z2⟩:=I.cell y c' e
    exact⟨w2,z2.sameBut hs hcc⟩
  ·obtain ⟨e,n,ne,nf,d⟩:=I.pin p hp
   refine⟨(hs.2 p.1 ?_).trans e,n,ne,nf,d⟩
   intro q
   rw [q,hoc] at e
   have q':oc=p.2:=bj9 e
   exact d w' (by rw [<- q']; exact hocd)
theorem pO {M:Model}{A:Around}{E:Value->Shared->Prop}{i:Nat}{x:Str}{v:V}{u:Value}{Q:Unit->Shared->Prop} (I:a8 X pins σ H s) (hN:X.N.Nodup) (hi:X.N[i]? = some x) (hx:iY X.env.scope x) (r:aV v u)
  (h:∀ s',a8 X pins (σ.set i (some v)) H s'->Q () s') (hf:X.fn x=true ∨ X.env.scope.names.lookup x=some .local:=by first | exact .inl rfl | exact .inr rfl | assumption):wpAny M A (storeName X.env x u) Q E s:=
 tU I hN hi hx r (fun s' I' _=>h s' I') hf
theorem a8.call' {s':Shared}{ch:List Addr} (I:a8 X pins σ H s) (ho:s'.os=s.os) (u:Un (bN X.stack) ch H H' s.heap s'.heap) (hok:bS X.prog X.w H' s'.heap) (hg:AllBare s'.gens)
  (hch:∀ b ∈ ch,(b ∈ X.ex ∨ X.s₀.heap.objs.size<=b)/\b ≠ X.env.locals/\(∀ x c,X.env.cells.lookup x=some c->c ≠ b)/\∀ p ∈ X.pn ++ pins,p.1 ≠ b):a8 X pins σ H' s':=by
 obtain ⟨h',g',d',t',o'⟩:=s'
 have e:o'=s.os:=ho
 subst e
 exact I.call (g':=g') (t':=t') (d':=d') u hok hg hch
end
abbrev XK:=Value->Option Addr->Hp->Prop
abbrev St:=List (Option V)
abbrev VK:=V->Hp->Prop
abbrev TE:=St->Hp->VK->Prop
abbrev TT:=St->Hp->(Bool->Hp->Prop)->Prop
abbrev TA:=St->Hp->(List V->Hp->Prop)->Prop
structure bP where
 nx:St->Hp->Prop
 rt:VK
 bk:St->Hp->Prop:=fun _ _=>False
 ct:St->Hp->Prop:=fun _ _=>False
abbrev TS:=bP->St->Hp->Prop
def EP (X:Cx) (pins:List (Addr × Obj)) (σ:St) (Q:VK) (u:Value) (s':Shared):Prop:=∃ v H',a8 X pins σ H' s'/\aV v u/\Q v H'
def TP (X:Cx) (pins:List (Addr × Obj)) (σ:St) (Q:Bool->Hp->Prop) (b:Bool) (s':Shared):Prop:=∃ H',a8 X pins σ H' s'/\Q b H'
def AP (X:Cx) (pins:List (Addr × Obj)) (σ:St) (Q:List V->Hp->Prop) (us:List Value) (s':Shared):Prop:=∃ vs H',a8 X pins σ H' s'/\aN vs us/\Q vs H'
def SP (X:Cx) (pins:List (Addr × Obj)) (D:bP) (f:Flow) (s':Shared):Prop:=
 match f with
 | .next=>∃ σ' H',a8 X pins σ' H' s'/\D.nx σ' H'
 | .brk=>∃ σ' H',a8 X pins σ' H' s'/\D.bk σ' H'
 | .cont=>∃ σ' H',a8 X pins σ' H' s'/\D.ct σ' H'
 | .ret u=>∃ v σ' H',a8 X pins σ' H' s'/\aV v u/\D.rt v H'
def PE (X:Cx) (e:Expr) (t:TE):Prop:=
 ∀ (pins:List (Addr × Obj)) (s:Shared) (σ:St) (H:Hp) (Q:VK),a8 X pins σ H s->t σ H Q->wpAny (model X.prog X.w) X.A (eval e X.env) (EP X pins σ Q) X.xe s
def PT (X:Cx) (e:Expr) (t:TT):Prop:=
 ∀ (pins:List (Addr × Obj)) (s:Shared) (σ:St) (H:Hp) (Q:Bool->Hp->Prop),a8 X pins σ H s->t σ H Q->wpAny (model X.prog X.w) X.A (isTrue e X.env (eval e X.env)) (TP X pins σ Q) X.xe s
def PW (X:Cx) (e:Expr) (t:TT):Prop:=
 ∀ (whole:Sem Value) (pins:List (Addr × Obj)) (s:Shared) (σ:St) (H:Hp) (Q:Bool->Hp->Prop),a8 X pins σ H s->t σ H Q->wpAny (model X.prog X.w) X.A (isTrue e X.env whole) (TP X pins σ Q) X.xe s
theorem PW.pt {X:Cx}{e:Expr}{t:TT} (h:PW X e t):PT X e t:=h _
def PA (X:Cx) (es:List Expr) (t:TA):Prop:=
 ∀ (pos:Pos) (pins:List (Addr × Obj)) (s:Shared) (σ:St) (H:Hp) (Q:List V->Hp->Prop),a8 X pins σ H s->t σ H Q->wpAny (model X.prog X.w) X.A (spliced (backTo pos (starEach es X.env))) (AP X pins σ Q) X.xe s
def PS (X:Cx) (st:Stmt) (t:TS):Prop:=
 ∀ (pins:List (Addr × Obj)) (s:Shared) (σ:St) (H:Hp) (D:bP),a8 X pins σ H s->t D σ H->wpAny (model X.prog X.w) X.A (exec st X.env) (SP X pins D) X.xe s
def dH (X:Cx) (st:List Stmt) (t:TS):Prop:=
 ∀ (pins:List (Addr × Obj)) (s:Shared) (σ:St) (H:Hp) (D:bP),a8 X pins σ H s->t D σ H->wpAny (model X.prog X.w) X.A (execs st X.env) (SP X pins D) X.xe s
theorem aO {α:Type}{t:Sem α}{Q Q':α->Shared->Prop}{M:Model}{A:Around}{E:Value->Shared->Prop}{s:Shared} (h:wpAny M A t Q E s) (hQ:∀ a s,Q a s->Q' a s):wpAny M A t Q' E s:=bp5 h hQ fun _ _ x=>x
section
variable {X : Cx}
theorem bin {a b:Expr}{ta tb:TE} (ha:PE X a ta) (hb:PE X b tb) {pins:List (Addr × Obj)}{s:Shared}{σ:St}{H:Hp}{R:V->V->Hp->Prop} (I:a8 X pins σ H s) (h:ta σ H fun x H1=>tb σ H1 fun y H2=>R x y H2)
  {α:Type}{Q:α->Shared->Prop}{f:Value->Value->Sem α}
  (hf:∀ v u s2 x y H2,a8 X pins σ H2 s2->aV x v->aV y u->R x y H2->wpAny (model X.prog X.w) X.A (f v u) Q X.xe s2) :
  wpAny (model X.prog X.w) X.A (eval a X.env) (fun v s₁=>wpAny (model X.prog X.w) X.A (eval b X.env) (fun u s₂=>wpAny (model X.prog X.w) X.A (f v u) Q X.xe s₂) X.xe s₁) X.xe s:=by
 refine aO (ha pins s σ H _ I h) fun v s1 ⟨x,H1,I1,r1,q1⟩=>?_
 refine aO (hb pins s1 σ H1 _ I1 q1) fun u s2 ⟨y,H2,I2,r2,q2⟩=>?_
 exact hf v u s2 x y H2 I2 r1 r2 q2
def gU (i:Nat):TE:=fun σ H Q=>∃ v,σ[i]? = some (some v)/\Q v H
def tC (v:V):TE:=fun _ H Q=>Q v H
theorem iI {i:Nat}{x:Str}{pos:Pos} (hN:X.N[i]? = some x) (hv:fZ X.env.scope x) (hd:(x == ("__debug__" : Str))=false:=by decide) (hcd:(x == ("__classdict__" : Str))=false:=by decide):PE X (.Name x pos) (gU i):=by
 intro pins s σ H Q I h
 obtain ⟨v,e,h⟩:=h
 obtain ⟨m,hn,hl⟩:=I.loc
 obtain ⟨u,r,l⟩:=hl i x v hN e hv
 have fin:EP X pins σ Q u s:=⟨v,H,I,r,h⟩
 rcases l with ⟨hk,hm⟩ | ⟨hk,c,hc,hcell⟩
 ·exact wpAny_Name (wpAny_loadName_local I.ok.kind hk hn hm fin) hd
 ·rcases hk with hk | hk
  ·exact wpAny_Name (wpAny_loadName_cell I.ok.kind hk hc hcell fin) hd
  ·exact wpAny_Name (wpAny_loadName_free I.ok.kind hk hc hcell fin hcd) hd
theorem kI {i j pos}:PE X (.Constant (.int i) j pos) (tC (.int i)):=fun _ _ _ H _ I h=>wpAny_Constant_int ⟨.int i,H,I.tok _,⟨_,rfl⟩,h⟩
theorem aj6 {b j pos}:PE X (.Constant (.bool b) j pos) (tC (.bl b)):=fun _ _ _ H _ I h=>Constant_bool ⟨.bl b,H,I,rfl,h⟩
theorem aj7 {j pos}:PE X (.Constant .none j pos) (tC .non):=fun _ _ _ H _ I h=>Constant_none ⟨.non,H,I,rfl,h⟩
theorem aj8 {x j pos}:PE X (.Constant (.str x) j pos) (tC (.str x)):=fun _ _ _ H _ I h=>Calls.Constant_str ⟨.str x,H,I.tok _,⟨_,rfl⟩,h⟩
def Gl (X:Cx) (x:Str):Prop:=X.env.kindOf x=some .globalImplicit
theorem nC {E:Value->Shared->Prop}{pins:List (Addr × Obj)}{s:Shared}{σ:St}{H:Hp}{x:Str}{u:Value}{pos:Pos}{Q:Value->Shared->Prop} (I:a8 X pins σ H s) (hg:Gl X x) (hm:X.mg x=some u) (h:Q u s)
  (hd:(x == ("__debug__" : Str))=false:=by decide):wpAny (model X.prog X.w) X.A (eval (.Name x pos) X.env) Q E s:=
 Calls.Name_function_global I.ok.kind hg (Calls.loadGlobal_global (by rw [I.ok.glob]; exact I.mod.glob.keeps I.bk) hm h) hd
theorem gV {E:Value->Shared->Prop}{pins:List (Addr × Obj)}{s:Shared}{σ:St}{H:Hp}{x:Str}{u:Value}{pos:Pos}{Q:Value->Shared->Prop} (I:a8 X pins σ H s) (hg:Gl X x) (hm:X.mg x=none) (hv:bootBuiltins x=some u) (h:Q u s)
  (hn:x ≠ "__name__":=by decide) (hd:(x == ("__debug__" : Str))=false:=by decide):wpAny (model X.prog X.w) X.A (eval (.Name x pos) X.env) Q E s:=by
 obtain ⟨mb,h1,h2⟩:=I.mod.blt
 exact Calls.Name_function_global I.ok.kind hg (Calls.loadGlobal_builtin (by rw [I.ok.glob]; exact I.mod.glob.keeps I.bk) hm (by rw [I.ok.blt]; exact h1.keeps I.bk) ((h2 x hn).trans hv) h) hd
theorem aj9 {x:Str}{v:V}{u:Value}{pos:Pos} (hg:Gl X x) (hm:X.mg x=some u) (r:aV v u) (hd:(x == ("__debug__" : Str))=false:=by decide):PE X (.Name x pos) (tC v):=
 fun _ _ _ H _ I h=>nC I hg hm ⟨v,H,I,r,h⟩ hd
theorem yQ {x:Str}{v:V}{u:Value}{pos:Pos} (hg:Gl X x) (hm:X.mg x=none) (hv:bootBuiltins x=some u) (r:aV v u) (hn:x ≠ "__name__":=by decide) (hd:(x == ("__debug__" : Str))=false:=by decide):PE X (.Name x pos) (tC v):=
 fun _ _ _ H _ I h=>gV I hg hm hv ⟨v,H,I,r,h⟩ hn hd
variable {a b : Expr} {ta tb : TE} {pos : Pos}
def PC (X:Cx) (op:CmpOp) (a b:Expr) (t:TE):Prop:=
 ∀ (pins:List (Addr × Obj)) (s:Shared) (σ:St) (H:Hp) (Q:VK),a8 X pins σ H s->t σ H Q->
  wpAny (model X.prog X.w) X.A (eval a X.env) (fun v s₁=>wpAny (model X.prog X.w) X.A (eval b X.env) (fun u s₂=>wpAny (model X.prog X.w) X.A (compareOp op v u) (EP X pins σ Q) X.xe s₂) X.xe s₁) X.xe s
def tB (t:TE):TT:=fun σ H Q=>t σ H fun x H1=>∃ c,x = .bl c/\Q c H1
theorem ak0 {op:CmpOp}{t:TE} (h:PC X op a b t) (h1:behindInMarks op b=false:=by first | exact nobehind _ (by decide) (by decide) | rfl):PE X (.Compare a [op] [b] pos) t:=fun pins s σ H Q I hw=>wpAny_Compare1 (h pins s σ H Q I hw) h1
theorem yR {op:CmpOp}{t:TE} (h:PC X op a b t) (h1:behindInMarks op b=false:=by first | exact nobehind _ (by decide) (by decide) | rfl):PT X (.Compare a [op] [b] pos) (tB t):=by
 intro pins s σ H Q I hw
 refine wpAny_isTrue_Compare1 (aO (h pins s σ H _ I hw) fun v s1 h1=>aO h1 fun u s2 h2=>aO h2 fun c s3 ⟨x,H1,I1,r1,q1⟩=>?_) h1
 obtain ⟨d,rfl,q⟩:=q1
 cases r1
 exact bt8 ⟨H1,I1,q⟩
theorem ak1 {e:Expr}{t:TE} (h:PE X e t) (he:∀ whole,isTrue e X.env whole=(do let v <- whole; standAt e.pos; holding [v] (truthy v)):=by intro _; rfl):PT X e (tB t):=by
 intro pins s σ H Q I hw
 refine isTrue_plain (aO (h pins s σ H _ I hw) fun v s1 ⟨x,H1,I1,r1,q1⟩=>?_) (he _)
 obtain ⟨d,rfl,q⟩:=q1
 cases r1
 exact bt8 ⟨H1,I1,q⟩
variable {tA tB' : TT} {cY : List Expr}
def yS (t u:TT):TT:=fun σ H Q=>t σ H fun c H1=>if c=true then u σ H1 Q else Q false H1
def yT (t u:TT):TT:=fun σ H Q=>t σ H fun c H1=>if c=true then Q true H1 else u σ H1 Q
def yU (t:TT):TT:=fun σ H Q=>t σ H fun c H1=>Q (!c) H1
theorem ak2 (ha:PT X a tA):PW X (.BoolOp .And [a] pos) tA:=by
 intro wh pins s σ H Q I h
 refine isTrue_and (aO (ha pins s σ H Q I h) fun c s1 e=>?_)
 cases c with
 | true=>exact isTrue_and_nil e
 | false=>exact e
theorem ak3 (ha:PT X a tA):PW X (.BoolOp .Or [a] pos) tA:=by
 intro wh pins s σ H Q I h
 refine isTrue_or (aO (ha pins s σ H Q I h) fun c s1 e=>?_)
 cases c with
 | false=>exact isTrue_or_nil e
 | true=>exact e
theorem ak4 (ha:PT X a tA) (hb:PW X (.BoolOp .And (b :: cY) pos) tB'):PW X (.BoolOp .And (a :: b :: cY) pos) (yS tA tB'):=by
 intro wh pins s σ H Q I h
 refine isTrue_and (aO (ha pins s σ H _ I h) fun c s1 ⟨H1,I1,q1⟩=>?_)
 cases c with
 | true=>exact hb wh pins s1 σ H1 Q I1 q1
 | false=>exact⟨H1,I1,q1⟩
theorem ak5 (ha:PT X a tA) (hb:PW X (.BoolOp .Or (b :: cY) pos) tB'):PW X (.BoolOp .Or (a :: b :: cY) pos) (yT tA tB'):=by
 intro wh pins s σ H Q I h
 refine isTrue_or (aO (ha pins s σ H _ I h) fun c s1 ⟨H1,I1,q1⟩=>?_)
 cases c with
 | true=>exact⟨H1,I1,q1⟩
 | false=>exact hb wh pins s1 σ H1 Q I1 q1
theorem ak6 (ha:PT X a tA):PT X (.UnaryOp .Not a pos) (yU tA):=by
 intro pins s σ H Q I h
 exact isTrue_not (ha pins s σ H (fun c H1=>Q (!c) H1) I h)
def yV (ta tb:TE):TE:=fun σ H Q=>ta σ H fun x H1=>∃ c,x = .bl c/\if c=true then tb σ H1 Q else Q (.bl false) H1
def yW (ta:TE):TE:=fun σ H Q=>ta σ H fun x H1=>∃ c,x = .bl c/\Q (.bl (!c)) H1
theorem ak7 {op}{t:TE} (h:PE X a t):PE X (.BoolOp op [a] pos) t:=fun pins s σ H Q I hw=>BoolOp_one (h pins s σ H Q I hw)
theorem ak8 (ha:PE X a ta) (hb:PE X (.BoolOp .And (b :: cY) pos) tb):PE X (.BoolOp .And (a :: b :: cY) pos) (yV ta tb):=by
 intro pins s σ H Q I h
 refine BoolOp_and (aO (ha pins s σ H _ I h) fun v s1 ⟨x,H1,I1,r1,q1⟩=>?_)
 obtain ⟨c,rfl,q1⟩:=q1
 cases r1
 refine bt8 ?_
 cases c with
 | true=>exact hb pins s1 σ H1 Q I1 q1
 | false=>exact⟨.bl false,H1,I1,rfl,q1⟩
theorem ak9 (ha:PE X a ta):PE X (.UnaryOp .Not a pos) (yW ta):=by
 intro pins s σ H Q I h
 refine UnaryOp_ (aO (ha pins s σ H _ I h) fun v s1 ⟨x,H1,I1,r1,q1⟩=>?_)
 obtain ⟨c,rfl,q1⟩:=q1
 cases r1
 exact not_of (bt8 ⟨.bl (!c),H1,I1,rfl,q1⟩)
end
def aH (K:PySem.W.Frag) (H:Hp) (a:Addr) (xs:List V):Prop:=
 Rd H a (.lst xs) ∨
  ∃ (o:Obj) (its:Array Value) (n:Nat),K.lookup a=some o/\o.cls = .type "list"/\o.dict=none/\o.data = .seq its n/\its.size<=sizeLine/\aN xs its.toList
def aF (K:PySem.W.Frag) (H:Hp) (a:Addr) (xs:List V):Prop:=
 Rd H a (.tup xs) ∨
  ∃ (o:Obj) (its:Array Value) (n:Nat),K.lookup a=some o/\o.cls = .type "tuple"/\o.data = .seq its n/\its.size<=sizeLine/\aN xs its.toList
def al0:Value->Option V
 | .none=>some .non
 | .bool b=>some (.bl b)
 | .int i _=>some (.int i)
 | .str x _=>some (.str x)
 | .bytes b _=>some (.byt b)
 | .float b _=>some (.flt b)
 | .ref a=>some (.ref a)
 | .type n=>some (.ty n)
 | _=>none
theorem aV.abs {x:V}{u:Value} (r:aV x u):al0 u=some x:=by
 cases x with
 | non=>cases r; rfl
 | bl _=>cases r; rfl
 | int _=>obtain ⟨t,rfl⟩:=r; rfl
 | str _=>obtain ⟨t,rfl⟩:=r; rfl
 | byt _=>obtain ⟨t,rfl⟩:=r; rfl
 | flt _=>obtain ⟨t,rfl⟩:=r; rfl
 | ref _=>cases r; rfl
 | ty _=>cases r; rfl
theorem aV.inj {x y:V}{u:Value} (r:aV x u) (q:aV y u):x=y:=bj9 (r.abs.symm.trans q.abs)
theorem aN.inj:∀ {xs ys:List V}{us:List Value},aN xs us->aN ys us->xs=ys
 | _,_,_,.nil,.nil=>rfl
 | _,_,_,.cons r t,.cons r' t'=>by rw [r.inj r',aN.inj t t']
section
variable {X : Cx} {pins : List (Addr × Obj)} {σ : St} {H : Hp} {s : Shared} {a : Addr} {xs ys : List V}
theorem aH.of {K:PySem.W.Frag} (h:H a=some (.lst xs)):aH K H a xs:=.inl (.inl h)
theorem aF.of {K:PySem.W.Frag} (h:H a=some (.tup xs)):aF K H a xs:=.inl (.inl h)
theorem a8.list (I:a8 X pins σ H s) (h:aH X.K H a xs):∃ its:List Value,aN xs its/\PlainL s.heap a its.toArray/\xs.length<=sizeLine:=by
 rcases h with h | ⟨o,its,n,hk,hc,hd,hs,hz,r⟩
 ·obtain ⟨z,its,n,r,e⟩:=h.ok I.hok
  exact⟨its,r,⟨_,n,e,rfl,rfl,rfl⟩,z⟩
 ·refine⟨its.toList,r,⟨o,n,I.kIn a o hk,hc,hd,by simpa using hs⟩,?_⟩
  have e:=r.length
  simp only [bl8] at e
  omega
theorem a8.tuple (I:a8 X pins σ H s) (h:aF X.K H a xs):∃ its:List Value,aN xs its/\IsTup s.heap a its.toArray/\xs.length<=sizeLine:=by
 rcases h with h | ⟨o,its,n,hk,hc,hs,hz,r⟩
 ·obtain ⟨z,its,r,p,_⟩:=h.ok I.hok
  exact⟨its,r,p,z⟩
 ·refine⟨its.toList,r,⟨o,I.kIn a o hk,hc,n,by simpa using hs⟩,?_⟩
  have e:=r.length
  simp only [bl8] at e
  omega
theorem a8.list_inj (I:a8 X pins σ H s) (h:aH X.K H a xs) (h':aH X.K H a ys):xs=ys:=by
 obtain ⟨its,r,⟨o,n,e,_,_,d⟩,_⟩:=I.list h
 obtain ⟨its',r',⟨o',n',e',_,_,d'⟩,_⟩:=I.list h'
 rw [e] at e'; cases e'
 rw [d] at d'
 injection d' with d1 _
 have:its=its':=by simpa using congrArg Array.toList d1
 subst this
 exact r.inj r'
theorem a8.tuple_inj (I:a8 X pins σ H s) (h:aF X.K H a xs) (h':aF X.K H a ys):xs=ys:=by
 obtain ⟨its,r,⟨o,e,_,n,d⟩,_⟩:=I.tuple h
 obtain ⟨its',r',⟨o',e',_,n',d'⟩,_⟩:=I.tuple h'
 rw [e] at e'; cases e'
 rw [d] at d'
 injection d' with d1 _
 have:its=its':=by simpa using congrArg Array.toList d1
 subst this
 exact r.inj r'
end
abbrev Cx.wish (X:Cx) (E:Value->Shared->Prop):Cx:={ X with xe:=E }
abbrev Cx.nox (X:Cx):Cx:=X.wish fun _ _=>False
theorem Cx.Ok.wish {X:Cx} (ok:X.Ok) (E:Value->Shared->Prop):(X.wish E).Ok:=
 ⟨ok.mod,ok.kind,ok.glob,ok.blt,ok.above,ok.inj,ok.has,ok.cab,ok.hd,ok.frames,ok.stk,ok.exf,ok.bs,ok.bsz,ok.noex,ok.exfs,ok.funs,ok.frf⟩
theorem Cx.Ok.unwish {X:Cx}{E:Value->Shared->Prop} (ok:(X.wish E).Ok):X.Ok:=
 ⟨ok.mod,ok.kind,ok.glob,ok.blt,ok.above,ok.inj,ok.has,ok.cab,ok.hd,ok.frames,ok.stk,ok.exf,ok.bs,ok.bsz,ok.noex,ok.exfs,ok.funs,ok.frf⟩
section
variable {X : Cx} {pins : List (Addr × Obj)} {σ : St} {H : Hp} {s : Shared} {E : Value → Shared → Prop}
theorem a8.wish (I:a8 X pins σ H s) (E:Value->Shared->Prop):a8 (X.wish E) pins σ H s:=⟨I.ok.wish E,I.os,I.bare,I.base,I.loc,I.cell,I.free,I.freeC,I.pin,I.hok,I.len⟩
theorem a8.unwish (I:a8 (X.wish E) pins σ H s):a8 X pins σ H s:=⟨I.ok.unwish,I.os,I.bare,I.base,I.loc,I.cell,I.free,I.freeC,I.pin,I.hok,I.len⟩
theorem SP.unwish {D:bP}{f:Flow}{s':Shared} (h:SP (X.wish E) pins D f s'):SP X pins D f s':=by
 cases f with
 | next=>obtain ⟨σ',H',I,q⟩:=h; exact⟨σ',H',I.unwish,q⟩
 | brk=>obtain ⟨σ',H',I,q⟩:=h; exact⟨σ',H',I.unwish,q⟩
 | cont=>obtain ⟨σ',H',I,q⟩:=h; exact⟨σ',H',I.unwish,q⟩
 | ret u=>obtain ⟨v,σ',H',I,r,q⟩:=h; exact⟨v,σ',H',I.unwish,r,q⟩
theorem dH.nox {st:List Stmt}{t:TS} (h:dH X.nox st t):dH X st t:=fun pins s σ H D I hw=>
 bp5 (h pins s σ H D (I.wish _) hw) (fun _ _ q=>q.unwish) fun _ _ z=>False.elim z
end
section
variable {X : Cx} {st : Stmt} {cY : List Stmt} {t u : TS} {e : Expr} {te : TE} {pos : Pos}
def yX:TS:=fun D σ H=>D.nx σ H
def yY (t u:TS):TS:=fun D σ H=>t { D with nx:=u D } σ H
theorem al1:dH X [] yX:=fun _ _ σ H _ I h=>wpAny_execs_nil ⟨σ,H,I,h⟩
theorem kJ (h1:PS X st t) (h2:dH X cY u):dH X (st :: cY) (yY t u):=by
 intro pins s σ H D I h
 refine wpAny_execs_cons (aO (h1 pins s σ H { D with nx:=u D } I h) fun f s1 q=>?_)
 cases f with
 | next=>
  obtain ⟨σ',H',I',q⟩:=q
  exact h2 pins s1 σ' H' D I' q
 | ret v=>exact q
 | brk=>exact q
 | cont=>exact q
theorem kK (h1:PS X st t):dH X [st] t:=by
 intro pins s σ H D I h
 refine wpAny_execs_cons (aO (h1 pins s σ H D I h) fun f s1 q=>?_)
 cases f with
 | next=>exact wpAny_execs_nil q
 | ret v=>exact q
 | brk=>exact q
 | cont=>exact q
theorem a8.quiet {pins:List (Addr × Obj)}{σ:St}{H:Hp}{s:Shared} (I:a8 X pins σ H s):interactive X.env=false:=by simp [interactive,I.ok.kind]
def pP (te:TE):TS:=fun D σ H=>te σ H fun _ H1=>D.nx σ H1
theorem kL (he:PE X e te) (hs:swapsWith e none pos.line X.env=pure false:=by rfl):PS X (.Expr e pos) (pP te):=by
 intro pins s σ H D I h
 exact wpAny_Expr_any (aO (he pins s σ H _ I h) fun v s1 ⟨x,H1,I1,r1,q1⟩=>⟨σ,H1,I1,q1⟩) I.quiet hs
def tV (te:TE):TS:=fun D σ H=>te σ H D.rt
theorem lT (he:PE X e te):PS X (.Return (some e) pos) (tV te):=by
 intro pins s σ H D I h
 exact wpAny_Return_some (aO (he pins s σ H _ I h) fun v s1 ⟨x,H1,I1,r1,q1⟩=>⟨x,σ,H1,I1,r1,q1⟩)
def yZ (c:TT) (t u:TS):TS:=fun D σ H=>c σ H fun b H1=>if b=true then t D σ H1 else u D σ H1
theorem al2 {c:Expr}{a b:List Stmt}{tc:TT} (hc:PT X c tc) (ha:dH X a t) (hb:dH X b u):PS X (.If c a b pos) (yZ tc t u):=by
 intro pins s σ H D I h
 refine wpAny_If (aO (hc pins s σ H _ I h) fun d s1 ⟨H1,I1,q1⟩=>?_)
 cases d with
 | true=>exact ha pins s1 σ H1 D I1 q1
 | false=>exact hb pins s1 σ H1 D I1 q1
end
abbrev TG:=V->St->Hp->(St->Hp->Prop)->Prop
abbrev kM:=List V->St->Hp->(St->Hp->Prop)->Prop
def PG (X:Cx) (target:Expr) (t:TG):Prop:=
 ∀ (pins:List (Addr × Obj)) (s:Shared) (σ:St) (H:Hp) (v:V) (u:Value) (Q:St->Hp->Prop),a8 X pins σ H s->aV v u->t v σ H Q->
  wpAny (model X.prog X.w) X.A (assign target X.env u) (fun _ s'=>∃ σ' H',a8 X pins σ' H' s'/\Q σ' H') X.xe s
def pQ (X:Cx) (ts:List Expr) (t:kM):Prop:=
 ∀ (pins:List (Addr × Obj)) (s:Shared) (σ:St) (H:Hp) (vs:List V) (us:List Value) (Q:St->Hp->Prop),a8 X pins σ H s->aN vs us->t vs σ H Q->
  wpAny (model X.prog X.w) X.A (assignInOrder ((assignEach ts X.env).map (·.2)) us) (fun _ s'=>∃ σ' H',a8 X pins σ' H' s'/\Q σ' H') X.xe s
abbrev tW:=V->V->V->Hp->(Hp->Prop)->Prop
def z9 (X:Cx) (t:tW):Prop:=
 ∀ (pins:List (Addr × Obj)) (s:Shared) (σ:St) (H:Hp) (o i v:V) (ov iv u:Value) (Q:Hp->Prop),a8 X pins σ H s->aV o ov->aV i iv->aV v u->t o i v H Q->
  wpAny (model X.prog X.w) X.A (setItem ov iv u) (fun _ s'=>∃ H',a8 X pins σ H' s'/\Q H') X.xe s
section
variable {X : Cx} {pos : Pos}
def dS (i:Nat):TG:=fun v σ H Q=>Q (σ.set i (some v)) H
theorem eW {i:Nat}{x:Str} (hN:X.N.Nodup) (hi:X.N[i]? = some x) (hx:iY X.env.scope x) (hf:X.fn x=true ∨ X.env.scope.names.lookup x=some .local:=by first | exact .inl rfl | exact .inr rfl | assumption):PG X (.Name x pos) (dS i):=by
 intro pins s σ H v u Q I r h
 exact wpAny_assign_Name (pO I hN hi hx r (fun s' I'=>⟨_,H,I',h⟩) hf)
def nD:kM:=fun vs σ H Q=>vs = []/\Q σ H
def iZ (t:TG) (u:kM):kM:=fun vs σ H Q=>∃ v r,vs=v :: r/\t v σ H fun σ' H'=>u r σ' H' Q
theorem lU:pQ X [] nD:=by
 intro pins s σ H vs us Q I r h
 obtain ⟨e,h⟩:=h
 subst e
 cases r
 exact assignInOrder_nil ⟨σ,H,I,h⟩
theorem g9 {e:Expr}{es:List Expr}{t:TG}{u:kM} (h1:PG X e t) (h2:pQ X es u)
  (hs:(assignEach (e :: es) X.env).map (·.2)=assign e X.env :: (assignEach es X.env).map (·.2):=by rfl):pQ X (e :: es) (iZ t u):=by
 intro pins s σ H vs us Q I r h
 obtain ⟨v,vr,e1,h⟩:=h
 subst e1
 cases r with
 | cons r rr=>
  rw [hs]
  refine assignInOrder_cons (aO (h1 pins s σ H _ _ _ I r h) fun _ s1 ⟨σ1,H1,I1,q1⟩=>?_)
  exact h2 pins s1 σ1 H1 _ _ Q I1 rr q1
def nE (K:PySem.W.Frag) (n:Nat) (t:kM):TG:=fun v σ H Q=>∃ a xs,v = .ref a/\aF K H a xs/\xs.length=n/\t xs σ H Q
theorem lV {es:List Expr}{k:Nat}{t:kM}{n:Nat} (hc:X.calm=true) (h:pQ X es t)
  (hn:(assignEach es X.env).length=n:=by rfl) (hst:(assignEach es X.env).findIdx? (·.1)=none:=by rfl):PG X (.Tuple es k pos) (nE X.K n t):=by
 intro pins s σ H v u Q I r hw
 obtain ⟨a,xs,e1,hq,hl,hw⟩:=hw
 subst e1
 cases r
 obtain ⟨its,rv,ht,hz⟩:=I.tuple hq
 refine assign_Tuple_tuple (I.ok.hd hc) ht (by simp [hn,<- hl,rv.length]) hst fun h' hx=>?_
 have I1:a8 X pins σ H { s with heap:=h' }:=I.kept (t':=s.toks) fun b o e=>hx b o (bk4 (bi1 e)) e
 exact h pins _ σ H xs _ Q I1 (by simpa using rv) hw
def kN (to ti:TE) (t:tW):TG:=fun v σ H Q=>to σ H fun o H1=>ti σ H1 fun i H2=>t o i v H2 fun H3=>Q σ H3
theorem tX {o i:Expr}{to ti:TE}{t:tW} (ho:PE X o to) (hi:PE X i ti) (hs:z9 X t)
  (ha:∀ v,assign (.Subscript o i pos) X.env v=(do
   let ov <- holding [v] (eval o X.env)
   let iv <- holding [v,ov] (eval i X.env)
   standAt pos
   holding [v,ov,iv] (setItem ov iv v)
   release [v,ov,iv] []):=by intro _; rfl):PG X (.Subscript o i pos) (kN to ti t):=by
 intro pins s σ H v u Q I r h
 rw [ha]
 refine bg5 (bp0 (aO (ho pins s σ H _ I h) fun ov s1 ⟨x,H1,I1,r1,q1⟩=>?_))
 refine bg5 (bp0 (aO (hi pins s1 σ H1 _ I1 q1) fun iv s2 ⟨y,H2,I2,r2,q2⟩=>?_))
 refine bg5 (wpAny_standAt (bg5 (bp0 (aO (hs pins s2 σ H2 x y v ov iv u _ I2 r1 r2 r q2) fun _ s3 ⟨H3,I3,q3⟩=>?_))))
 exact wpAny_release ⟨σ,H3,I3,q3⟩
def jR (te:TE) (g:TG):TS:=fun D σ H=>te σ H fun x H1=>g x σ H1 D.nx
theorem zA {tg e:Expr}{te:TE}{g:TG} (he:PE X e te) (hg:PG X tg g) (hs:swapsWithSole [tg] e pos.line X.env=pure false:=by rfl) (hw:swappedStores [tg] e X.env=pure none:=by rfl)
  (h1:(assignEach [tg] X.env).map (·.2) = [assign tg X.env]:=by rfl):PS X (.Assign [tg] e pos) (jR te g):=by
 intro pins s σ H D I h
 refine wpAny_Assign_stores (aO (he pins s σ H _ I h) fun v s1 ⟨x,H1,I1,r1,q1⟩=>?_) hs hw
 rw [h1]
 exact aO (hg pins s1 σ H1 x v _ I1 r1 q1) fun _ s2 q=>q
theorem zB {i:Nat}{x:Str}{e:Expr}{te:TE}{pos':Pos} (hN:X.N.Nodup) (hi:X.N[i]? = some x) (hx:iY X.env.scope x) (he:PE X e te) (hs:swapsWith e (some (.Name x pos')) pos.line X.env=pure false:=by rfl) (hf:X.fn x=true ∨ X.env.scope.names.lookup x=some .local:=by first | exact .inl rfl | exact .inr rfl | assumption) :
  PS X (.Assign [.Name x pos'] e pos) (jR te (dS i)):=by
 intro pins s σ H D I h
 refine wpAny_Assign_Name (aO (he pins s σ H _ I h) fun v s1 ⟨y,H1,I1,r1,q1⟩=>?_) hs
 exact pO I1 hN hi hx r1 (fun s2 I2=>⟨_,H1,I2,q1⟩) hf
end
section
variable {X : Cx} {pos : Pos}
def zC (c:TT) (tb:TS):TS:=fun D σ H=>∃ W:Nat->St->Hp->Prop,(∃ m,W m σ H)/\∀ m σ H,W m σ H->
 c σ H fun b H1=>if b=true then ∃ N:St->Hp->Prop,(∀ σ' H',N σ' H'->∃ m',m' < m/\W m' σ' H')/\tb { D with nx:=N,ct:=N,bk:=D.nx } σ H1 else D.nx σ H1
theorem al3 {c:Expr}{body:List Stmt}{tc:TT}{tb:TS} (hp:PassesOwn (model X.prog X.w) X.A X.env X.xe) (hc:PT X c tc) (hb:dH X body tb):PS X (.While c body [] pos) (zC tc tb):=by
 intro pins s σ H D I h
 obtain ⟨W,⟨m0,w0⟩,turn⟩:=h
 refine wpAny_While (codeAny_whileLoop (fun n s'=>∃ σ' H',a8 X pins σ' H' s'/\W n σ' H') ?_ m0 ⟨σ,H,I,w0⟩)
 rintro n s1 ⟨σ1,H1,I1,w1⟩
 refine bw0 hp (aO (hc pins s1 σ1 H1 _ I1 (turn n σ1 H1 w1)) fun b s2 ⟨H2,I2,q2⟩=>?_)
 cases b with
 | true=>
  obtain ⟨N,hN,q2⟩:=q2
  rw [if_pos rfl]
  refine bw0 hp (aO (hb pins s2 σ1 H2 _ I2 q2) fun f s3 q3=>?_)
  cases f with
  | next=>
   obtain ⟨σ3,H3,I3,n3⟩:=q3
   obtain ⟨m',hm,w3⟩:=hN σ3 H3 n3
   exact⟨m',hm,σ3,H3,I3,w3⟩
  | cont=>
   obtain ⟨σ3,H3,I3,n3⟩:=q3
   obtain ⟨m',hm,w3⟩:=hN σ3 H3 n3
   exact⟨m',hm,σ3,H3,I3,w3⟩
  | brk=>exact q3
  | ret v=>exact q3
 | false=>
  rw [if_neg bi6]
  exact wpAny_execs_nil ⟨σ1,H2,I2,q2⟩
end
structure It where
 go:Nat->Hp->Prop
 yld:Nat->Hp->V->Hp->Prop
 stop:Nat->Hp->Prop
def gA (X:Cx) (pins:List (Addr × Obj)) (H:Hp) (b:Addr):Prop:=
 H b=none/\b ≠ X.env.locals/\b ∉ X.fs/\(b ∈ X.ex ∨ X.s₀.heap.objs.size<=b)/\(∀ x c,X.env.cells.lookup x=some c->c ≠ b)/\∀ p ∈ X.pn ++ pins,p.1 ≠ b
theorem a8.fpOk {X:Cx}{pins:List (Addr × Obj)}{σ:St}{H H':Hp}{s:Shared}{b:Addr} (I:a8 X pins σ H s) (hb:s.heap.objs.size<=b) (hn:H' b=none):gA X pins H' b:=by
 refine⟨hn,bp6 (bi2 I.lt hb),I.nofs hb,.inr (bk3 I.sz hb),fun x c e z=>?_,fun p hp z=>?_⟩
 ·obtain ⟨v,q⟩:=I.cell x c e
  exact absurd (bi2 q.lt (by rw [z]; exact hb)) (bo2 _)
 ·exact absurd (bi2 (bi1 (I.pin p hp).1) (by rw [z]; exact hb)) (bo2 _)
structure gW (P:Program) (w:World) (K:PySem.W.Frag) (tg:Expr) (J:It) (fp:List Addr) (it:Addr) (tn:Nat->Heap->Prop):Prop where
 mem:it ∈ fp
 obj:∀ i h,tn i h->∀ b ∈ fp,∃ o,h.get? b=some o/\∀ v,o.data ≠ .cell v
 keep:∀ i h h',tn i h->(∀ b ∈ fp,∀ o,h.get? b=some o->h'.get? b=some o)->tn i h'
 item:∀ (X:Cx),X.prog=P->X.w=w->X.K=K->X.calm=true->∀ (i:Nat) (pins:List (Addr × Obj)) (s:Shared) (σ:St) (H:Hp) (E:Value->Shared->Prop),a8 X pins σ H s->(∀ b ∈ fp,gA X pins H b)->tn i s.heap->J.go i H->
  wpAny (model P w) X.A (pyNext (.ref it)) (fun r s1=>∃ u,r=some u/\
   wpAny (model P w) X.A (letOwnedTupleGo tg (.ref it) u) (fun _ s2=>∃ x H',a8 X pins σ H' s2/\aV x u/\J.yld i H x H'/\tn (i+1) s2.heap/\∀ b ∈ fp,H' b=none) E s1) E s
 done:∀ (X:Cx),X.prog=P->X.w=w->X.K=K->X.calm=true->∀ (i:Nat) (pins:List (Addr × Obj)) (s:Shared) (σ:St) (H:Hp) (E:Value->Shared->Prop),a8 X pins σ H s->(∀ b ∈ fp,gA X pins H b)->tn i s.heap->J.stop i H->
  wpAny (model P w) X.A (pyNext (.ref it)) (fun r s1=>r=none/\a8 X pins σ H s1) E s
 self:∀ (A:Around) (i:Nat) (s:Shared) (Q:Value->Shared->Prop) (E:Value->Shared->Prop),tn i s.heap->Q (.ref it) s->wpAny (model P w) A (pyIter (.ref it)) Q E s
abbrev TI:=St->Hp->(It->Hp->Prop)->Prop
def zD (X:Cx) (pins:List (Addr × Obj)) (σ:St) (tg:Expr) (R:It->Hp->Prop) (itv:Value) (s2:Shared):Prop:=
 ∃ (it:Addr) (fp:List Addr) (tn:Nat->Heap->Prop) (J:It) (H':Hp),itv = .ref it/\a8 X pins σ H' s2/\gW X.prog X.w X.K tg J fp it tn/\tn 0 s2.heap/\(∀ b ∈ fp,gA X pins H' b)/\R J H'
def PI (X:Cx) (tg iter:Expr) (wi:TI):Prop:=
 ∀ (pins:List (Addr × Obj)) (s:Shared) (σ:St) (H:Hp) (R:It->Hp->Prop),a8 X pins σ H s->wi σ H R->
  wpAny (model X.prog X.w) X.A (eval iter X.env) (fun v s1=>wpAny (model X.prog X.w) X.A (pyIter v) (zD X pins σ tg R) X.xe s1) X.xe s
theorem tY {M:Model}{A:Around}{E:Value->Shared->Prop}{s:Shared}{tg:Expr}{it:Addr}{u:Value}{o:Obj}{n:String}{vs:Array Value}{Q:Unit->Shared->Prop} (ho:s.heap.get? it=some o) (hc:o.cls = .type n) (hd:o.data = .fields vs)
    (hn : ["enumerate","zip","dict_itemiterator","dict_reverseitemiterator","odict_iterator","itertools.zip_longest","itertools.pairwise"].contains n=false) (hQ:Q () s):wpAny M A (letOwnedTupleGo tg (.ref it) u) Q E s:=by
  unfold letOwnedTupleGo
  cases tg <;> first
    | exact bg9 hQ
    | (cases u <;> first
        | exact bg9 hQ
        | (refine bg5 (wpAny_load ho ?_)
           rw [hc,hd]
           show wpAny M A (if (["enumerate","zip","dict_itemiterator","dict_reverseitemiterator","odict_iterator","itertools.zip_longest","itertools.pairwise"].contains n && vs[0]? == some (rawInt _))=true then _ else _) Q E s
           rw [if_neg (by intro h; rw [hn,Bool.false_and] at h; cases h)]
           exact bg9 hQ))
def lW (K:PySem.W.Frag) (a:Addr):It:=
 ⟨fun i H=>∃ xs x,aH K H a xs/\xs[i]? = some x,fun i H x H'=>H'=H/\∀ xs,aH K H a xs->xs[i]? = some x,fun i H=>∃ xs,aH K H a xs/\xs.length<=i⟩
def jS (K:PySem.W.Frag) (a:Addr):It:=
 ⟨fun i H=>∃ xs x,aF K H a xs/\xs[i]? = some x,fun i H x H'=>H'=H/\∀ xs,aF K H a xs->xs[i]? = some x,fun i H=>∃ xs,aF K H a xs/\xs.length<=i⟩
def nF (lo:Int) (n:Nat):It:=⟨fun i _=>i < n,fun i H x H'=>H'=H/\x = .int (lo+i),fun i _=>n<=i⟩
theorem al4 {P:Program}{w:World}{K:PySem.W.Frag}{tg:Expr} (a it:Addr):gW P w K tg (lW K a) [it] it (fun i h=>h.IsListIter it a i) where
 mem:=by simp
 obj:=fun i h st b hb=>by
  have e:b=it:=by simpa using hb
  subst e
  obtain ⟨o,e,c,d⟩:=st
  exact⟨o,e,fun v z=>by rw [d] at z; cases z⟩
 keep:=fun i h h' st k=>st.at fun o e=>k it (by simp) o e
 item:=by
  intro X hP hw hK hc i pins s σ H E I hf st hg
  subst hP hw hK
  obtain ⟨xs,x,hq,hx⟩:=hg
  obtain ⟨its,rv,p,hz⟩:=I.list hq
  obtain ⟨u,hu,ru⟩:=rv.get hx
  obtain ⟨f0,f1,f2,f3,f4,f5⟩:=hf it (by simp)
  refine wpAny_pyNext_list_item st p.isList (x:=u) (by simpa using hu) fun h' st' sb=>?_
  have I1:a8 X pins σ H { s with heap:=h' }:=I.turned (t':=s.toks) (fun b o hb e=>(sb.2 b hb).trans e) f0 f1 f3 f4 f5
  obtain ⟨o,e,c,d⟩:=id st'
  exact⟨u,rfl,tY (s:={ s with heap:=h' }) e c d (by decide) ⟨x,H,I1,ru,⟨rfl,fun ys hy=>by rw [I.list_inj hy hq]; exact hx⟩,st',fun b hb=>(hf b hb).1⟩⟩
 done:=by
  intro X hP hw hK hc i pins s σ H E I hf st hg
  subst hP hw hK
  obtain ⟨xs,hq,hx⟩:=hg
  obtain ⟨its,rv,p,hz⟩:=I.list hq
  obtain ⟨f0,f1,f2,f3,f4,f5⟩:=hf it (by simp)
  have hl:=rv.length
  exact wpAny_pyNext_list_end (I.ok.hd hc) st p.isList (by simp; omega) fun h' eb=>⟨rfl,I.turned (t':=s.toks) (fun b o hb e=>eb b o hb e) f0 f1 f3 f4 f5⟩
 self:=fun _ _ _ _ _ st h=>wpAny_pyIter_listiter st h
theorem zE {P:Program}{w:World}{K:PySem.W.Frag}{tg:Expr} (a it:Addr):gW P w K tg (jS K a) [it] it (fun i h=>h.IsTupleIter it a i) where
 mem:=by simp
 obj:=fun i h st b hb=>by
  have e:b=it:=by simpa using hb
  subst e
  obtain ⟨o,e,c,d⟩:=st
  exact⟨o,e,fun v z=>by rw [d] at z; cases z⟩
 keep:=fun i h h' st k=>st.at fun o e=>k it (by simp) o e
 item:=by
  intro X hP hw hK hc i pins s σ H E I hf st hg
  subst hP hw hK
  obtain ⟨xs,x,hq,hx⟩:=hg
  obtain ⟨its,rv,p,hz⟩:=I.tuple hq
  obtain ⟨u,hu,ru⟩:=rv.get hx
  obtain ⟨f0,f1,f2,f3,f4,f5⟩:=hf it (by simp)
  refine wpAny_pyNext_tuple_item st (show s.heap.IsTuple a its.toArray from p) (x:=u) (by simpa using hu) fun h' st' sb=>?_
  have I1:a8 X pins σ H { s with heap:=h' }:=I.turned (t':=s.toks) (fun b o hb e=>(sb.2 b hb).trans e) f0 f1 f3 f4 f5
  obtain ⟨o,e,c,d⟩:=id st'
  exact⟨u,rfl,tY (s:={ s with heap:=h' }) e c d (by decide) ⟨x,H,I1,ru,⟨rfl,fun ys hy=>by rw [I.tuple_inj hy hq]; exact hx⟩,st',fun b hb=>(hf b hb).1⟩⟩
 done:=by
  intro X hP hw hK hc i pins s σ H E I hf st hg
  subst hP hw hK
  obtain ⟨xs,hq,hx⟩:=hg
  obtain ⟨its,rv,p,hz⟩:=I.tuple hq
  obtain ⟨f0,f1,f2,f3,f4,f5⟩:=hf it (by simp)
  have hl:=rv.length
  exact wpAny_pyNext_tuple_end (I.ok.hd hc) st (show s.heap.IsTuple a its.toArray from p) (by simp; omega) fun h' eb=>⟨rfl,I.turned (t':=s.toks) (fun b o hb e=>eb b o hb e) f0 f1 f3 f4 f5⟩
 self:=fun _ _ _ _ _ st h=>wpAny_pyIter_tupleiter st h
theorem al5 {P:Program}{w:World}{K:PySem.W.Frag}{tg:Expr} (it:Addr) (lo:Int) (n:Nat):gW P w K tg (nF lo n) [it] it (fun i h=>IsRangeIter h it (lo+(i:Nat) * 1) ((n:Int) - (i:Nat)) 1) where
 mem:=by simp
 obj:=fun i h st b hb=>by
  have e:b=it:=by simpa using hb
  subst e
  exact⟨_,st,fun v z=>by
   have z':Data.fields _=Data.cell v:=z
   cases z'⟩
 keep:=fun i h h' st k=>k it (by simp) _ st
 item:=by
  intro X hP hw hK hc i pins s σ H E I hf st hg
  subst hP hw hK
  obtain ⟨f0,f1,f2,f3,f4,f5⟩:=hf it (by simp)
  have W:=Walks.range (prog:=X.prog) (w:=X.w) (I.ok.hd hc) it lo 1 n
  refine W.item i s _ _ hg st fun v h' tk hv st' kk=>?_
  obtain ⟨t,rfl⟩:=hv
  have I1:a8 X pins σ H { s with heap:=h',toks:=tk }:=I.turned (fun b o hb e=>kk b o (by simpa using hb) e) f0 f1 f3 f4 f5
  refine⟨_,rfl,tY (s:={ s with heap:=h',toks:=tk }) (n:="range_iterator") st' rfl rfl (by decide) ⟨.int (lo+i),H,I1,⟨t,?_⟩,⟨rfl,rfl⟩,st',fun b hb=>(hf b hb).1⟩⟩
  rw [Int.mul_one]
 done:=by
  intro X hP hw hK hc i pins s σ H E I hf st hg
  subst hP hw hK
  obtain ⟨f0,f1,f2,f3,f4,f5⟩:=hf it (by simp)
  exact wpAny_pyNext_range_end (I.ok.hd hc) st (by have:n<=i:=hg; omega) fun h' eb=>⟨rfl,I.turned (t':=s.toks) (fun b o hb e=>eb b o hb e) f0 f1 f3 f4 f5⟩
 self:=fun _ _ _ _ _ st h=>wpAny_pyIter_rangeiter st h
section
variable {X : Cx} {tg : Expr}
def al6 (K:PySem.W.Frag) (tl:TE):TI:=fun σ H R=>tl σ H fun x H1=>∃ a,x = .ref a/\(∃ xs,aF K H1 a xs)/\R (jS K a) H1
theorem pR {l:Expr}{tl:TE} (hl:PE X l tl):PI X tg l (al6 X.K tl):=by
 intro pins s σ H R I h
 refine aO (hl pins s σ H _ I h) fun v s1 ⟨x,H1,I1,r1,q1⟩=>?_
 obtain ⟨a,e,⟨xs,hq⟩,q⟩:=q1
 subst e
 cases r1
 obtain ⟨its,rv,p,hz⟩:=I1.tuple hq
 refine bs6 (show s1.heap.IsTuple a its.toArray from p) ?_
 refine⟨s1.heap.objs.size,[s1.heap.objs.size],_,_,H1,rfl,I1.kept (t':=s1.toks) fun b o e=>bg6 _ e,zE a _,⟨_,bi0 _ rfl,rfl,rfl⟩,fun b hb=>?_,q⟩
 have e:b=s1.heap.objs.size:=by simpa using hb
 subst e
 exact I1.fpOk (bh0 _) (I1.hok.fresh (bh0 _))
theorem zF {pins:List (Addr × Obj)}{σ:St}{H:Hp}{s:Shared}{R:It->Hp->Prop}{E:Value->Shared->Prop}{lo hi:Int}{t u v:Tok}{tk:Nat} (I:a8 X pins σ H s) (h1 : -(2 ^ 62)<=lo) (h2:lo < 2 ^ 62) (h3 : -(2 ^ 62)<=hi) (h4:hi < 2 ^ 62)
  (q:R (nF lo (hi - lo).toNat) H):wpAny (model X.prog X.w) X.A (pyIter (.ref s.heap.objs.size)) (zD X pins σ tg R) E { s with heap:=s.heap.push { cls:=.type "range",data:=.fields #[.int lo t,.int hi u,.int 1 v] },toks:=tk }:=by
 refine wpAny_pyIter_range (IsRange.new ..) (small_one h1 h2 h3 h4) ?_
 have I1:a8 X pins σ H { s with heap:=s.heap.push { cls:=.type "range",data:=.fields #[.int lo t,.int hi u,.int 1 v] },toks:=tk }:=I.kept fun b o e=>bg6 _ e
 refine⟨(s.heap.push { cls:=.type "range",data:=.fields #[.int lo t,.int hi u,.int 1 v] }).objs.size,[(s.heap.push { cls:=.type "range",data:=.fields #[.int lo t,.int hi u,.int 1 v] }).objs.size],_,_,H,rfl,
  I1.kept (t':=tk) fun b o e=>bg6 _ e,al5 _ lo (hi - lo).toNat,?_,fun b hb=>?_,q⟩
 ·have e1:lo+((0:Nat):Int) * 1=lo:=by simp
  have e2:(((hi - lo).toNat:Nat):Int) - ((0:Nat):Int)=Builtin.Range.rangeSize lo hi 1:=by rw [rangeSize_one]; split <;> omega
  show IsRangeIter _ _ (lo+((0:Nat):Int) * 1) ((((hi - lo).toNat:Nat):Int) - ((0:Nat):Int)) 1
  rw [e1,e2]
  exact bi0 _ rfl
 ·have e:b=(s.heap.push { cls:=.type "range",data:=.fields #[.int lo t,.int hi u,.int 1 v] }).objs.size:=by simpa using hb
  subst e
  exact I1.fpOk (bh0 _) (I1.hok.fresh (bh0 _))
def zG (ta:TA):TI:=fun σ H R=>ta σ H fun vs H1=>∃ j:Int,vs = [.int j]/\-(2 ^ 62)<=j/\j < 2 ^ 62/\R (nF 0 j.toNat) H1
def zH (ta:TA):TI:=fun σ H R=>ta σ H fun vs H1=>∃ i j:Int,vs = [.int i,.int j]/\(-(2 ^ 62)<=i/\i < 2 ^ 62/\-(2 ^ 62)<=j/\j < 2 ^ 62)/\R (nF i (j - i).toNat) H1
theorem al7 {a:Expr}{ta:TA}{p pos:Pos} (hg:Gl X "range") (hm:X.mg "range" = none) (ha:PA X [a] ta) (hs:starEach [a] X.env = [(false,eval a X.env)]:=by rfl):PI X tg (.Call (.Name "range" p) [a] [] pos) (zG ta):=by
 intro pins s σ H R I h
 refine Call_ (gV I hg hm boot_range (bl5 (aO (ha pos pins s σ H _ I h) fun us s1 ⟨vs,H1,I1,r1,q1⟩=>?_) hs rfl))
 obtain ⟨j,e,q1,q2,q⟩:=q1
 subst e
 cases r1 with
 | cons r rr=>
  cases rr
  obtain ⟨t,rfl⟩:=r
  exact call_range_1 (zF I1 (by omega) (by omega) q1 q2 (by simpa using q))
theorem al8 {a b:Expr}{ta:TA}{p pos:Pos} (hg:Gl X "range") (hm:X.mg "range" = none) (ha:PA X [a,b] ta) (hs:starEach [a,b] X.env = [(false,eval a X.env),(false,eval b X.env)]:=by rfl) (hs2:starEach [b] X.env = [(false,eval b X.env)]:=by rfl) :
  PI X tg (.Call (.Name "range" p) [a,b] [] pos) (zH ta):=by
 intro pins s σ H R I h
 refine Call_ (gV I hg hm boot_range (bl5 (aO (ha pos pins s σ H _ I h) fun us s1 ⟨vs,H1,I1,r1,q1⟩=>?_) (by rw [hs,hs2]) (by rw [hs2]; rfl)))
 obtain ⟨i,j,e,⟨q1,q2,q3,q4⟩,q⟩:=q1
 subst e
 cases r1 with
 | cons r rr=>
  cases rr with
  | cons r' rr=>
   cases rr
   obtain ⟨t,rfl⟩:=r
   obtain ⟨t',rfl⟩:=r'
   exact call_range_2 (zF I1 q1 q2 q3 q4 q)
def zI (wi:TI) (g:TG) (tb:TS):TS:=fun D σ H=>wi σ H fun J H1=>∃ W:Nat->Nat->St->Hp->Prop,(∃ m,W 0 m σ H1)/\∀ i m σ H,W i m σ H->
 (J.stop i H/\D.nx σ H) ∨ (J.go i H/\∃ N:St->Hp->Prop,(∀ σ' H',N σ' H'->∃ m',m' < m/\W (i+1) m' σ' H')/\∀ x H',J.yld i H x H'->g x σ H' fun σ2 H2=>tb { D with nx:=N,ct:=N,bk:=D.nx } σ2 H2)
def nG (fp:List Addr) (h:Heap):List (Addr × Obj):=fp.filterMap fun b=>(h.get? b).map fun o=>(b,o)
theorem pS {fp:List Addr}{h:Heap}{b:Addr}{o:Obj} (hb:b ∈ fp) (e:h.get? b=some o):(b,o) ∈ nG fp h:=List.mem_filterMap.mpr ⟨b,hb,by rw [e]; rfl⟩
theorem al9 {fp:List Addr}{h:Heap}{p:Addr × Obj} (hp:p ∈ nG fp h):p.1 ∈ fp/\h.get? p.1=some p.2:=by
 obtain ⟨b,hb,e⟩:=List.mem_filterMap.mp hp
 cases q:h.get? b with
 | none=>rw [q] at e; cases e
 | some o=>
  rw [q] at e
  have e':(b,o)=p:=bj9 e
  subst e'
  exact⟨hb,q⟩
theorem a8.pinned {pins:List (Addr × Obj)}{σ:St}{H:Hp}{s:Shared}{fp:List Addr} (I:a8 X pins σ H s) (hf:∀ b ∈ fp,gA X pins H b) (ho:∀ b ∈ fp,∃ o,s.heap.get? b=some o/\∀ v,o.data ≠ .cell v):a8 X (pins ++ nG fp s.heap) σ H s:=
 I.pins_of fun p hp=>(bk0.mp hp).elim (fun z=>I.pin p (bk6 _ z)) fun z=>by
  obtain ⟨hb,e⟩:=al9 z
  obtain ⟨f0,f1,f2,_⟩:=hf p.1 hb
  obtain ⟨o,e',d⟩:=ho p.1 hb
  rw [e] at e'; cases e'
  exact⟨e,f0,f1,f2,d⟩
theorem a8.unpinned {pins pl:List (Addr × Obj)}{σ:St}{H:Hp}{s:Shared} (I:a8 X (pins ++ pl) σ H s):a8 X pins σ H s:=I.pins_of fun p hp=>I.pin p (bk6 _ (bp3 _ hp))
theorem tZ {iter:Expr}{body:List Stmt}{wi:TI}{g:TG}{tb:TS}{pos:Pos} (hp:PassesOwn (model X.prog X.w) X.A X.env X.xe) (hc:X.calm=true) (hi:PI X tg iter wi) (hg:PG X tg g) (hb:dH X body tb)
  (hs:∀ x,foldedSetIterable iter X.env x=pure x:=by intro _; rfl):PS X (.For tg iter body [] pos) (zI wi g tb):=by
 intro pins s σ H D I h
 refine wpAny_For (aO (hi pins s σ H _ I h) fun v s1 h1=>aO h1 fun itv s2 h2=>?_) hs
 obtain ⟨it,fp,tn,J,H2,e,I2,T,st2,f2,W,⟨m0,w0⟩,turn⟩:=h2
 subst e
 have stat:∀ {H':Hp},(∀ b ∈ fp,H' b=none)->∀ b ∈ fp,gA X pins H' b:=fun hn b hb=>⟨hn b hb,(f2 b hb).2⟩
 refine codeAny_forLoop_any (fun n s'=>∃ i σ' H',a8 X pins σ' H' s'/\tn i s'.heap/\(∀ b ∈ fp,H' b=none)/\W i n σ' H') ?_ m0 ⟨0,σ,H2,I2,st2,fun b hb=>(f2 b hb).1,w0⟩
 rintro n s3 ⟨i,σ3,H3,I3,st3,fr3,w3⟩
 rcases turn i n σ3 H3 w3 with ⟨stop,qn⟩ | ⟨go,N,hN,step⟩
 ·refine bw0 hp (aO (T.done X rfl rfl rfl hc i pins s3 σ3 H3 X.xe I3 (stat fr3) st3 stop) fun r s4 ⟨hr,I4⟩=>?_)
  subst hr
  exact wpAny_execs_nil ⟨σ3,H3,I4,qn⟩
 ·refine bw0 hp (aO (T.item X rfl rfl rfl hc i pins s3 σ3 H3 X.xe I3 (stat fr3) st3 go) fun r s4 ⟨u,hr,h4⟩=>?_)
  subst hr
  refine bw0 hp (aO h4 fun _ s5 ⟨x,H5,I5,r5,y5,st5,fr5⟩=>?_)
  have I5':=I5.pinned (stat fr5) (T.obj _ _ st5)
  refine bw0 hp (aO (hg _ s5 σ3 H5 x u _ I5' r5 (step x H5 y5)) fun _ s6 ⟨σ6,H6,I6,q6⟩=>?_)
  refine bw0 hp (aO (hb _ s6 σ6 H6 _ I6 q6) fun f s7 q7=>?_)
  have again:∀ {σ7:St}{H7:Hp},a8 X (pins ++ nG fp s5.heap) σ7 H7 s7->N σ7 H7->∃ m,m < n/\∃ i σ' H',a8 X pins σ' H' s7/\tn i s7.heap/\(∀ b ∈ fp,H' b=none)/\W i m σ' H':=fun {σ7 H7} I7 n7=>by
   obtain ⟨m',hm,w7⟩:=hN σ7 H7 n7
   refine⟨m',hm,i+1,σ7,H7,I7.unpinned,T.keep _ _ _ st5 fun b hb o e=>(I7.pin (b,o) (bk6 _ (bk6 _ (pS hb e)))).1,fun b hb=>?_,w7⟩
   obtain ⟨o,e,d⟩:=T.obj _ _ st5 b hb
   exact (I7.pin (b,o) (bk6 _ (bk6 _ (pS hb e)))).2.1
  cases f with
  | next=>obtain ⟨σ7,H7,I7,n7⟩:=q7; exact again I7 n7
  | cont=>obtain ⟨σ7,H7,I7,n7⟩:=q7; exact again I7 n7
  | brk=>obtain ⟨σ7,H7,I7,q7⟩:=q7; exact⟨σ7,H7,I7.unpinned,q7⟩
  | ret v=>obtain ⟨x7,σ7,H7,I7,r7,q7⟩:=q7; exact⟨x7,σ7,H7,I7.unpinned,r7,q7⟩
end
theorem bf9 {K:PySem.W.Frag}{a:Addr}{xs:List V}{g:TG}{tb:TS}{D:bP}{σ:St}{H:Hp} (Pv:Nat->St->Hp->Prop) (h0:Pv 0 σ H) (hl:∀ i σ H,i<=xs.length->Pv i σ H->aH K H a xs)
  (hs:∀ i x σ H,xs[i]? = some x->Pv i σ H->g x σ H fun σ2 H2=>tb { D with nx:=Pv (i+1),ct:=Pv (i+1),bk:=D.nx } σ2 H2) (hd:∀ σ H,Pv xs.length σ H->D.nx σ H) :
  ∃ W:Nat->Nat->St->Hp->Prop,(∃ m,W 0 m σ H)/\∀ i m σ H,W i m σ H->
   ((lW K a).stop i H/\D.nx σ H) ∨ ((lW K a).go i H/\∃ N:St->Hp->Prop,(∀ σ' H',N σ' H'->∃ m',m' < m/\W (i+1) m' σ' H')/\∀ x H',(lW K a).yld i H x H'->g x σ H' fun σ2 H2=>tb { D with nx:=N,ct:=N,bk:=D.nx } σ2 H2):=by
 refine⟨fun i m σ H=>m=xs.length - i/\i<=xs.length/\Pv i σ H,⟨xs.length,by simp,bl6 _,h0⟩,?_⟩
 rintro i m σ H ⟨rfl,hi,p⟩
 have q:=hl i σ H hi p
 by_cases hlt:i < xs.length
 ·refine .inr ⟨⟨xs,xs[i],q,by simp [hlt]⟩,Pv (i+1),fun σ' H' p'=>⟨xs.length - (i+1),by omega,rfl,hlt,p'⟩,fun x H' y=>?_⟩
  obtain ⟨e,y⟩:=y
  subst e
  exact hs i x σ _ (y xs q) p
 ·have e:i=xs.length:=by omega
  subst e
  exact .inl ⟨⟨xs,q,bh0 _⟩,hd σ H p⟩
theorem zJ {K:PySem.W.Frag}{a:Addr}{xs:List V}{g:TG}{tb:TS}{D:bP}{σ:St}{H:Hp} (Pv:Nat->St->Hp->Prop) (h0:Pv 0 σ H) (hl:∀ i σ H,i<=xs.length->Pv i σ H->aF K H a xs)
  (hs:∀ i x σ H,xs[i]? = some x->Pv i σ H->g x σ H fun σ2 H2=>tb { D with nx:=Pv (i+1),ct:=Pv (i+1),bk:=D.nx } σ2 H2) (hd:∀ σ H,Pv xs.length σ H->D.nx σ H) :
  ∃ W:Nat->Nat->St->Hp->Prop,(∃ m,W 0 m σ H)/\∀ i m σ H,W i m σ H->
   ((jS K a).stop i H/\D.nx σ H) ∨ ((jS K a).go i H/\∃ N:St->Hp->Prop,(∀ σ' H',N σ' H'->∃ m',m' < m/\W (i+1) m' σ' H')/\∀ x H',(jS K a).yld i H x H'->g x σ H' fun σ2 H2=>tb { D with nx:=N,ct:=N,bk:=D.nx } σ2 H2):=by
 refine⟨fun i m σ H=>m=xs.length - i/\i<=xs.length/\Pv i σ H,⟨xs.length,by simp,bl6 _,h0⟩,?_⟩
 rintro i m σ H ⟨rfl,hi,p⟩
 have q:=hl i σ H hi p
 by_cases hlt:i < xs.length
 ·refine .inr ⟨⟨xs,xs[i],q,by simp [hlt]⟩,Pv (i+1),fun σ' H' p'=>⟨xs.length - (i+1),by omega,rfl,hlt,p'⟩,fun x H' y=>?_⟩
  obtain ⟨e,y⟩:=y
  subst e
  exact hs i x σ _ (y xs q) p
 ·have e:i=xs.length:=by omega
  subst e
  exact .inl ⟨⟨xs,q,bh0 _⟩,hd σ H p⟩
abbrev R2:=V->V->Hp->VK->Prop
def c9 (X:Cx) (f:Value->Value->Sem Value) (r:R2):Prop:=
 ∀ (pins:List (Addr × Obj)) (s:Shared) (σ:St) (H:Hp) (x y:V) (v u:Value) (Q:VK),a8 X pins σ H s->aV x v->aV y u->r x y H Q->
  wpAny (model X.prog X.w) X.A (f v u) (EP X pins σ Q) X.xe s
def u5 (X:Cx) (f:Value->Sem Value) (r:V->Hp->VK->Prop):Prop:=
 ∀ (pins:List (Addr × Obj)) (s:Shared) (σ:St) (H:Hp) (x:V) (v:Value) (Q:VK),a8 X pins σ H s->aV x v->r x H Q->
  wpAny (model X.prog X.w) X.A (f v) (EP X pins σ Q) X.xe s
def cN (X:Cx) (f:Value) (r:List V->Hp->VK->Prop):Prop:=
 ∀ (pins:List (Addr × Obj)) (s:Shared) (σ:St) (H:Hp) (xs:List V) (us:List Value) (Q:VK),a8 X pins σ H s->aN xs us->r xs H Q->
  wpAny (model X.prog X.w) X.A (call f us) (EP X pins σ Q) X.xe s
def am0 (X:Cx) (r:V->Hp->(Bool->Hp->Prop)->Prop):Prop:=
 ∀ (pins:List (Addr × Obj)) (s:Shared) (σ:St) (H:Hp) (x:V) (v:Value) (Q:Bool->Hp->Prop),a8 X pins σ H s->aV x v->r x H Q->
  wpAny (model X.prog X.w) X.A (truthy v) (TP X pins σ Q) X.xe s
def nH (r:R2) (ta tb:TE):TE:=fun σ H Q=>ta σ H fun x H1=>tb σ H1 fun y H2=>r x y H2 Q
def tUn (r:V->Hp->VK->Prop) (ta:TE):TE:=fun σ H Q=>ta σ H fun x H1=>r x H1 Q
def rI (C:Int->Int->Prop) (g:Int->Int->V):R2:=fun x y H Q=>∃ i j,x = .int i/\y = .int j/\C i j/\Q (g i j) H
def j4 (g:Int->Int->V):R2:=fun x y H Q=>∃ i j,x = .int i/\y = .int j/\Q (g i j) H
def rU (g:Int->V):V->Hp->VK->Prop:=fun x H Q=>∃ i,x = .int i/\Q (g i) H
section
variable {X : Cx} {a b c : Expr} {ta tb tc : TE} {pos : Pos}
theorem u6 (ha:PE X a ta) (hb:PE X b tb) {pins:List (Addr × Obj)}{s:Shared}{σ:St}{H:Hp}{R:V->V->Hp->Prop} (I:a8 X pins σ H s)
  (h:ta σ H fun x H1=>tb σ H1 fun y H2=>R x y H2) {Q:Value->Shared->Prop}{f:Value->Value->Sem Value}
  (hf:∀ v u s2 x y H2,a8 X pins σ H2 s2->aV x v->aV y u->R x y H2->wpAny (model X.prog X.w) X.A (f v u) Q X.xe s2) :
  wpAny (model X.prog X.w) X.A (eval a X.env) (fun v s₁=>wpAny (model X.prog X.w) X.A (eval b X.env) (fun u s₂=>wpAny (model X.prog X.w) X.A (f v u) Q X.xe s₂) X.xe s₁) X.xe s:=by
 refine aO (ha pins s σ H _ I h) fun v s1 ⟨x,H1,I1,r1,q1⟩=>?_
 refine aO (hb pins s1 σ H1 _ I1 q1) fun u s2 ⟨y,H2,I2,r2,q2⟩=>?_
 exact hf v u s2 x y H2 I2 r1 r2 q2
theorem am1 {op:Operator}{r:R2} (ho:c9 X (binaryOp op) r) (ha:PE X a ta) (hb:PE X b tb):PE X (.BinOp a op b pos) (nH r ta tb):=by
 intro pins s σ H Q I h
 exact wpAny_BinOp (u6 ha hb I h fun v u s2 x y H2 I2 rx ry q=>ho pins s2 σ H2 x y v u Q I2 rx ry q)
theorem am2 {op:UnaryOp}{r:V->Hp->VK->Prop} (ho:u5 X (unaryOp op) r) (ha:PE X a ta):PE X (.UnaryOp op a pos) (tUn r ta):=by
 intro pins s σ H Q I h
 exact UnaryOp_ (aO (ha pins s σ H _ I h) fun v s1 ⟨x,H1,I1,r1,q1⟩=>ho pins s1 σ H1 x v Q I1 r1 q1)
theorem pT {f:Value->Value->Sem Value}{C:Int->Int->Prop}{g:Int->Int->Int}
  (rule:∀ (i j:Int) (t u:Tok) (s:Shared) (Q:Value->Shared->Prop) (E:Value->Shared->Prop),C i j->Q (.int (g i j) s.toks) { s with toks:=s.toks+1 }->wpAny (model X.prog X.w) X.A (f (.int i t) (.int j u)) Q E s) :
  c9 X f (rI C fun i j=>.int (g i j)):=by
 intro pins s σ H x y v u Q I rx ry h
 obtain ⟨i,j,rfl,rfl,hc,q⟩:=h
 obtain ⟨t,rfl⟩:=rx
 obtain ⟨t',rfl⟩:=ry
 exact rule i j t t' s _ _ hc ⟨.int (g i j),H,I.tok _,⟨_,rfl⟩,q⟩
theorem zK {f:Value->Value->Sem Value}{g:Int->Int->Int}
  (rule:∀ (i j:Int) (t u:Tok) (s:Shared) (Q:Value->Shared->Prop) (E:Value->Shared->Prop),Q (.int (g i j) s.toks) { s with toks:=s.toks+1 }->wpAny (model X.prog X.w) X.A (f (.int i t) (.int j u)) Q E s) :
  c9 X f (j4 fun i j=>.int (g i j)):=by
 intro pins s σ H x y v u Q I rx ry h
 obtain ⟨i,j,rfl,rfl,q⟩:=h
 obtain ⟨t,rfl⟩:=rx
 obtain ⟨t',rfl⟩:=ry
 exact rule i j t t' s _ _ ⟨.int (g i j),H,I.tok _,⟨_,rfl⟩,q⟩
theorem u7 {f:Value->Value->Sem Value}{g:Int->Int->Bool}
  (rule:∀ (i j:Int) (t u:Tok) (s:Shared) (Q:Value->Shared->Prop) (E:Value->Shared->Prop),Q (.bool (g i j)) s->wpAny (model X.prog X.w) X.A (f (.int i t) (.int j u)) Q E s) :
  c9 X f (j4 fun i j=>.bl (g i j)):=by
 intro pins s σ H x y v u Q I rx ry h
 obtain ⟨i,j,rfl,rfl,q⟩:=h
 obtain ⟨t,rfl⟩:=rx
 obtain ⟨t',rfl⟩:=ry
 exact rule i j t t' s _ _ ⟨.bl (g i j),H,I,rfl,q⟩
def u8 (i j:Int):Prop:=0 < j/\j < 1073741824
def u9 (i j:Int):Prop:=0<=j/\j<=1000000/\i.natAbs < 2 ^ 64
def nI (i j:Int):Prop:=(-(2 ^ 64) < i/\i < 2 ^ 64) ∨ (-(2 ^ 64) < j/\j < 2 ^ 64)
theorem nI.ok {i j:Int} (h:nI i j):IntMulOk i j:=by
 rcases h with ⟨h1,h2⟩ | ⟨h1,h2⟩
 ·exact .of_left (intBits_le_64 h1 h2)
 ·exact .of_right (intBits_le_64 h1 h2)
theorem am3:c9 X (binaryOp .Add) (j4 fun i j=>.int (i+j)):=zK fun _ _ _ _ _ _ _ q=>add_int q
theorem am4:c9 X (binaryOp .Sub) (j4 fun i j=>.int (i - j)):=zK fun _ _ _ _ _ _ _ q=>sub_int q
theorem am5:c9 X (binaryOp .Mult) (rI nI fun i j=>.int (i * j)):=pT fun _ _ _ _ _ _ _ hc q=>mul_int q hc.ok
theorem am6:c9 X (binaryOp .FloorDiv) (rI u8 fun i j=>.int (i / j)):=pT fun i j _ _ _ _ _ hc q=>by
 have h1:(0:Int) < j:=hc.1
 have h2:j < 1073741824:=hc.2
 exact floordiv_int (by omega) (by rw [Int.fdiv_eq_ediv_of_nonneg i (by omega)]; exact q) (.inl (PyProof.noPylong_small (by omega)))
theorem am7:c9 X (binaryOp .Mod) (rI (fun _ j=>0 < j) fun i j=>.int (i % j)):=pT fun i j _ _ _ _ _ hc q=>by
 have h1:(0:Int) < j:=hc
 exact mod_int' (by omega) (by rw [Int.fmod_eq_emod_of_nonneg i (by omega)]; exact q)
theorem am8:c9 X (binaryOp .Pow) (rI u9 fun i j=>.int (i ^ j.toNat)):=pT fun _ _ _ _ _ _ _ hc q=>pow_int_small hc.1 hc.2.1 hc.2.2 q
theorem unI {f:Value->Sem Value}{g:Int->Int}
  (rule:∀ (i:Int) (t:Tok) (s:Shared) (Q:Value->Shared->Prop) (E:Value->Shared->Prop),Q (.int (g i) s.toks) { s with toks:=s.toks+1 }->wpAny (model X.prog X.w) X.A (f (.int i t)) Q E s) :
  u5 X f (rU fun i=>.int (g i)):=by
 intro pins s σ H x v Q I rx h
 obtain ⟨i,rfl,q⟩:=h
 obtain ⟨t,rfl⟩:=rx
 exact rule i t s _ _ ⟨.int (g i),H,I.tok _,⟨_,rfl⟩,q⟩
theorem am9:u5 X (unaryOp .USub) (rU fun i=>.int (-i)):=unI fun _ _ _ _ _ q=>neg_int q
end
def zL:V->V->Bool
 | .non,.non=>true | .non,.int _=>true | .int _,.non=>true | .non,.bl _=>true | .bl _,.non=>true | .non,.str _=>true | .str _,.non=>true
 | .int _,.int _=>true | .bl _,.bl _=>true | .str _,.str _=>true | .byt _,.byt _=>true
 | .int _,.str _=>true | .str _,.int _=>true | .bl _,.str _=>true | .str _,.bl _=>true
 | _,_=>false
def zM:R2:=fun x y H Q=>zL x y=true/\Q (.bl (decide (x=y))) H
def zN:R2:=fun x y H Q=>zL x y=true/\Q (.bl (!decide (x=y))) H
theorem zO {i j:Int}:decide (V.int i=V.int j)=(i == j):=by
 rw [bl1]
 simp
theorem zP {i j:Bool}:decide (V.bl i=V.bl j)=(i == j):=by
 rw [bl1]
 simp
theorem zQ {i j:Str}:decide (V.str i=V.str j)=(i == j):=by
 rw [bl1]
 simp
theorem zR {i j:Array UInt8}:decide (V.byt i=V.byt j)=(i.toList == j.toList):=by
 rw [bl1]
 cases i
 cases j
 simp
section
variable {X : Cx} {a b c : Expr} {ta tb tc : TE} {pos : Pos}
theorem bY {pins:List (Addr × Obj)}{σ:St}{H:Hp}{s:Shared}{Q:VK}{k k':Bool} (I:a8 X pins σ H s) (q:Q (.bl k) H) (e:k=k'):EP X pins σ Q (.bool k') s:=by
 subst e
 exact⟨.bl k,H,I,rfl,q⟩
theorem zS:c9 X (compareOp .Eq) zM:=by
 intro pins s σ H x y v u Q I rx ry h
 obtain ⟨hs,q⟩:=h
 cases x with
 | non=>
  cases rx
  cases y with
  | non=>cases ry; exact PySem.EqNone.eq_none_none (bY I q (by simp))
  | bl j=>cases ry; exact PySem.EqNone.eq_none_bool (bY I q (by simp))
  | int j=>obtain ⟨t',rfl⟩:=ry; exact PySem.EqNone.eq_none_int (bY I q (by simp))
  | str j=>obtain ⟨t',rfl⟩:=ry; exact PySem.EqNone.eq_none_str (bY I q (by simp))
  | _=>exact absurd (show false=true from hs) bi6
 | bl i=>
  cases rx
  cases y with
  | non=>cases ry; exact PySem.EqNone.eq_bool_none (bY I q (by simp))
  | bl j=>cases ry; exact eq_bool (bY I q zP)
  | str j=>obtain ⟨t',rfl⟩:=ry; exact PySem.EqMixed.eq_bool_str (bY I q (by simp))
  | _=>exact absurd (show false=true from hs) bi6
 | int i=>
  obtain ⟨t,rfl⟩:=rx
  cases y with
  | non=>cases ry; exact PySem.EqNone.eq_int_none (bY I q (by simp))
  | int j=>obtain ⟨t',rfl⟩:=ry; exact eq_int (bY I q zO)
  | str j=>obtain ⟨t',rfl⟩:=ry; exact PySem.EqMixed.eq_int_str (bY I q (by simp))
  | _=>exact absurd (show false=true from hs) bi6
 | str i=>
  obtain ⟨t,rfl⟩:=rx
  cases y with
  | non=>cases ry; exact PySem.EqNone.eq_str_none (bY I q (by simp))
  | bl j=>cases ry; exact PySem.EqMixed.eq_str_bool (bY I q (by simp))
  | int j=>obtain ⟨t',rfl⟩:=ry; exact PySem.EqMixed.eq_str_int (bY I q (by simp))
  | str j=>obtain ⟨t',rfl⟩:=ry; exact eq_str (bY I q zQ)
  | _=>exact absurd (show false=true from hs) bi6
 | byt i=>
  obtain ⟨t,rfl⟩:=rx
  cases y with
  | byt j=>obtain ⟨t',rfl⟩:=ry; exact PySem.W.eq_bytes (bY I q zR)
  | _=>exact absurd (show false=true from hs) bi6
 | _=>cases y <;> exact absurd (show false=true from hs) bi6
theorem an0:c9 X (compareOp .NotEq) zN:=by
 intro pins s σ H x y v u Q I rx ry h
 obtain ⟨hs,q⟩:=h
 cases x with
 | non=>
  cases rx
  cases y with
  | non=>cases ry; exact PySem.EqNone.ne_none_none (bY I q (by simp))
  | bl j=>cases ry; exact PySem.EqNone.ne_none_bool (bY I q (by simp))
  | int j=>obtain ⟨t',rfl⟩:=ry; exact PySem.EqNone.ne_none_int (bY I q (by simp))
  | str j=>obtain ⟨t',rfl⟩:=ry; exact PySem.EqNone.ne_none_str (bY I q (by simp))
  | _=>exact absurd (show false=true from hs) bi6
 | bl i=>
  cases rx
  cases y with
  | non=>cases ry; exact PySem.EqNone.ne_bool_none (bY I q (by simp))
  | bl j=>cases ry; exact ne_bool (bY I q (congrArg not zP))
  | str j=>obtain ⟨t',rfl⟩:=ry; exact PySem.EqMixed.ne_bool_str (bY I q (by simp))
  | _=>exact absurd (show false=true from hs) bi6
 | int i=>
  obtain ⟨t,rfl⟩:=rx
  cases y with
  | non=>cases ry; exact PySem.EqNone.ne_int_none (bY I q (by simp))
  | int j=>obtain ⟨t',rfl⟩:=ry; exact ne_int (bY I q (congrArg not zO))
  | str j=>obtain ⟨t',rfl⟩:=ry; exact PySem.EqMixed.ne_int_str (bY I q (by simp))
  | _=>exact absurd (show false=true from hs) bi6
 | str i=>
  obtain ⟨t,rfl⟩:=rx
  cases y with
  | non=>cases ry; exact PySem.EqNone.ne_str_none (bY I q (by simp))
  | bl j=>cases ry; exact PySem.EqMixed.ne_str_bool (bY I q (by simp))
  | int j=>obtain ⟨t',rfl⟩:=ry; exact PySem.EqMixed.ne_str_int (bY I q (by simp))
  | str j=>obtain ⟨t',rfl⟩:=ry; exact ne_str (bY I q (congrArg not zQ))
  | _=>exact absurd (show false=true from hs) bi6
 | byt i=>
  obtain ⟨t,rfl⟩:=rx
  cases y with
  | byt j=>obtain ⟨t',rfl⟩:=ry; exact PySem.W.ne_bytes (bY I q (congrArg not zR))
  | _=>exact absurd (show false=true from hs) bi6
 | _=>cases y <;> exact absurd (show false=true from hs) bi6
theorem pU:c9 X (compareOp .Lt) (j4 fun i j=>.bl (decide (i < j))):=u7 fun _ _ _ _ _ _ _ q=>lt_int q
theorem an1:c9 X (compareOp .LtE) (j4 fun i j=>.bl (decide (i<=j))):=u7 fun _ _ _ _ _ _ _ q=>le_int q
theorem zT:c9 X (compareOp .GtE) (j4 fun i j=>.bl (decide (j<=i))):=u7 fun _ _ _ _ _ _ _ q=>ge_int q
theorem gB (b:Expr) {op:CmpOp} (h:op ≠ .In:=by decide) (h2:op ≠ .NotIn:=by decide):behindInMarks op b=false:=by
 have e1:(op == CmpOp.In)=false:=by cases op <;> first | rfl | exact absurd rfl h
 have e2:(op == CmpOp.NotIn)=false:=by cases op <;> first | rfl | exact absurd rfl h2
 cases b <;> simp [behindInMarks,e1,e2]
theorem uA {op:CmpOp}{r:R2} (ho:c9 X (compareOp op) r) (ha:PE X a ta) (hb:PE X b tb) (hm:behindInMarks op b=false):PE X (.Compare a [op] [b] pos) (nH r ta tb):=by
 intro pins s σ H Q I h
 exact wpAny_Compare1 (u6 ha hb I h fun v u s2 x y H2 I2 rx ry q=>ho pins s2 σ H2 x y v u Q I2 rx ry q) hm
def an2 (t:TE):TT:=fun σ H Q=>t σ H fun x H'=>∃ k,x = .bl k/\Q k H'
theorem an3 {op:CmpOp}{r:R2} (ho:c9 X (compareOp op) r) (ha:PE X a ta) (hb:PE X b tb) (hm:behindInMarks op b=false):PT X (.Compare a [op] [b] pos) (an2 (nH r ta tb)):=by
 intro pins s σ H Q I h
 refine wpAny_isTrue_Compare1 (aO (ha pins s σ H _ I h) fun v s1 ⟨x,H1,I1,r1,q1⟩=>aO (hb pins s1 σ H1 _ I1 q1) fun u s2 ⟨y,H2,I2,r2,q2⟩=>
  aO (ho pins s2 σ H2 x y v u _ I2 r1 r2 q2) fun c s3 ⟨z,H3,I3,r3,k,e,q3⟩=>?_) hm
 subst e
 cases r3
 exact bt8 ⟨H3,I3,q3⟩
def uB (K:PySem.W.Frag) (x:V) (H:Hp) (k:Bool):Prop:=
 match x with
 | .non=>k=false
 | .bl b=>k=b
 | .int i=>k=(i != 0)
 | .str y=>y.length<=sizeLine/\k=((y.length:Int) != 0)
 | .byt y=>y.size<=sizeLine/\k=((y.size:Int) != 0)
 | .ref p=>(∃ xs,aH K H p xs/\k = !xs.isEmpty) ∨ (∃ xs,aF K H p xs/\k = !xs.isEmpty) ∨ ∃ kvs,H p=some (.dK kvs)/\k = !kvs.isEmpty
 | _=>False
theorem an4 {κ:Type}{kvs:List (κ × V)}{vs:List (κ × Value)} (r:KV kvs vs):(!vs.isEmpty) = !kvs.isEmpty:=by
 cases r <;> rfl
theorem zU {xs:List V}{its:List Value} (r:aN xs its):(!its.toArray.isEmpty) = !xs.isEmpty:=by
 cases r <;> simp
theorem lX:(sizeLine:Nat) < 2 ^ 63:=by rw [sizeLine_eq]; decide
theorem an5:am0 X (fun x H Q=>∃ k,uB X.K x H k/\Q k H):=by
 intro pins s σ H x v Q I rx h
 obtain ⟨k,e,q⟩:=h
 have hl:=lX
 have hs:sizeLine=16777216:=sizeLine_eq
 cases x with
 | non=>
  cases rx
  have e':k=false:=e
  subst e'
  exact truthy_none ⟨H,I,q⟩
 | bl b=>
  cases rx
  have e':k=b:=e
  subst e'
  exact bt8 ⟨H,I,q⟩
 | int i=>
  obtain ⟨t,rfl⟩:=rx
  have e':k=(i != 0):=e
  subst e'
  exact PySem.P.truthy_int ⟨H,I,q⟩
 | str y=>
  obtain ⟨t,rfl⟩:=rx
  obtain ⟨hy,e'⟩:y.length<=sizeLine/\k=((y.length:Int) != 0):=e
  subst e'
  exact PySem.P.truthy_str (by omega) ⟨H,I.tok _,q⟩
 | byt y=>
  obtain ⟨t,rfl⟩:=rx
  obtain ⟨hy,e'⟩:y.size<=sizeLine/\k=((y.size:Int) != 0):=e
  subst e'
  exact PySem.W.truthy_bytes (by omega) ⟨H,I.tok _,q⟩
 | ref p=>
  cases rx
  have e':(∃ xs,aH X.K H p xs/\k = !xs.isEmpty) ∨ (∃ xs,aF X.K H p xs/\k = !xs.isEmpty) ∨ ∃ kvs,H p=some (.dK kvs)/\k = !kvs.isEmpty:=e
  rcases e' with ⟨xs,hx,e'⟩ | ⟨xs,hx,e'⟩ | ⟨kvs,hx,e'⟩
  ·subst e'
   obtain ⟨its,r,pl,hz⟩:=I.list hx
   have hlen:=r.length
   exact wpAny_truthy_list pl.isList (by simp only [bg7]; omega) ⟨H,I.tok _,by rw [zU r]; exact q⟩
  ·subst e'
   obtain ⟨its,r,pl,hz⟩:=I.tuple hx
   have hlen:=r.length
   exact truthy_tuple pl (by simp only [bg7]; omega) ⟨H,I.tok _,by rw [zU r]; exact q⟩
  ·subst e'
   obtain ⟨hz,hS,vs,r,m⟩:kvs.length<=sizeLine/\(p == sysModules)=false/\∃ vs,KV kvs vs/\s.heap.DictOf (eG X.prog X.w) p vs:=I.hok p _ hx
   have hlen:kvs.length=vs.length:=Paired.length r
   exact wpAny_truthy_dict hS m (by omega) ⟨H,I.tok _,by rw [an4 r]; exact q⟩
 | _=>exact (show False from e).elim
theorem an6 (ha:PE X a ta) (he:∀ whole,isTrue a X.env whole=(do let v <- whole; standAt a.pos; holding [v] (truthy v))) :
  PT X a (fun σ H Q=>ta σ H fun x H'=>∃ k,uB X.K x H' k/\Q k H'):=by
 intro pins s σ H Q I h
 exact isTrue_plain (aO (ha pins s σ H _ I h) fun v s1 ⟨x,H1,I1,r1,q1⟩=>an5 pins s1 σ H1 x v Q I1 r1 q1) (he _)
theorem gX {x:V}{us:List Value} (r:aN [x] us):∃ u,us = [u]/\aV x u:=by
 cases r with
 | cons r1 r2=>cases r2; exact⟨_,rfl,r1⟩
theorem nJ {x y:V}{us:List Value} (r:aN [x,y] us):∃ u w',us = [u,w']/\aV x u/\aV y w':=by
 cases r with
 | cons r1 r2=>
  cases r2 with
  | cons r3 r4=>cases r4; exact⟨_,_,rfl,r1,r3⟩
theorem an7 (hc:X.calm=true):cN X (.builtin "max") (fun xs H Q=>∃ i j,xs = [.int i,.int j]/\Q (.int (if j > i then j else i)) H):=by
 intro pins s σ H xs us Q I r h
 obtain ⟨i,j,rfl,q⟩:=h
 obtain ⟨u,w',rfl,⟨t,rfl⟩,⟨t',rfl⟩⟩:=nJ r
 refine max_two_ints (I.ok.hd hc) fun h' tk k=>⟨_,H,I.kept k,?_,q⟩
 by_cases hj:j > i
 ·rw [if_pos hj,if_pos hj]; exact⟨_,rfl⟩
 ·rw [if_neg hj,if_neg hj]; exact⟨_,rfl⟩
theorem an8 (hc:X.calm=true):cN X (.builtin "min") (fun xs H Q=>∃ i j,xs = [.int i,.int j]/\Q (.int (if j < i then j else i)) H):=by
 intro pins s σ H xs us Q I r h
 obtain ⟨i,j,rfl,q⟩:=h
 obtain ⟨u,w',rfl,⟨t,rfl⟩,⟨t',rfl⟩⟩:=nJ r
 refine min_two_ints (I.ok.hd hc) fun h' tk k=>⟨_,H,I.kept k,?_,q⟩
 by_cases hj:j < i
 ·rw [if_pos hj,if_pos hj]; exact⟨_,rfl⟩
 ·rw [if_neg hj,if_neg hj]; exact⟨_,rfl⟩
end
structure uC (h:Heap) (x dx C:Addr) (mA:Str->Option Value):Prop where
 obj:h.get? x=some (PySem.W.instObj C dx)
 ns:h.Ns1 dx mA
 ne:dx ≠ x
theorem an9 {h:Heap}{dx:Addr}{mA:Str->Option Value} (n:h.Ns1 dx mA):∃ od,h.get? dx=some od/\∀ name,PySem.W.lookIn name od=some (mA name):=by
 obtain ⟨o,es,ep,ho,hd,hk,_,hm⟩:=n
 refine⟨o,ho,fun name=>?_⟩
 have e:=hm name
 unfold nsFind findBy at e
 rw [<- Array.find?_toList] at e
 unfold PySem.W.lookIn
 rw [hd]
 dsimp only
 split
 ·rename_i y q
  rw [q] at e
  exact congrArg some e
 ·rename_i q
  rw [q] at e
  have a:es.toList.any (·.refKey)=false:=by
   rw [List.any_eq_false]
   intro y hy
   obtain ⟨z,t,hkey⟩:=hk y (Array.mem_toList_iff.mp hy)
   simp [DictEntry.refKey,hkey]
  have a' : ¬ es.toList.any (·.refKey)=true:=by rw [a]; exact bi6
  rw [if_neg a']
  exact congrArg some e
theorem uC.look {h:Heap}{x dx C:Addr}{mA:Str->Option Value} (I:uC h x dx C mA):∃ od,PySem.W.InstAt h x (PySem.W.instObj C dx) C (some od)/\∀ name,PySem.W.lookIn name od=some (mA name):=
 let ⟨od,ho,hl⟩:=an9 I.ns
 ⟨od,⟨I.obj,rfl,rfl,ho⟩,hl⟩
section
variable {P : Program} {w : World} {H H' : Hp} {h h' : Heap} {a C dx : Addr} {fs fs' : List (Str × V)}
theorem ao0 (hok:bS P w H h) (e:H a=some (.ins C dx fs)):∃ mA,uC h a dx C mA/\(∀ f,kH (fs.lookup f) (mA f))/\PySem.Within mA (fs.map (·.1))/\fs.length<=1000/\H dx=some (.own a):=by
 obtain ⟨d,z,ne,ob,mA,n,r,q⟩:=(show bR P w H h a (.ins C dx fs) from hok a _ e)
 exact⟨mA,⟨ob,n,ne⟩,r,q,z,d⟩
end
structure uD (K:PySem.W.Frag) (C:Addr):Prop where
 pg:PySem.W.plainGet K C Str.empty=true
 hd:PySem.W.hasDictIn K C=true
 po:PySem.W.plainOver K C=true
 sa:PySem.W.findIn K (.ref C) "__setattr__" = some (some (.builtin "object.__setattr__"))
theorem uD.get {K:PySem.W.Frag}{C:Addr} (c:uD K C) (f:Str):PySem.W.plainGet K C f=true:=c.pg
section
variable {X : Cx} {pins : List (Addr × Obj)} {σ : St} {H : Hp} {s : Shared} {A : Around} {E : Value → Shared → Prop} {Q : Value → Shared → Prop} {c : Value} {b : Bool}
inductive eY (K:PySem.W.Frag) (H:Hp):V->Value->Prop where
 | non:eY K H .non (.type "NoneType")
 | bl (x:Bool):eY K H (.bl x) (.type "bool")
 | int (i:Int):eY K H (.int i) (.type "int")
 | str (x:Str):eY K H (.str x) (.type "str")
 | flt (x:UInt64):eY K H (.flt x) (.type "float")
 | lst {a:Addr}{xs:List V} (e:H a=some (.lst xs)):eY K H (.ref a) (.type "list")
 | frz {a:Addr}{o:Obj}{xs:List V} (e:H a=some (.frz o (.lst xs))):eY K H (.ref a) (.type "list")
 | tup {a:Addr}{xs:List V} (e:H a=some (.tup xs)):eY K H (.ref a) (.type "tuple")
 | dK {a:Addr}{kvs:List (aE × V)} (e:H a=some (.dK kvs)):eY K H (.ref a) (.type "dict")
 | dT {a:Addr}{kvs:List (List aE × V)} (e:H a=some (.dT kvs)):eY K H (.ref a) (.type "dict")
 | ins {a C dx:Addr}{fs:List (Str × V)} (e:H a=some (.ins C dx fs)) (cl:uD K C) (ha:PySem.W.findIn K (.ref C) "__class__" = some (some (.builtin "object.__class__")))
   (hn:PySem.W.specialIn K (.builtin "object.__class__") "__get__" = some (some (.builtin "getset_descriptor.__get__"))) (htk:PySem.W.takesIn K (.builtin "object.__class__")=some true)
   (hm:PySem.W.mroIn K C (.type "object")=some true):eY K H (.ref a) (.ref C)
theorem ao1 {x:V}{u t:Value} (I:a8 X pins σ H s) (rx:aV x u) (ty:eY X.K H x t) (e:PySem.W.kitOne X.K t c=some b) (h:∀ tk,Q (.bool b) { s with toks:=tk }) :
  wpAny (model X.prog X.w) A (call (.builtin "isinstance") [u,c]) Q E s:=by
 cases ty with
 | non=>cases (show u=Value.none from rx); exact bn8 PySem.W.kitx_none I.kIn bx4 e (fun z=>nomatch z) h
 | bl y=>cases (show u=Value.bool y from rx); exact bn8 PySem.W.kitx_bool I.kIn bx4 e (fun z=>nomatch z) h
 | int i=>obtain ⟨t,q⟩:=(show ∃ t,u=Value.int i t from rx); cases q; exact bn8 PySem.W.kitx_int I.kIn bx4 e (fun z=>nomatch z) h
 | str y=>obtain ⟨t,q⟩:=(show ∃ t,u=Value.str y t from rx); cases q; exact bn8 PySem.W.kitx_str I.kIn bx4 e (fun z=>nomatch z) h
 | flt y=>obtain ⟨t,q⟩:=(show ∃ t,u=Value.float y t from rx); cases q; exact bn8 PySem.W.kitx_float I.kIn bx4 e (fun z=>nomatch z) h
 | @lst a xs ea=>
  cases (show u=Value.ref a from rx)
  obtain ⟨_,_,n,_,h1⟩:=(show bR X.prog X.w H s.heap a (.lst xs) from I.hok a _ ea)
  exact bn8 PySem.W.kitx_list I.kIn ⟨_,h1,rfl⟩ e (fun z=>nomatch z) h
 | @frz a ob xs ea=>
  cases (show u=Value.ref a from rx)
  obtain ⟨_,_,_,n,_,h1⟩:=(show bR X.prog X.w H s.heap a (.frz ob (.lst xs)) from I.hok a _ ea)
  exact bn8 PySem.W.kitx_list I.kIn ⟨_,h1,rfl⟩ e (fun z=>nomatch z) h
 | @tup a xs ea=>
  cases (show u=Value.ref a from rx)
  obtain ⟨_,_,_,p,_⟩:=(show bR X.prog X.w H s.heap a (.tup xs) from I.hok a _ ea)
  obtain ⟨o,h1,h2,_⟩:=p
  exact bn8 PySem.W.kitx_tuple I.kIn ⟨o,h1,h2⟩ e (fun z=>nomatch z) h
 | @dK a kvs ea=>
  cases (show u=Value.ref a from rx)
  obtain ⟨_,_,vs,_,p⟩:=(show bR X.prog X.w H s.heap a (.dK kvs) from I.hok a _ ea)
  obtain ⟨o,es,ep,h1,h2,_⟩:=p
  exact bn8 PySem.W.kitx_dict I.kIn ⟨o,h1,h2.1⟩ e (fun z=>nomatch z) h
 | @dT a kvs ea=>
  cases (show u=Value.ref a from rx)
  obtain ⟨_,_,xs,_,o,es,ep,h1,h2,_⟩:=(show bR X.prog X.w H s.heap a (.dT kvs) from I.hok a _ ea)
  exact bn8 PySem.W.kitx_dict I.kIn ⟨o,h1,h2.1⟩ e (fun z=>nomatch z) h
 | @ins a C dx fs ea cl ha hn htk hm=>
  cases (show u=Value.ref a from rx)
  obtain ⟨mA,O,_⟩:=ao0 I.hok ea
  obtain ⟨od,J,_⟩:=O.look
  exact bn8 (PySem.W.kitx_own (cl.get _) cl.hd ha hn htk hm) I.kIn J e (fun z=>nomatch z) h
end
structure bZ (k:Nat) (A:Around):Prop where
 hd:A.handled=none
 dp:A.depth+3 * k+5 < recursionLimit
 un:A.units+16 * k+200 < cLine
theorem bZ.mono {j k:Nat}{A:Around} (r:bZ k A) (h:j<=k):bZ j A:=⟨r.hd,by have:=r.dp; omega,by have:=r.un; omega⟩
theorem bZ.deeper {k:Nat}{A:Around} (r:bZ (k+1) A) (env:Env):bZ k (A.deeper env):=
 ⟨r.hd,by have:=r.dp; show A.depth+1+3 * k+5 < _; omega,by have:=r.un; show A.units+3+16 * k+200 < _; omega⟩
theorem bZ.depth {k:Nat}{A:Around} (r:bZ k A):A.depth < recursionLimit:=by have:=r.dp; omega
theorem bZ.units {k:Nat}{A:Around} (r:bZ k A):A.units+64 < cLine:=by have:=r.un; omega
def jT:TA:=fun _ H Q=>Q [] H
def iJ (ta:TE) (tr:TA):TA:=fun σ H Q=>ta σ H fun x H1=>tr σ H1 fun xs H2=>Q (x :: xs) H2
section
variable {X : Cx} {e : Expr} {es : List Expr} {te : TE} {t : TA} {pos : Pos}
theorem cT:PA X [] jT:=fun _ _ _ _ H Q I h=>Calls.spliced_nil ⟨[],H,I,.nil,h⟩
theorem cD (ha:PE X e te) (hr:PA X es t) (hs:starEach (e :: es) X.env=(false,eval e X.env) :: starEach es X.env:=by rfl):PA X (e :: es) (iJ te t):=by
 intro pos pins s σ H Q I h
 rw [hs]
 show wpAny _ _ (spliced ((false,eval e X.env) :: backTo pos (starEach es X.env))) _ _ s
 refine Calls.spliced_cons (aO (ha pins s σ H _ I h) fun u s1 ⟨x,H1,I1,r1,q1⟩=>?_)
 exact aO (hr pos pins s1 σ H1 _ I1 q1) fun us s2 ⟨xs,H2,I2,r2,q2⟩=>⟨x :: xs,H2,I2,.cons r1 r2,q2⟩
def uE (t:TA):TE:=fun σ H Q=>t σ H fun xs H1=>xs.length<=sizeLine/\∀ p,H1 p=none->Q (.ref p) (upd H1 p (.tup xs))
def uF (t:TA):TE:=fun σ H Q=>t σ H fun xs H1=>xs.length<=sizeLine/\∀ p,H1 p=none->Q (.ref p) (upd H1 p (.lst xs))
theorem zV {x1} (h:PA X es t):PE X (.Tuple es x1 pos) (uE t):=by
 intro pins s σ H Q I hq
 refine wpAny_Tuple_spliced (aO (h pos pins s σ H _ I hq) fun us s1 ⟨xs,H1,I1,r,z,q⟩=>⟨by rw [<- r.length]; exact z,?_⟩)
 have hf:H1 s1.heap.objs.size=none:=I1.hok.fresh (bh0 _)
 refine⟨.ref s1.heap.objs.size,upd H1 s1.heap.objs.size (.tup xs),I1.laid (t':=s1.toks) (fun b u e=>bg6 _ e) (bh0 _) ?_,rfl,q _ hf⟩
 exact⟨z,us,r,⟨_,bi0 _ rfl,rfl,_,rfl⟩,gT.new _ _ rfl⟩
theorem pV (h:PA X es t):PE X (.List es pos) (uF t):=by
 intro pins s σ H Q I hq
 refine wpAny_List_spliced (aO (h pos pins s σ H _ I hq) fun us s1 ⟨xs,H1,I1,r,z,q⟩=>⟨by rw [<- r.length]; exact z,?_⟩)
 have hf:H1 s1.heap.objs.size=none:=I1.hok.fresh (bh0 _)
 refine⟨.ref s1.heap.objs.size,upd H1 s1.heap.objs.size (.lst xs),I1.laid (t':=s1.toks) (fun b u e=>bg6 _ e) (bh0 _) ?_,rfl,q _ hf⟩
 exact⟨z,us,0,r,bi0 _ rfl⟩
end
abbrev Sp:=List V->Hp->VK->XK->Prop
abbrev gC:=List Env->Hp->Shared->XK->Value->Shared->Prop
structure pW (P:Program) (w:World) (K:PySem.W.Frag) (mg:Str->Option Value) (base:Heap) (A:Around) (outer:List Env) (s:Shared) (H:Hp):Prop where
 frames:A.frames=some outer
 mod:Mod K mg base
 bs:∀ b o,base.get? b=some o->s.heap.get? b=some o/\H b=none
 bsz:base.objs.size<=s.heap.objs.size
 funs:s.heap.FunFrames base outer
 frf:∀ b ∈ bN outer,H b=none
 hok:bS P w H s.heap
 bare:AllBare s.gens
def CE (outer:List Env) (P:Program) (w:World) (H:Hp) (s:Shared) (Q:VK) (u:Value) (s':Shared):Prop:=
 ∃ v H',s'.os=s.os/\AllBare s'.gens/\Un (bN outer) [] H H' s.heap s'.heap/\bS P w H' s'.heap/\aV v u/\Q v H'
def CR (CX:gC) (outer:List Env) (P:Program) (w:World) (H:Hp) (s:Shared) (Q:VK) (E:XK) (r:Result) (s':Shared):Prop:=
 match r with
 | .ok (.ret u)=>CE outer P w H s Q u s'
 | .ok _=>False
 | .error e=>CX outer H s E e s'
structure cI (P:Program) (w:World) (K:PySem.W.Frag) (mg:Str->Option Value) (base:Heap) (CX:gC) (k:Nat) (f:Addr) (fd:FuncData) (ps:List Str) (sp:Sp):Prop where
 len:∀ vs H Q E,sp vs H Q E->vs.length=ps.length
 run:∀ (A:Around) (outer:List Env) (s:Shared) (H:Hp) (args:Args) (us:List Value) (vs:List V) (Q:VK) (E:XK),bZ k A->pW P w K mg base A outer s H->BindsTo s fd args (ps.zip us)->aN vs us->sp vs H Q E->
  codeAny (model P w) A (.call (.ref f) args) (CR CX outer P w H s Q E) s
theorem cI.imp {P:Program}{w:World}{K:PySem.W.Frag}{mg:Str->Option Value}{base:Heap}{CX:gC}{k:Nat}{f:Addr}{fd:FuncData}{ps:List Str}{sp sp':Sp} (F:cI P w K mg base CX k f fd ps sp)
  (h:∀ vs H Q E,sp' vs H Q E->sp vs H Q E):cI P w K mg base CX k f fd ps sp':=
 ⟨fun vs H Q E q=>F.len vs H Q E (h _ _ _ _ q),fun A outer s H args us vs Q E hr he hb hv hs=>F.run A outer s H args us vs Q E hr he hb hv (h _ _ _ _ hs)⟩
section
variable {X : Cx} {pins : List (Addr × Obj)} {σ : St} {H : Hp} {s s' : Shared}
theorem a8.env0 (I:a8 X pins σ H s):pW X.prog X.w X.K X.mg X.base X.A X.stack s H:=
 ⟨I.ok.frames,I.ok.mod,I.bs,bk3 I.ok.bsz I.sz,I.stack,I.stkFree,I.hok,I.bare⟩
theorem a8.after {Q:VK}{u:Value} (I:a8 X pins σ H s) (h:CE X.stack X.prog X.w H s Q u s'):EP X pins σ Q u s':=by
 obtain ⟨v,H',os,bare,un,hok,r,q⟩:=h
 obtain ⟨hh,g,d,t,os'⟩:=s'
 obtain rfl:os'=s.os:=os
 exact⟨v,H',I.call (h':=hh) (g':=g) (d':=d) (t':=t) (ch:=[]) un hok bare (fun b z=>absurd z (by simp)),r,q⟩
end
def uG (sp:Sp) (dvs:List V) (E:XK) (t:TA):TE:=fun σ H Q=>t σ H fun vs H1=>sp (vs ++ dvs) H1 Q E
def gY (K:PySem.W.Frag) (fd:FuncData) (ps:List Str) (ds:List Value):Prop:=
 ∀ (s:Shared) (us:List Value),K.In s.heap->(us ++ ds).length=ps.length->BindsTo s fd ⟨us,[]⟩ (ps.zip (us ++ ds))
theorem gY.all {K:PySem.W.Frag}{fd:FuncData}{ps:List Str} (h:∀ us:List Value,us.length=ps.length->bindArgs fd ⟨us,[]⟩=pure (ps.zip us)):gY K fd ps []:=fun s us _ hl=>by
 rw [bk1] at hl ⊢
 exact .of_eq (h us hl)
def nK (CX:gC) (X:Cx) (E:XK):Prop:=∀ (pins:List (Addr × Obj)) (σ:St) (H:Hp) (s:Shared) (e:Value) (s':Shared),a8 X pins σ H s->CX X.stack H s E e s'->X.xe e s'
section
variable {X : Cx} {CX : gC} {k : Nat} {f C : Addr} {fd : FuncData} {ps : List Str} {sp : Sp} {dvs : List V} {ds : List Value} {E : XK} {x m : Str} {p pos apos : Pos} {e o : Expr} {es : List Expr} {ta : TE} {t : TA}
theorem ao2 {pins:List (Addr × Obj)}{σ:St}{H:Hp}{s:Shared}{Q:VK}{us:List Value}{vs:List V} (F:cI X.prog X.w X.K X.mg X.base CX k f fd ps sp) (hr:bZ k X.A) (hb:gY X.K fd ps ds) (hd:aN dvs ds) (hx:nK CX X E)
  (I:a8 X pins σ H s) (r:aN vs us) (h:sp (vs ++ dvs) H Q E):wpAny (model X.prog X.w) X.A (call (.ref f) us) (EP X pins σ Q) X.xe s:=by
 have r2:aN (vs ++ dvs) (us ++ ds):=r.append hd
 have hl:(us ++ ds).length=ps.length:=by rw [<- r2.length]; exact F.len _ _ _ _ h
 refine wpAny_call (codeAny_mono (F.run X.A X.stack s H ⟨us,[]⟩ (us ++ ds) (vs ++ dvs) Q E hr I.env0 (hb s us I.kIn hl) r2 h) fun r s' hq=>?_)
 cases r with
 | error e=>exact hx pins σ H s e s' I hq
 | ok fl=>
  cases fl with
  | ret u=>exact I.after hq
  | next=>exact False.elim hq
  | brk=>exact False.elim hq
  | cont=>exact False.elim hq
theorem uH (F:cI X.prog X.w X.K X.mg X.base CX k f fd ps sp) (hr:bZ k X.A) (hg:Gl X x) (hm:X.mg x=some (.ref f)) (hk:PySem.W.keepIn X.K (.ref f)=true) (hb:gY X.K fd ps ds) (hd:aN dvs ds) (hx:nK CX X E)
  (ha:PA X (e :: es) t) (hdb:(x == ("__debug__" : Str))=false:=by decide) (he:starEach (e :: es) X.env=(false,eval e X.env) :: starEach es X.env:=by rfl) (hpl:(backTo pos (starEach es X.env)).any (·.1)=false:=by rfl) :
  PE X (.Call (.Name x p) (e :: es) [] pos) (uG sp dvs E t):=by
 intro pins s σ H Q I h
 refine wpAny_Call_Name_kw (nC I hg hm ?_ hdb)
 refine PySem.W.callWith_K (h₀:=X.base) I.ok.mod.kin hk (aO (ha pos pins s σ H _ I h) fun us s1 ⟨vs,H1,I1,r,q⟩=>⟨I1.kIn,?_⟩) he hpl
 exact ao2 F hr hb hd hx I1 r q
end
def PK (X:Cx) (kws:List Keyword) (t:TA):Prop:=
 ∀ (pos:Pos) (pins:List (Addr × Obj)) (s:Shared) (σ:St) (H:Hp) (Q:List V->Hp->Prop),a8 X pins σ H s->t σ H Q->wpAny (model X.prog X.w) X.A (evalAll ((backToKw pos (keywordEach kws X.env)).map (·.2))) (AP X pins σ Q) X.xe s
structure FnScope (N P:List Str) (sc:Scope):Prop where
 kind:sc.kind = .function
 co:sc.isCoroutine=false
 gen:sc.isGenerator=false
 nd:N.Nodup
 pre:N.take P.length=P
 par:∀ x ∈ P,sc.names.lookup x=some .local ∨ sc.names.lookup x=some .cell
 nofree:∀ y ∈ sc.names,y.2 ≠ .free
theorem zW {kindOf:Str->Option NameKind}{x:Str}:∀ {binds:List (Str × Value)}{m:Str->Option Value},(∀ v,(x,v) ∉ binds)->bindL kindOf binds m x=m x
 | [],_,_=>rfl
 | (n,v) :: r,m,h=>by
  unfold bindL
  rw [zW fun w hw=>h w (bi9 _ hw)]
  split
  ·have:x ≠ n:=by rintro rfl; exact h v bi4
   simp [this]
  ·rfl
theorem zX {kindOf:Str->Option NameKind}{x:Str}:∀ {binds:List (Str × Value)}{m:Str->Option Value},(∀ v,(x,v) ∉ binds)->bindC kindOf binds m x=m x
 | [],_,_=>rfl
 | (n,v) :: r,m,h=>by
  unfold bindC
  rw [zX fun w hw=>h w (bi9 _ hw)]
  split
  ·rfl
  ·have:x ≠ n:=by rintro rfl; exact h v bi4
   simp [this]
theorem zY {kindOf:Str->Option NameKind}{x:Str}{v:Value}:∀ {P:List Str}{vs:List Value}{i:Nat}{m:Str->Option Value},P.Nodup->P[i]? = some x->vs[i]? = some v->kindOf x=some .local->
  bindL kindOf (P.zip vs) m x=some v
 | [],_,_,_,_,h,_,_=>by simp at h
 | _ :: _,[],_,_,_,_,h,_=>by simp at h
 | p :: P,w :: vs,0,m,nd,h1,h2,hk=>by
  simp at h1 h2; subst h1; subst h2
  show bindL kindOf ((p,w) :: P.zip vs) m p=_
  unfold bindL
  rw [zW fun v hv=>(bu5.mp nd).1 (List.of_mem_zip hv).1,if_pos hk]
  simp
 | p :: P,w :: vs,i+1,m,nd,h1,h2,hk=>by
  show bindL kindOf ((p,w) :: P.zip vs) m x=_
  unfold bindL
  exact zY (i:=i) (bu5.mp nd).2 (by simpa using h1) (by simpa using h2) hk
theorem zZ {kindOf:Str->Option NameKind}{x:Str}{v:Value}:∀ {P:List Str}{vs:List Value}{i:Nat}{m:Str->Option Value},P.Nodup->P[i]? = some x->vs[i]? = some v->kindOf x ≠ some .local->
  bindC kindOf (P.zip vs) m x=some v
 | [],_,_,_,_,h,_,_=>by simp at h
 | _ :: _,[],_,_,_,_,h,_=>by simp at h
 | p :: P,w :: vs,0,m,nd,h1,h2,hk=>by
  simp at h1 h2; subst h1; subst h2
  show bindC kindOf ((p,w) :: P.zip vs) m p=_
  unfold bindC
  rw [zX fun v hv=>(bu5.mp nd).1 (List.of_mem_zip hv).1,if_neg hk]
  simp
 | p :: P,w :: vs,i+1,m,nd,h1,h2,hk=>by
  show bindC kindOf ((p,w) :: P.zip vs) m x=_
  unfold bindC
  exact zZ (i:=i) (bu5.mp nd).2 (by simpa using h1) (by simpa using h2) hk
def gD (N:List Str) (vs:List V):St:=vs.map some ++ List.replicate (N.length - vs.length) none
def cZ (CX:gC) (P:Program) (w:World) (K:PySem.W.Frag) (mg:Str->Option Value) (base:Heap) (N:List Str) (qual:Str) (scope:Scope) (f:Addr) (cd:Value) (A:Around) (outer:List Env) (s:Shared) (H:Hp) (E:XK):Cx where
 prog:=P
 w:=w
 K:=K
 mg:=mg
 base:=base
 A:=A.deeper (envOfC qual scope s.heap.objs.size f cd)
 N:=N
 s₀:=s
 H₀:=H
 env:=envOfC qual scope s.heap.objs.size f cd
 outer:=outer
 stack:=envOfC qual scope s.heap.objs.size f cd :: outer
 ex:=[]
 calm:=true
 fn:=fun _=>true
 pn:=[]
 xe:=fun e s'=>wpAny (model P w) (A.deeper (envOfC qual scope s.heap.objs.size f cd)) (leaving (envOfC qual scope s.heap.objs.size f cd) e) (fun _ s''=>CX outer H s E e s'') (fun e' s''=>CX outer H s E e' s'') s'
theorem A0 {sc:Scope}{n:Nat}{x:Str} (h:sc.names.lookup x=some .cell):∃ c,(cellsFrom n sc.names []).lookup x=some c:=by
 have q:=PySem.W.cellsFrom_some sc.names n [] (.inl h)
 exact Option.isSome_iff_exists.mp q
theorem ao3 {CX:gC}{P:Program}{w:World}{K:PySem.W.Frag}{mg:Str->Option Value}{base:Heap}{N ps:List Str}{qual:Str}{scope:Scope}{f:Addr}{cd:Value}{A:Around}{outer:List Env}{s s1:Shared}{H:Hp}{E:XK}{us:List Value}{vs:List V}
  (S:FnScope N ps scope) (hd:A.handled=none) (e0:pW P w K mg base A outer s H) (hl:vs.length=ps.length) (r:aN vs us)
  (x:InCallC s s.heap.objs.size (bindL (envOfC qual scope s.heap.objs.size f cd).kindOf (ps.zip us) fun _=>none) (cellsFrom (s.heap.objs.size+1) scope.names []) (bindC (envOfC qual scope s.heap.objs.size f cd).kindOf (ps.zip us) fun _=>none) s1) :
  a8 (cZ CX P w K mg base N qual scope f cd A outer s H E) [] (gD N vs) H s1:=by
 have hpl:ps.length<=N.length:=by have:=congrArg List.length S.pre; rw [bn9] at this; omega
 obtain ⟨h1,tk,rfl,hk⟩:=x.done
 have noA:∀ b:Addr,b ∉ (cZ CX P w K mg base N qual scope f cd A outer s H E).ex:=fun b z=>absurd (show b ∈ ([]:List Addr) from z) (by simp)
 refine⟨⟨e0.mod,S.kind,rfl,rfl,bh0 _,fun y z c h1 h2=>?_,fun y hy=>?_,fun y c _ h=>?_,fun _=>hd,Around.frames_deeper e0.frames,.inr ⟨rfl,rfl⟩,fun b z=>absurd z (noA b),e0.bs,e0.bsz,fun b _ _=>noA b,fun b z=>absurd z (noA b),e0.funs,e0.frf⟩,
  rfl,e0.bare,Un.kept hk,⟨_,x.toInCall.ns,fun i y v h1 h2 h3=>?_⟩,fun y c h=>⟨_,x.cell y c h⟩,e0.hok.fresh (bh0 _),fun y c h=>?_,fun p hp=>absurd (show p ∈ ([]:List (Addr × Obj)) from hp) (by simp),e0.hok.kept hk,?_⟩
 ·exact name_of_addr x.apart (bm6 h1) (bm6 h2)
 ·have hy:scope.names.lookup y=some .cell ∨ scope.names.lookup y=some .free:=hy
  rcases hy with hy | hy
  ·exact A0 hy
  ·exact absurd rfl (S.nofree _ (bm6 hy))
 ·exact bm2 (x.above y c (bm6 h))
 ·have hi:i < vs.length:=by
   unfold gD at h2
   by_cases hi:i < vs.length
   ·exact hi
   ·rw [bv3 (by simpa using hi)] at h2
    rw [List.getElem?_replicate] at h2
    split at h2 <;> cases h2
  have ha:vs[i]? = some v:=by
   unfold gD at h2
   rw [bs3 (by simpa using hi),bh9] at h2
   cases e:vs[i]? with
   | none=>rw [e] at h2; cases h2
   | some a=>rw [e] at h2; cases h2; rfl
  obtain ⟨u,hu,rv⟩:=r.get ha
  have hp:ps[i]? = some y:=by
   rw [<- S.pre,List.getElem?_take_of_lt (by omega)]; exact h1
  have ndP:ps.Nodup:=by rw [<- S.pre]; exact S.nd.sublist (List.take_sublist _ _)
  refine⟨u,rv,?_⟩
  rcases S.par y (bj1 hp) with k | k
  ·exact .inl ⟨k,zY ndP hp hu k⟩
  ·obtain ⟨c,e⟩:=A0 (n:=s.heap.objs.size+1) k
   refine .inr ⟨.inl k,c,e,?_⟩
   have q:=x.cell y c e
   rw [zZ ndP hp hu (by show scope.names.lookup y ≠ _; rw [k]; decide)] at q
   exact q
 ·exact e0.hok.fresh (bm2 (x.above y c (bm6 h)))
 ·unfold gD
  show _=N.length
  rw [bi3,bh4,List.length_replicate]
  omega
theorem A1 {CX:gC}{P:Program}{w:World}{K:PySem.W.Frag}{mg:Str->Option Value}{base:Heap}{k:Nat}{f:Addr}{name qual:Str}{params:Arguments}{body:List Stmt}{scope:Scope}{dV kV doc pm cdv ct oc:Value}{an od:Option Addr}
  {osl:Array (Option Value)}{N ps:List Str}{sp:Sp} (lk:K.lookup f=some ⟨oc,od,.func (PySem.W.fnOf name qual params body scope dV kV doc pm an cdv ct),osl⟩) (hcd:PySem.W.codeIn K cdv qual=true) (S:FnScope N ps scope)
  (len:∀ vs H Q E,sp vs H Q E->vs.length=ps.length)
  (hbody:∀ (A:Around) (outer:List Env) (s:Shared) (H:Hp) (vs:List V) (Q:VK) (E:XK),bZ k (A.deeper (envOfC qual scope s.heap.objs.size f cdv))->sp vs H Q E->
   ∃ t,dH (cZ CX P w K mg base N qual scope f cdv A outer s H E) body t/\t { nx:=fun _ H'=>Q .non H',rt:=Q } (gD N vs) H) :
  cI P w K mg base CX (k+1) f (PySem.W.fnOf name qual params body scope dV kV doc pm an cdv ct) ps sp:=by
 refine⟨len,fun A outer s H args us vs Q E hr e0 hb r hsp=>?_⟩
 have hl:=len _ _ _ _ hsp
 have KX:K.In s.heap:=e0.mod.kin.keeps fun b o e=>(e0.bs b o e).1
 have lim:s.heap.NoLimit:=e0.mod.nolimit.keeps fun b o e=>(e0.bs b o e).1
 have hkind:∀ y ∈ ps.zip us,scope.names.lookup y.1=some .local ∨ (scope.names.lookup y.1=some .cell/\((cellsFrom (s.heap.objs.size+1) scope.names []).lookup y.1).isSome=true):=fun ⟨n,v⟩ hy=>by
  rcases S.par n (List.of_mem_zip hy).1 with q | q
  ·exact .inl q
  ·exact .inr ⟨q,PySem.W.cellsFrom_some _ _ _ (.inl q)⟩
 refine codeAny_call_function hr.depth (KX _ _ lk) rfl S.co S.gen rfl (PySem.W.codeRec_of KX hcd) (hb _ _ _ _ ?_)
 refine wpAny_newFunctionEnv_cells S.kind hkind fun env he s1 x=>?_
 subst he
 refine⟨lim.keeps x.toInCall.keep,codeAny_func ?_⟩
 obtain ⟨t,ht,hq⟩:=hbody A outer s H vs Q E (hr.deeper _) hsp
 have I:a8 (cZ CX P w K mg base N qual scope f cdv A outer s H E) [] (gD N vs) H s1:=ao3 S hr.hd e0 hl r x
 refine bp5 (ht [] s1 (gD N vs) H _ I hq) (fun fl s' hs=>?_) fun e s' hs=>hs
 have fin:∀ {σ':St}{H':Hp}{v:V}{u:Value},a8 (cZ CX P w K mg base N qual scope f cdv A outer s H E) [] σ' H' s'->aV v u->Q v H'->CE outer P w H s Q u s':=
  fun {σ' H' v u} J rv q=>⟨v,H',J.os,J.bare,J.base,J.hok,rv,q⟩
 cases fl with
 | ret u=>
  obtain ⟨v,σ',H',J,rv,q⟩:=hs
  exact fin J rv q
 | next=>
  obtain ⟨σ',H',J,q⟩:=hs
  exact fin (v:=V.non) (u:=Value.none) J rfl q
 | brk=>
  obtain ⟨_,_,_,q⟩:=hs
  exact False.elim q
 | cont=>
  obtain ⟨_,_,_,q⟩:=hs
  exact False.elim q
section
variable {X : Cx} {x : Str} {p pos : Pos} {e : Expr} {es : List Expr} {t : TA} {id T : String} {r : List V → Hp → VK → Prop}
def uI (r:List V->Hp->VK->Prop) (t:TA):TE:=fun σ H Q=>t σ H fun vs H1=>r vs H1 Q
theorem nL (hc:cN X (.builtin id) r) (hg:Gl X x) (hm:X.mg x=none) (hv:bootBuiltins x=some (.builtin id)) (ha:PA X (e :: es) t) (hn:x ≠ "__name__":=by decide) (hdb:(x == ("__debug__" : Str))=false:=by decide)
  (he:starEach (e :: es) X.env=(false,eval e X.env) :: starEach es X.env:=by rfl) (hpl:(backTo pos (starEach es X.env)).any (·.1)=false:=by rfl):PE X (.Call (.Name x p) (e :: es) [] pos) (uI r t):=by
 intro pins s σ H Q I h
 refine wpAny_Call_Name_kw (gV I hg hm hv ?_ hn hdb)
 exact PyProof.Rows.callWith_builtin1 (aO (ha pos pins s σ H _ I h) fun us s1 ⟨vs,H1,I1,r1,q1⟩=>hc pins s1 σ H1 vs us Q I1 r1 q1) he hpl
theorem uJ (hc:cN X (.type T) r) (hg:Gl X x) (hm:X.mg x=none) (hv:bootBuiltins x=some (.type T)) (ha:PA X (e :: es) t) (hn:x ≠ "__name__":=by decide) (hdb:(x == ("__debug__" : Str))=false:=by decide)
  (he:starEach (e :: es) X.env=(false,eval e X.env) :: starEach es X.env:=by rfl) (hpl:(backTo pos (starEach es X.env)).any (·.1)=false:=by rfl):PE X (.Call (.Name x p) (e :: es) [] pos) (uI r t):=by
 intro pins s σ H Q I h
 refine wpAny_Call_Name_kw (gV I hg hm hv ?_ hn hdb)
 exact bl5 (aO (ha pos pins s σ H _ I h) fun us s1 ⟨vs,H1,I1,r1,q1⟩=>hc pins s1 σ H1 vs us Q I1 r1 q1) he hpl
end
end L2
namespace HT
open PySem PyProof.Rows
def gZ:List Int->List Int->Bool
 | [],[]=>false
 | [],_ :: _=>true
 | _ :: _,[]=>false
 | x :: xs,y :: ys=>if x=y then gZ xs ys else decide (x < y)
theorem nM (x y:Int) (xs ys:List Int):gZ (x :: xs) (y :: ys)=if x=y then gZ xs ys else decide (x < y):=rfl
theorem ao4:gZ [] []=false:=rfl
section
variable {prog : Program} {w : World} {A : Around} {E : Value → Shared → Prop} {s : Shared}
theorem ao5 {t b:Addr}{vs ws:List Value}{Q:Value->Shared->Prop} (ht:IsTup s.heap t vs.toArray) (hb:IsTup s.heap b ws.toArray) (hv:vs ≠ [])
  (h1:ws = []->Q (.ref t) s) (h2:ws ≠ []->Q (.ref s.heap.objs.size) { s with heap:=s.heap.push { cls:=.type "tuple",data:=.seq (vs ++ ws).toArray } })
  (hsz:vs.length+ws.length<=sizeLine):wpAny (model prog w) A (binaryOp .Add (.ref t) (.ref b)) Q E s:=by
 obtain ⟨⟨cls,dd,data,sl⟩,ho,hc,n,hd⟩:=id ht
 obtain ⟨⟨cls2,dd2,data2,sl2⟩,ho2,hc2,n2,hd2⟩:=id hb
 simp only at hc hd hc2 hd2
 subst hc hd hc2 hd2
 have e:vs.toArray ++ ws.toArray=(vs ++ ws).toArray:=by simp
 by_cases hw:ws = []
 ·exact concat_meets ⟨_,ho,rfl⟩ ⟨_,ho2,rfl⟩ noFill_tuple_add seq_tuple_add PySem.F.slot_tuple_add PySem.F.entry_tuple_add (PySem.F.args_tuple_add_2 _ _)
   (tuple_addW1 t b vs.toArray ws.toArray n n2 dd dd2 sl sl2 (by simpa using hv) (by simp [hw])) ⟨ho,ho2,h1 hw⟩
 ·refine concat_meets ⟨_,ho,rfl⟩ ⟨_,ho2,rfl⟩ noFill_tuple_add seq_tuple_add PySem.F.slot_tuple_add PySem.F.entry_tuple_add (PySem.F.args_tuple_add_2 _ _)
   (tuple_addW2 t b vs.toArray ws.toArray n n2 dd dd2 sl sl2 (by simpa using hv) (by simpa using hw) (by rw [bg7,bg7]; exact hsz)) ⟨ho,ho2,?_⟩
  rw [e]
  exact h2 hw
def aT (n d:Nat):Option Int->Nat
 | none=>d
 | some v=>if v < 0 then (v+(n:Int)).toNat else min v.toNat n
theorem A2 (n d k:Nat):aT n d (some (k:Int))=min k n:=by
 show (if (k:Int) < 0 then ((k:Int)+(n:Int)).toNat else min (k:Int).toNat n)=min k n
 rw [if_neg (by omega),bl3]
theorem ao6 (n d:Nat) (hd:d<=n) (o:Option Int):aT n d o<=n:=by
 cases o with
 | none=>exact hd
 | some v=>
  show (if v < 0 then (v+(n:Int)).toNat else min v.toNat n)<=n
  by_cases hv:v < 0
  ·rw [if_pos hv]; omega
  ·rw [if_neg hv]; exact Nat.min_le_right _ _
theorem A3 (v:Int) (n d:Nat):(if v < 0 then max (v+(n:Int)) 0 else min v (n:Int))=((aT n d (some v):Nat):Int):=by
 show (if v < 0 then max (v+(n:Int)) 0 else min v (n:Int))=(((if v < 0 then (v+(n:Int)).toNat else min v.toNat n):Nat):Int)
 by_cases hv:v < 0
 ·simp only [if_pos hv]; omega
 ·simp only [if_neg hv]; omega
theorem ao7 (lo hi:Option Int) (n:Nat):Builtin.Slice.sliceAdjust lo hi 1 (n:Int)=(((aT n 0 lo:Nat):Int),((aT n n hi:Nat):Int)):=by
 have h1 : ¬ ((1:Int) < 0):=by omega
 unfold Builtin.Slice.sliceAdjust
 simp only [h1,bo4]
 refine Prod.ext ?_ ?_
 ·cases lo with
  | none=>rfl
  | some v=>exact A3 v n 0
 ·cases hi with
  | none=>rfl
  | some v=>exact A3 v n n
theorem ao8 (i j:Nat):Builtin.Slice.slicePlaces (i:Int) (j:Int) 1=j - i:=by
 unfold Builtin.Slice.slicePlaces
 have h1:(1:Int) > 0:=by omega
 simp only [h1,if_true,Int.ediv_one]
 split <;> omega
theorem A4 {v:Value}{o:Option Int}{Q:Option Int->Shared->Prop} (p:IsPart v o) (h:Q o s):wpAny (model prog w) A (Builtin.Slice.slicePartIndex v) Q E s:=by
 cases p with
 | none=>exact slicePart_none h
 | int i t=>exact slicePart_int h
theorem A5 {sl:Addr}{vl vu:Value}{lo hi:Option Int}{n:Nat}{Q:Int × Int × Nat->Shared->Prop} (hs:s.heap.IsSliceOf sl vl vu .none) (pl:IsPart vl lo) (pu:IsPart vu hi)
  (h:Q (((aT n 0 lo:Nat):Int),1,aT n n hi - aT n 0 lo) s):wpAny (model prog w) A (Builtin.Slice.sliceApplied (.ref sl) (pure (n:Int))) Q E s:=by
 obtain ⟨os,hos,hcs,hds⟩:=id hs
 unfold Builtin.Slice.sliceApplied Builtin.Slice.sliceFields
 refine bg5 (bg5 (bn3 hos hds (x:=vl) rfl (bg5 (bn3 hos hds (x:=vu) rfl (bg5 (bn3 hos hds (x:=.none) rfl (bg9 ?_)))))))
 refine bg5 (slicePart_none ?_)
 show wpAny _ _ (if ((1:Int) == 0)=true then _ else _) _ _ s
 rw [if_neg (by decide)]
 refine bg5 (A4 pl (bg5 (A4 pu (bg5 (bg9 ?_)))))
 show wpAny _ _ (match Builtin.Slice.sliceAdjust lo hi 1 (n:Int) with | (lo,hi)=>pure (lo,(1:Int),Builtin.Slice.slicePlaces lo hi 1)) _ _ s
 rw [ao7 lo hi n]
 show wpAny _ _ (pure (((aT n 0 lo:Nat):Int),(1:Int),Builtin.Slice.slicePlaces ((aT n 0 lo:Nat):Int) ((aT n n hi:Nat):Int) 1)) _ _ s
 rw [ao8]
 exact bg9 h
theorem ao9 (xs:Array Value) (i k:Nat):((List.range k).filterMap fun (m:Nat)=>xs[((i:Int)+(m:Int) * 1).toNat]?).toArray=((xs.toList.drop i).take k).toArray:=by
 have e:(fun (m:Nat)=>xs[((i:Int)+(m:Int) * 1).toNat]?)=fun m=>xs[i+m]?:=by
  funext m
  have:((i:Int)+(m:Int) * 1).toNat=i+m:=by omega
  rw [this]
 rw [e]
 have:=pick_run xs i k
 rw [List.filterMap_map] at this
 have e2:((fun x=>xs[x]?) ∘ fun x=>i+x)=fun m=>xs[i+m]?:=rfl
 rw [e2] at this
 rw [this]
theorem ap0 {t sl:Addr}{items:Array Value}{vl vu:Value}{lo hi:Option Int}{Q:Value->Shared->Prop} (ht:IsTup s.heap t items) (hs:s.heap.IsSliceOf sl vl vu .none) (pl:IsPart vl lo) (pu:IsPart vu hi)
  (hw : ¬ (aT items.size 0 lo=0/\aT items.size items.size hi=items.size))
  (h:Q (.ref s.heap.objs.size) { s with heap:=s.heap.push { cls:=.type "tuple",data:=.seq ((items.toList.drop (aT items.size 0 lo)).take (aT items.size items.size hi - aT items.size 0 lo)).toArray } })
  (hsz:items.size<=sizeLine):wpAny (model prog w) A (getItem (.ref t) (.ref sl)) Q E s:=by
 have htake:sizeOk (.seq ((items.toList.drop (aT items.size 0 lo)).take (aT items.size items.size hi - aT items.size 0 lo)).toArray):=by
  show ((items.toList.drop (aT items.size 0 lo)).take (aT items.size items.size hi - aT items.size 0 lo)).toArray.size<=sizeLine
  rw [bg7,bn9,bp8,bl8]
  omega
 have hj:aT items.size items.size hi<=items.size:=ao6 _ _ (bh0 _) hi
 obtain ⟨os,hos,hcs,hds⟩:=id hs
 have hTs:s.TypeIs (.ref sl) "slice":=⟨os,hos,hcs⟩
 unfold getItem
 try with_reducible refine bp0 ?_
 first | refine bg5 (bg9 ?_) | skip
 refine bg5 (wpAny_sequenceKey ht.typeIs (by decide) ?_)
 refine bg5 (bn4 (name:=Str.ofString "__getitem__") ht.typeIs bs2
  (bn0 bs2 ht.typeIs entry_tuple_getitem ?_ (args_tuple_getitem _ _)))
 show wpAny _ _ (Builtin.Tuple.tupleItemsOf (.ref t) >>= _) _ _ s
 refine bg5 (tupleItemsOf_ ht ?_)
 refine bg5 (wpAny_typeOf hTs ?_)
 rw [if_pos (by decide)]
 refine bg5 (A5 hs pl pu ?_)
 have hno : ¬ ((((aT items.size 0 lo:Nat):Int) == 0 && (1:Int) == 1 && (aT items.size items.size hi - aT items.size 0 lo) == items.size)=true):=by
  intro q
  rw [bl7,bl7] at q
  have q1:((aT items.size 0 lo:Nat):Int)=0:=eq_of_beq q.1.1
  have q2:aT items.size items.size hi - aT items.size 0 lo=items.size:=eq_of_beq q.2
  exact hw ⟨by omega,by omega⟩
 show wpAny _ _ (if (((aT items.size 0 lo:Nat):Int) == 0 && (1:Int) == 1 && (aT items.size items.size hi - aT items.size 0 lo) == items.size)=true then _ else _) _ _ s
 rw [if_neg hno,ao9]
 first
  | exact bg5 (m:=Builtin.Tuple.tupleExact _) (bn1 (bg9 ⟨_,rfl,bg9 h⟩) htake)
  | exact bg5 (m:=Builtin.Tuple.tupleExact _) (bn1 (bg5 (bg9 (bg9 ⟨_,rfl,bg9 h⟩))) htake)
  | exact bg5 (bg5 (m:=Builtin.Tuple.tupleExact _) (bn1 (bg9 (bg9 ⟨_,rfl,bg9 h⟩)) htake))
  | exact bg5 (bg5 (m:=Builtin.Tuple.tupleExact _) (bn1 (bg9 ⟨_,rfl,bg9 h⟩) htake))
end
end HT
namespace L2
open PySem PySem.Spec PyProof.Rows
abbrev TO:=St->Hp->(Option Int->Hp->Prop)->Prop
def PO (X:Cx) (e:Option Expr) (t:TO):Prop:=
 ∀ (pins:List (Addr × Obj)) (s:Shared) (σ:St) (H:Hp) (Q:Option Int->Hp->Prop),a8 X pins σ H s->t σ H Q->
  wpAny (model X.prog X.w) X.A (evalPart e X.env) (fun u s'=>∃ o H',a8 X pins σ H' s'/\IsPart u o/\Q o H') X.xe s
def ap1:TO:=fun _ H Q=>Q none H
def ap2 (t:TE):TO:=fun σ H Q=>t σ H fun x H1=>∃ i,x = .int i/\Q (some i) H1
theorem pX {ns:List Int}:∀ {us:List Value},aN (ns.map V.int) us->IntsAre us ns:=by
 induction ns with
 | nil=>intro us r; rw [List.map_nil] at r; cases r; exact .nil
 | cons n ns ih=>
  intro us r
  rw [bn6] at r
  cases r with
  | cons r1 r2=>
   obtain ⟨t,e⟩:=r1
   subst e
   exact .cons n t (ih r2)
section
variable {X : Cx} {e : Expr} {te : TE} {lo hi : Option Expr} {tl th : TO} {pos p2 : Pos}
theorem uK:PO X none ap1:=by
 intro pins s σ H Q I h
 rw [evalPart_none]
 exact bg9 ⟨none,H,I,.none,h⟩
theorem uL (h:PE X e te):PO X (some e) (ap2 te):=by
 intro pins s σ H Q I hw
 rw [evalPart_some]
 refine aO (h pins s σ H _ I hw) fun u s1 ⟨x,H1,I1,r1,q1⟩=>?_
 obtain ⟨i,rfl,q⟩:=q1
 obtain ⟨t,rfl⟩:=r1
 exact⟨some i,H1,I1,.int i t,q⟩
def jU (X:Cx) (r:V->Option Int->Option Int->Hp->VK->Prop):Prop:=
 ∀ (pins:List (Addr × Obj)) (s:Shared) (σ:St) (H:Hp) (x:V) (v vl vu:Value) (lo hi:Option Int) (sl:Addr) (Q:VK),a8 X pins σ H s->aV x v->s.heap.IsSliceOf sl vl vu .none->IsPart vl lo->IsPart vu hi->r x lo hi H Q->
  ∃ T id,typeLookup (.type T) "__getitem__" = pure (some (.builtin id))/\s.TypeIs v T/\wpAny (model X.prog X.w) X.A (getItem v (.ref sl)) (EP X pins σ Q) X.xe s
theorem jU.or {r r':V->Option Int->Option Int->Hp->VK->Prop} (h:jU X r) (h':jU X r'):jU X (fun x lo hi H Q=>r x lo hi H Q ∨ r' x lo hi H Q):=by
 intro pins s σ H x v vl vu lo hi sl Q I rx hs pl pu q
 rcases q with q | q
 ·exact h pins s σ H x v vl vu lo hi sl Q I rx hs pl pu q
 ·exact h' pins s σ H x v vl vu lo hi sl Q I rx hs pl pu q
def tSl (r:V->Option Int->Option Int->Hp->VK->Prop) (te:TE) (tl th:TO):TE:=fun σ H Q=>te σ H fun x H1=>tl σ H1 fun l H2=>th σ H2 fun u H3=>r x l u H3 Q
theorem uM {r:V->Option Int->Option Int->Hp->VK->Prop} (hr:jU X r) (he:PE X e te) (hl:PO X lo tl) (hu:PO X hi th):PE X (.Subscript e (.Slice lo hi none p2) pos) (tSl r te tl th):=by
 intro pins s σ H Q I h
 refine Subscript_ (aO (he pins s σ H _ I h) fun v s1 ⟨x,H1,I1,r1,q1⟩=>?_)
 refine wpAny_Slice (aO (hl pins s1 σ H1 _ I1 q1) fun vl s2 ⟨l,H2,I2,pl,q2⟩=>aO (hu pins s2 σ H2 _ I2 q2) fun vu s3 ⟨u,H3,I3,pu,q3⟩=>?_)
 rw [evalPart_none]
 refine bg9 ?_
 have I4:a8 X pins σ H3 { s3 with heap:=s3.heap.push { cls:=.type "slice",data:=.fields #[vl,vu,.none] } }:=I3.kept (t':=s3.toks) fun b ob q=>bg6 _ q
 obtain ⟨T,id,hT,ht,hg⟩:=hr pins { s3 with heap:=s3.heap.push { cls:=.type "slice",data:=.fields #[vl,vu,.none] } } σ H3 x v vl vu l u s3.heap.objs.size Q I4 r1 (Heap.IsSliceOf.new ..) pl pu q3
 show wpAny (model X.prog X.w) X.A (subscriptTail e (.Slice lo hi none p2) v (.ref s3.heap.objs.size)) (EP X pins σ Q) X.xe { s3 with heap:=s3.heap.push { cls:=.type "slice",data:=.fields #[vl,vu,.none] } }
 exact tail_any (ops:=[.ref s3.heap.objs.size,v]) ht hT hg (by with_unfolding_all rfl)
def dI (xs:List V) (lo hi:Option Int):List V:=(xs.drop (HT.aT xs.length 0 lo)).take (HT.aT xs.length xs.length hi - HT.aT xs.length 0 lo)
theorem A6 (xs:List V) (lo hi:Option Int):(dI xs lo hi).length<=xs.length:=by
 unfold dI
 rw [bn9,bp8]
 omega
def ap3 (K:PySem.W.Frag):V->Option Int->Option Int->Hp->VK->Prop:=fun x lo hi H Q=>∃ a xs,x = .ref a/\aF K H a xs/\
 ¬ (HT.aT xs.length 0 lo=0/\HT.aT xs.length xs.length hi=xs.length)/\∀ p,H p=none->Q (.ref p) (upd H p (.tup (dI xs lo hi)))
theorem ap4:jU X (ap3 X.K):=by
 intro pins s σ H x v vl vu lo hi sl Q I rx hs pl pu h
 obtain ⟨a,xs,rfl,hx,hw,q⟩:=h
 cases rx
 obtain ⟨its,r,ht,hz⟩:=I.tuple hx
 have hlen:its.toArray.size=xs.length:=by rw [bg7]; exact r.length.symm
 refine⟨"tuple",_,PyProof.Rows.slot_tuple_getitem.lookup,ht.typeIs,?_⟩
 refine HT.ap0 ht hs pl pu (by rw [hlen]; exact hw) ?_ (by rw [hlen]; exact hz)
 rw [hlen]
 refine⟨.ref s.heap.objs.size,_,I.laid (t':=s.toks) (o:=.tup (dI xs lo hi)) (fun b ob q=>bg6 _ q) (bh0 _) ?_,rfl,q _ (I.hok.fresh (bh0 _))⟩
 exact⟨bk3 (A6 xs lo hi) hz,_,(r.drop (HT.aT xs.length 0 lo)).take (HT.aT xs.length xs.length hi - HT.aT xs.length 0 lo),IsTup.new _ _,gT.new _ _ rfl⟩
def ap5 (K:PySem.W.Frag):R2:=fun x y H Q=>∃ a b xs ys,x = .ref a/\y = .ref b/\aF K H a xs/\aF K H b ys/\xs ≠ []/\xs.length+ys.length<=sizeLine/\
 (ys = []->Q (.ref a) H)/\(ys ≠ []->∀ p,H p=none->Q (.ref p) (upd H p (.tup (xs ++ ys))))
theorem aN.nil_iff {xs:List V}{us:List Value} (r:aN xs us):us = [] ↔ xs = []:=by
 cases r with
 | nil=>simp
 | cons _ _=>simp
theorem ap6:c9 X (binaryOp .Add) (ap5 X.K):=by
 intro pins s σ H x y v u Q I rx ry h
 obtain ⟨a,b,xs,ys,rfl,rfl,ha,hb,hx,hz,q1,q2⟩:=h
 cases rx
 cases ry
 obtain ⟨its,r1,p1,_⟩:=I.tuple ha
 obtain ⟨its2,r2,p2,_⟩:=I.tuple hb
 refine HT.ao5 p1 p2 (fun z=>hx (r1.nil_iff.mp z)) (fun z=>⟨.ref a,H,I,rfl,q1 (r2.nil_iff.mp z)⟩) (fun z=>?_) (by rw [<- r1.length,<- r2.length]; exact hz)
 refine⟨.ref s.heap.objs.size,_,I.laid (t':=s.toks) (o:=.tup (xs ++ ys)) (fun b ob q=>bg6 _ q) (bh0 _) ?_,rfl,q2 (fun w=>z (r2.nil_iff.mpr w)) _ (I.hok.fresh (bh0 _))⟩
 exact⟨by rw [bi3]; exact hz,_,r1.append r2,IsTup.new _ _,gT.new _ _ rfl⟩
end
def dC (n:Nat) (i:Int):Option Nat:=if 0<=i then (if i < n then some i.toNat else none) else if -(n:Int)<=i then some (i+n).toNat else none
def atI {α:Type} (xs:List α) (i:Int):Option α:=(dC xs.length i).bind fun j=>xs[j]?
theorem A7 {n:Nat}{i:Int}{j:Nat} (h:dC n i=some j):seqIndex? i n=some j/\j < n/\-(n:Int)<=i/\i < n:=by
 unfold dC at h
 by_cases h0:0<=i
 ·rw [if_pos h0] at h
  by_cases h1:i < n
  ·rw [if_pos h1] at h
   have e:i.toNat=j:=bj9 h
   exact⟨by rw [seqIndex_of h0 h1,e],by omega,by omega,h1⟩
  ·rw [if_neg h1] at h; cases h
 ·rw [if_neg h0] at h
  by_cases h1 : -(n:Int)<=i
  ·rw [if_pos h1] at h
   have e:(i+n).toNat=j:=bj9 h
   exact⟨by rw [seqIndex_neg (by omega) h1,e],by omega,h1,by omega⟩
  ·rw [if_neg h1] at h; cases h
theorem uN {α:Type}{xs:List α}{i:Int}{v:α} (h:atI xs i=some v):∃ j,seqIndex? i xs.length=some j/\xs[j]? = some v/\j < xs.length/\-(xs.length:Int)<=i/\i < xs.length:=by
 unfold atI at h
 cases e:dC xs.length i with
 | none=>rw [e] at h; cases h
 | some j=>
  rw [e] at h
  obtain ⟨h1,h2,h3,h4⟩:=A7 e
  exact⟨j,h1,h,h2,h3,h4⟩
theorem nN {α:Type}{xs:List α}{j:Nat}{v:α} (h:xs[j]? = some v):atI xs (j:Int)=some v:=by
 have hj:j < xs.length:=(bh7.mp h).1
 have e:dC xs.length (j:Int)=some j:=by
  unfold dC
  rw [if_pos (by omega),if_pos (by omega)]; simp
 unfold atI; rw [e]; exact h
def A8 (b:Expr):Prop:=∀ o i,subscripted b false o i=operate [o,i] (getItem o i)
def j5 (X:Cx) (r:R2):Prop:=
 ∀ (value slice:Expr) (pins:List (Addr × Obj)) (s:Shared) (σ:St) (H:Hp) (x y:V) (v u:Value) (Q:VK),a8 X pins σ H s->aV x v->aV y u->r x y H Q->
  subscripted slice false v u=operate [v,u] (getItem v u)->wpAny (model X.prog X.w) X.A (subscriptTail value slice v u) (EP X pins σ Q) X.xe s
def MtR (X:Cx) (id:String) (r:V->List V->Hp->VK->Prop):Prop:=
 ∀ (pins:List (Addr × Obj)) (s:Shared) (σ:St) (H:Hp) (x:V) (xs:List V) (v:Value) (us:List Value) (Q:VK),a8 X pins σ H s->aV x v->aN xs us->r x xs H Q->
  wpAny (model X.prog X.w) X.A (call (.builtin id) (v :: us)) (EP X pins σ Q) X.xe s
section
variable {X : Cx} {a b : Expr} {ta tb : TE} {pos : Pos}
theorem j5.or {r r':R2} (h:j5 X r) (h':j5 X r'):j5 X (fun x y H Q=>r x y H Q ∨ r' x y H Q):=by
 intro value slice pins s σ H x y v u Q I rx ry q hs
 rcases q with q | q
 ·exact h value slice pins s σ H x y v u Q I rx ry q hs
 ·exact h' value slice pins s σ H x y v u Q I rx ry q hs
theorem j6 {r:R2} (hr:j5 X r) (ha:PE X a ta) (hb:PE X b tb) (hs:A8 b):PE X (.Subscript a b pos) (nH r ta tb):=by
 intro pins s σ H Q I h
 exact Subscript_ (u6 ha hb I h fun v u s2 x y H2 I2 rx ry q=>hr a b pins s2 σ H2 x y v u Q I2 rx ry q (hs _ _))
def A9 (K:PySem.W.Frag):R2:=fun x y H Q=>∃ p xs i v,x = .ref p/\y = .int i/\aH K H p xs/\atI xs i=some v/\Q v H
def B0 (K:PySem.W.Frag):R2:=fun x y H Q=>∃ p xs i v,x = .ref p/\y = .int i/\aF K H p xs/\atI xs i=some v/\Q v H
def B1:R2:=fun x y H Q=>∃ z i c,x = .str z/\y = .int i/\z.length<=sizeLine/\atI z.cps.toList i=some c/\Q (.str ⟨#[c]⟩) H
theorem nO:j5 X (A9 X.K):=by
 intro value slice pins s σ H x y v u Q I rx ry h hs
 obtain ⟨p,xs,i,z,rfl,rfl,hq,he,q⟩:=h
 cases rx
 obtain ⟨t,rfl⟩:=ry
 obtain ⟨its,r,pl,hz⟩:=I.list hq
 obtain ⟨j,h1,h2,h3,h4,h5⟩:=uN he
 obtain ⟨w,ew,rw'⟩:=r.get h2
 have hl:=r.length
 have hn:=lX
 have fin:EP X pins σ Q w s:=⟨z,H,I,rw',q⟩
 by_cases h0:0<=i
 ·have hj:i.toNat=j:=by
   rw [seqIndex_of h0 h5] at h1
   exact bj9 h1
  exact item_listR pl.isList h0 (by omega) (by rw [hj]; simpa using ew) fin hs
 ·have hj:(i+(its.toArray.size:Int)).toNat=j:=by
   rw [seqIndex_neg (by omega) h4] at h1
   rw [bg7,<- hl]
   exact bj9 h1
  exact subscriptTail_builtinR (x:=w) pl.isList.typeIs slot_list_getitem.lookup
   (wpAny_getItem_list_neg (Q:=fun r s'=>r=w/\EP X pins σ Q r s') pl.isList (by omega) (by rw [bg7] <;> omega) (by omega) (by rw [hj]; simpa using ew) ⟨rfl,fin⟩) hs
theorem nP:j5 X (B0 X.K):=by
 intro value slice pins s σ H x y v u Q I rx ry h hs
 obtain ⟨p,xs,i,z,rfl,rfl,hq,he,q⟩:=h
 cases rx
 obtain ⟨t,rfl⟩:=ry
 obtain ⟨its,r,pl,hz⟩:=I.tuple hq
 obtain ⟨j,h1,h2,h3,h4,h5⟩:=uN he
 obtain ⟨w,ew,rw'⟩:=r.get h2
 have hl:=r.length
 have hn:=lX
 have fin:EP X pins σ Q w s:=⟨z,H,I,rw',q⟩
 exact subscriptTail_builtinR (x:=w) pl.typeIs slot_tuple_getitem.lookup
  (getItem_tuple (j:=j) (Q:=fun r s'=>r=w/\EP X pins σ Q r s') pl (by omega) (by omega) (by rw [bg7,<- hl]; exact h1) (by simpa using ew) ⟨rfl,fin⟩) hs
theorem ap7:j5 X B1:=by
 intro value slice pins s σ H x y v u Q I rx ry h hs
 obtain ⟨z,i,c,rfl,rfl,hz,he,q⟩:=h
 obtain ⟨t,rfl⟩:=rx
 obtain ⟨t',rfl⟩:=ry
 obtain ⟨j,h1,h2,h3,h4,h5⟩:=uN he
 have hl:z.cps.toList.length=z.length:=by simp [Str.length]
 rw [hl] at h1 h4 h5
 have hn:=lX
 exact tail_any (typeIs_str s z t) slot_str_getitem.lookup (getItem_str (c:=c) (by
  have e1:decide (i < -(2 ^ 63:Int))=false:=bh2 (by omega)
  have e2:decide (i >= 2 ^ 63)=false:=bh2 (by omega)
  rw [e1,e2,Bool.or_false]) (by rw [h1]; simpa using h2) ⟨.str ⟨#[c]⟩,H,I.tok _,⟨_,rfl⟩,q⟩) hs
def B3 (K:PySem.W.Frag):R2:=fun x y H Q=>A9 K x y H Q ∨ B0 K x y H Q ∨ B1 x y H Q
theorem ap8:j5 X (B3 X.K):=nO.or (nP.or ap7)
theorem ap9 (its:List Value) (n j:Nat) (u:Value):Obj.mapSeq (·.setIfInBounds j u) { cls:=.type "list",data:=.seq its.toArray n }={ cls:=.type "list",data:=.seq (its.set j u).toArray n }:=by
 simp [Obj.mapSeq]
theorem a8.lst {pins:List (Addr × Obj)}{σ:St}{H:Hp}{s:Shared}{p:Addr}{xs:List V} (I:a8 X pins σ H s) (h:H p=some (.lst xs)) :
  ∃ (its:List Value) (n:Nat),aN xs its/\s.heap.get? p=some { cls:=.type "list",data:=.seq its.toArray n }/\xs.length<=sizeLine:=by
 obtain ⟨z,its,n,r,e⟩:=I.hok p _ h
 exact⟨its,n,r,e,z⟩
theorem a8.lstUpd {pins:List (Addr × Obj)}{σ:St}{H:Hp}{s:Shared}{p:Addr}{xs ys:List V}{its its':List Value}{n n':Nat}{f:Obj->Obj} (I:a8 X pins σ H s) (h:H p=some (.lst xs))
  (ho:s.heap.get? p=some { cls:=.type "list",data:=.seq its.toArray n }) (hf:f { cls:=.type "list",data:=.seq its.toArray n }={ cls:=.type "list",data:=.seq its'.toArray n' }) (r:aN ys its') (hz:ys.length<=sizeLine) (t:Nat) :
  a8 X pins σ (upd H p (.lst ys)) { s with heap:=s.heap.update p f,toks:=t }:=by
 have e:(s.heap.update p f).get? p=some { cls:=.type "list",data:=.seq its'.toArray n' }:=by
  rw [Heap.get?_update_self f ho (by rw [hf] <;> rfl),hf]
 refine I.write (x:=p) (e:=p) (by rw [h]; trivial) (.inl rfl) (fun b u hb q=>(Heap.get?_update_other _ _ (Ne.symm hb)).trans q) ⟨_,e⟩ ?_
 exact⟨hz,its',n',r,e⟩
def kO:V->V->V->Hp->(Hp->Prop)->Prop:=fun o i v H Q=>∃ p xs k j,o = .ref p/\i = .int k/\H p=some (.lst xs)/\dC xs.length k=some j/\Q (upd H p (.lst (xs.set j v)))
theorem uO:z9 X kO:=by
 intro pins s σ H o i v ov iv u Q I ro ri rv h
 obtain ⟨p,xs,k,j,rfl,rfl,hp,hj,q⟩:=h
 cases ro
 obtain ⟨t,rfl⟩:=ri
 obtain ⟨its,n,r,ho,hz⟩:=I.lst hp
 obtain ⟨h1,h2,h3,h4⟩:=A7 hj
 have hl:=r.length
 have hn:=lX
 have I':a8 X pins σ (upd H p (.lst (xs.set j v))) { s with heap:=s.heap.update p (Obj.mapSeq (·.setIfInBounds j u)) }:=
  I.lstUpd hp ho (ap9 its n j u) (r.set rv j) (by rw [bk9]; exact hz) s.toks
 by_cases h0:0<=k
 ·have hk:k.toNat=j:=by
   rw [seqIndex_of h0 h4] at h1
   exact bj9 h1
  exact PySem.W.ki_setAt ho h0 (by omega) (by rw [bg7,<- hl]; exact h4) (by rw [hk]; exact⟨_,I',q⟩)
 ·have hk:(k+(its.toArray.size:Int)).toNat=j:=by
   rw [seqIndex_neg (by omega) h3] at h1
   rw [bg7,<- hl]
   exact bj9 h1
  exact PySem.W.ki_setBack ho (by omega) (by rw [bg7,<- hl]; exact h3) (by omega) (by rw [hk]; exact⟨_,I',q⟩)
theorem aq0 (lo hi:Option Int) (n:Nat):(sliceBounds lo hi none n).1=((HT.aT n 0 lo:Nat):Int)/\(sliceBounds lo hi none n).2.1=((HT.aT n n hi:Nat):Int)/\(sliceBounds lo hi none n).2.2=1:=by
 refine⟨?_,?_,rfl⟩
 ·cases lo with
  | none=>simp [sliceBounds,HT.aT]
  | some i=>
   simp only [sliceBounds,HT.aT,Option.getD_none,show (1:Int) > 0 by decide,if_true]
   by_cases h:i < 0
   ·simp only [h,if_true] <;> omega
   ·simp only [h,bo4] <;> omega
 ·cases hi with
  | none=>simp [sliceBounds,HT.aT]
  | some i=>
   simp only [sliceBounds,HT.aT,Option.getD_none,show (1:Int) > 0 by decide,if_true]
   by_cases h:i < 0
   ·simp only [h,if_true] <;> omega
   ·simp only [h,bo4] <;> omega
theorem aq1 (its:List Value) (lo hi:Option Int):slicePick its.toArray lo hi none=((its.drop (HT.aT its.length 0 lo)).take (HT.aT its.length its.length hi - HT.aT its.length 0 lo)).toArray:=by
 obtain ⟨h1,h2,h3⟩:=aq0 lo hi its.toArray.size
 unfold slicePick
 rw [h1,h2,h3]
 simp only [sliceRange_one,pick_run,bg7] <;> rfl
def aq2 (K:PySem.W.Frag):V->Option Int->Option Int->Hp->VK->Prop:=fun x lo hi H Q=>∃ a xs,x = .ref a/\aH K H a xs/\∀ p,H p=none->Q (.ref p) (upd H p (.lst (dI xs lo hi)))
theorem B4:jU X (aq2 X.K):=by
 intro pins s σ H x v vl vu lo hi sl Q I rx hs pl pu h
 obtain ⟨a,xs,rfl,hx,q⟩:=h
 cases rx
 obtain ⟨its,r,ht,hz⟩:=I.list hx
 have hlen:=r.length
 refine⟨"list",_,slot_list_getitem.lookup,ht.isList.typeIs,?_⟩
 refine wpAny_getItem_list_slice ht.isList hs pl pu .none (by simp) ?_ (by rw [bg7] <;> omega)
 rw [aq1,<- hlen]
 refine⟨.ref s.heap.objs.size,_,I.laid (t':=s.toks) (o:=.lst (dI xs lo hi)) (fun b ob q=>bg6 _ q) (bh0 _) ?_,rfl,q _ (I.hok.fresh (bh0 _))⟩
 exact⟨bk3 (A6 xs lo hi) hz,_,0,(r.drop (HT.aT xs.length 0 lo)).take (HT.aT xs.length xs.length hi - HT.aT xs.length 0 lo),bi0 _ rfl⟩
def j7:V->Bool
 | .non=>true
 | .bl _=>true
 | .int _=>true
 | .str _=>true
 | _=>false
def hG:V->V->Bool
 | .non,.non=>true
 | .bl a,.bl b=>a == b
 | .bl a,.int b=>(if a then 1 else 0) == b
 | .int a,.bl b=>a == (if b then 1 else 0)
 | .int a,.int b=>a == b
 | .str a,.str b=>a == b
 | _,_=>false
theorem aq3 {A:Around}{s:Shared}{y x:V}{u v:Value} (ry:aV y u) (rx:aV x v) (fy:j7 y=true) (fx:j7 x=true):SeqAt.EqAt A s u v (hG y x):=by
 cases y with
 | non=>
  cases ry
  cases x with
  | non=>cases rx; exact SeqAt.EqAt.same _
  | bl b=>cases rx; exact SeqAt.EqAt.none_bool b
  | int b=>obtain ⟨t,rfl⟩:=rx; exact SeqAt.EqAt.none_int b t
  | str b=>obtain ⟨t,rfl⟩:=rx; exact SeqAt.EqAt.none_str b t
  | _=>exact absurd (show false=true from fx) bi6
 | bl a=>
  cases ry
  cases x with
  | non=>cases rx; exact SeqAt.EqAt.bool_none a
  | bl b=>cases rx; exact SeqAt.EqAt.bool_bool a b
  | int b=>obtain ⟨t,rfl⟩:=rx; exact SeqAt.EqAt.bool_int a b t
  | str b=>obtain ⟨t,rfl⟩:=rx; exact SeqAt.EqAt.bool_str a b t
  | _=>exact absurd (show false=true from fx) bi6
 | int a=>
  obtain ⟨t',rfl⟩:=ry
  cases x with
  | non=>cases rx; exact SeqAt.EqAt.int_none a t'
  | bl b=>cases rx; exact SeqAt.EqAt.int_bool a t' b
  | int b=>obtain ⟨t,rfl⟩:=rx; exact SeqAt.EqAt.int_int a t' b t
  | str b=>obtain ⟨t,rfl⟩:=rx; exact SeqAt.EqAt.int_str a t' b t
  | _=>exact absurd (show false=true from fx) bi6
 | str a=>
  obtain ⟨t',rfl⟩:=ry
  cases x with
  | non=>cases rx; exact SeqAt.EqAt.str_none a t'
  | bl b=>cases rx; exact SeqAt.EqAt.str_bool a t' b
  | int b=>obtain ⟨t,rfl⟩:=rx; exact SeqAt.EqAt.str_int a t' b t
  | str b=>obtain ⟨t,rfl⟩:=rx; exact SeqAt.EqAt.str_str a t' b t
  | _=>exact absurd (show false=true from fx) bi6
 | _=>exact absurd (show false=true from fy) bi6
def eI (x:V) (u:Value):Bool:=match u with
 | .none=>hG .non x
 | .bool b=>hG (.bl b) x
 | .int i _=>hG (.int i) x
 | .str z _=>hG (.str z) x
 | _=>false
theorem B5 {x y:V}{u:Value} (r:aV y u) (f:j7 y=true):eI x u=hG y x:=by
 cases y with
 | non=>cases r; rfl
 | bl b=>cases r; rfl
 | int i=>obtain ⟨t,rfl⟩:=r; rfl
 | str z=>obtain ⟨t,rfl⟩:=r; rfl
 | _=>exact absurd (show false=true from f) bi6
theorem nQ {x:V}:∀ {xs:List V}{us:List Value},aN xs us->xs.all j7=true->us.any (eI x)=xs.any fun y=>hG y x
 | _,_,.nil,_=>rfl
 | y :: xs,u :: us,.cons r t,f=>by
  rw [br7,bl7] at f
  rw [List.any_cons,List.any_cons,B5 r f.1,nQ t f.2]
theorem nR {A:Around}{s:Shared}{x:V}{v:Value} (rx:aV x v) (fx:j7 x=true):∀ {xs:List V}{us:List Value},aN xs us->xs.all j7=true->∀ u ∈ us,SeqAt.EqAt A s u v (eI x u)
 | _,_,.nil,_=>fun u hu=>by cases hu
 | y :: xs,u :: us,.cons r t,f=>fun u' hu=>by
  rw [br7,bl7] at f
  rcases bh1.mp hu with rfl | hu
  ·rw [B5 r f.1]; exact aq3 r rx f.1 fx
  ·exact nR rx fx t f.2 u' hu
def nS (x:V) (xs:List V):Bool:=xs.any fun y=>hG y x
def uP (K:PySem.W.Frag) (neg:Bool):R2:=fun x y H Q=>∃ p xs,y = .ref p/\(aH K H p xs ∨ aF K H p xs)/\j7 x=true/\xs.all j7=true/\Q (.bl (if neg then !nS x xs else nS x xs)) H
theorem B6:c9 X (compareOp .In) (uP X.K false):=by
 intro pins s σ H x y v u Q I rx ry h
 obtain ⟨p,xs,rfl,hq,fx,fs,q⟩:=h
 cases ry
 rcases hq with hq | hq
 ·obtain ⟨its,r,pl,hz⟩:=I.list hq
  refine SeqAt.in_listAt (eI x) pl.isList (fun w hw=>nR rx fx r fs w (by simpa using hw)) ⟨.bl _,H,I,rfl,?_⟩
  rw [show its.toArray.any (eI x)=its.any (eI x) by simp,nQ r fs]
  exact q
 ·obtain ⟨its,r,pl,hz⟩:=I.tuple hq
  refine SeqAt.in_tupleAt (eI x) pl (fun w hw=>nR rx fx r fs w (by simpa using hw)) ⟨.bl _,H,I,rfl,?_⟩
  rw [show its.toArray.any (eI x)=its.any (eI x) by simp,nQ r fs]
  exact q
theorem aq4:c9 X (compareOp .NotIn) (uP X.K true):=by
 intro pins s σ H x y v u Q I rx ry h
 obtain ⟨p,xs,rfl,hq,fx,fs,q⟩:=h
 cases ry
 rcases hq with hq | hq
 ·obtain ⟨its,r,pl,hz⟩:=I.list hq
  refine SeqAt.notIn_listAt (eI x) pl.isList (fun w hw=>nR rx fx r fs w (by simpa using hw)) ⟨.bl _,H,I,rfl,?_⟩
  rw [show its.toArray.any (eI x)=its.any (eI x) by simp,nQ r fs]
  exact q
 ·obtain ⟨its,r,pl,hz⟩:=I.tuple hq
  refine SeqAt.notIn_tupleAt (eI x) pl (fun w hw=>nR rx fx r fs w (by simpa using hw)) ⟨.bl _,H,I,rfl,?_⟩
  rw [show its.toArray.any (eI x)=its.any (eI x) by simp,nQ r fs]
  exact q
theorem aq5:cN X (.builtin "len") (fun xs H Q=>∃ p ys,xs = [.ref p]/\(aH X.K H p ys ∨ aF X.K H p ys)/\Q (.int ys.length) H):=by
 intro pins s σ H xs us Q I r h
 obtain ⟨p,ys,rfl,hq,q⟩:=h
 obtain ⟨u,rfl,rx⟩:=gX r
 cases rx
 have hn:=lX
 rcases hq with hq | hq
 ·obtain ⟨its,r',pl,hz⟩:=I.list hq
  have hlen:=r'.length
  exact Calls.call_len_list pl.isList (by simp only [bg7] <;> omega) ⟨.int ys.length,H,I.tok _,⟨s.toks+1,by rw [bg7,hlen]⟩,q⟩
 ·obtain ⟨its,r',pl,hz⟩:=I.tuple hq
  have hlen:=r'.length
  exact len_tuple pl (by simp only [bg7] <;> omega) ⟨.int ys.length,H,I.tok _,⟨s.toks+1,by rw [bg7,hlen]⟩,q⟩
theorem cN.or {f:Value}{r r':List V->Hp->VK->Prop} (h:cN X f r) (h':cN X f r'):cN X f (fun xs H Q=>r xs H Q ∨ r' xs H Q):=by
 intro pins s σ H xs us Q I rs q
 rcases q with q | q
 ·exact h pins s σ H xs us Q I rs q
 ·exact h' pins s σ H xs us Q I rs q
theorem aq6:cN X (.type "list") (fun xs H Q=>∃ p ys,xs = [.ref p]/\(aH X.K H p ys ∨ aF X.K H p ys)/\∀ l,H l=none->Q (.ref l) (upd H l (.lst ys))):=by
 intro pins s σ H xs us Q I r h
 obtain ⟨p,ys,rfl,hq,q⟩:=h
 obtain ⟨u,rfl,rx⟩:=gX r
 cases rx
 have fin:∀ (its:List Value),aN ys its->ys.length<=sizeLine->∀ (h':Heap) (c':Nat),(∀ b o',s.heap.get? b=some o'->h'.get? b=some o')->
   h'.get? s.heap.objs.size=some { cls:=.type "list",dict:=none,data:=.seq its.toArray c',slots:=#[] }->EP X pins σ Q (.ref s.heap.objs.size) { s with heap:=h' }:=fun its r' hz h' c' kp e=>
  ⟨.ref s.heap.objs.size,_,I.laid (t':=s.toks) kp (bh0 _) (show bR X.prog X.w _ h' _ (.lst ys) from ⟨hz,its,c',r',e⟩),rfl,q _ (I.hok.fresh (bh0 _))⟩
 rcases hq with hq | hq
 ·obtain ⟨its,r',pl,hz⟩:=I.list hq
  have hlen:=r'.length
  obtain ⟨o,ho,hc,n,hd⟩:=pl.isList
  exact call_list_seq p (.inl rfl) ho hc hd (fun h' c' kp e=>fin its r' hz h' c' kp e) (by simp only [bg7] <;> omega)
 ·obtain ⟨its,r',pl,hz⟩:=I.tuple hq
  have hlen:=r'.length
  obtain ⟨o,ho,hc,n,hd⟩:=pl
  exact call_list_seq p (.inr rfl) ho hc hd (fun h' c' kp e=>fin its r' hz h' c' kp e) (by simp only [bg7] <;> omega)
theorem aq7:cN X (.type "tuple") (fun xs H Q=>∃ p ys,xs = [.ref p]/\((aH X.K H p ys/\∀ l,H l=none->Q (.ref l) (upd H l (.tup ys))) ∨ (aF X.K H p ys/\Q (.ref p) H))):=by
 intro pins s σ H xs us Q I r h
 obtain ⟨p,ys,rfl,h⟩:=h
 obtain ⟨u,rfl,rx⟩:=gX r
 cases rx
 rcases h with ⟨hq,q⟩ | ⟨hq,q⟩
 ·obtain ⟨its,r',pl,hz⟩:=I.list hq
  have hlen:=r'.length
  refine call_tuple_list pl.isList (fun h' kp=>?_) (by simp only [bg7] <;> omega)
  have I1:a8 X pins σ H { s with heap:=h' }:=I.kept (t':=s.toks) kp
  have I2:a8 X pins σ (upd H h'.objs.size (.tup ys)) { s with heap:=h'.push { cls:=.type "tuple",data:=.seq its.toArray } }:=
   I1.laid (t':=s.toks) (fun b o e=>bg6 _ e) (bh0 _) (show bR X.prog X.w _ _ _ (.tup ys) from ⟨hz,its,r',IsTup.new _ _,gT.new _ _ rfl⟩)
  exact⟨.ref h'.objs.size,_,I2,rfl,q _ (I1.hok.fresh (bh0 _))⟩
 ·obtain ⟨its,r',pl,hz⟩:=I.tuple hq
  exact call_tuple_same pl ⟨.ref p,H,I,rfl,q⟩
def hJ (K:PySem.W.Frag) (T:String) (x:V) (H:Hp):Prop:=match x with
 | .str _=>T="str"
 | .int _=>T="int"
 | .ref p=>(T="list"/\∃ xs,aH K H p xs) ∨ (T="tuple"/\∃ o,K.lookup p=some o/\o.cls = .type "tuple"/\o.dict=none) ∨
   (T="dict"/\((∃ kvs,H p=some (.dK kvs)) ∨ ∃ kvs,H p=some (.dT kvs))) ∨ (T="set"/\∃ S n,H p=some (.set S n))
 | _=>False
theorem aq8 {pins:List (Addr × Obj)}{σ:St}{H:Hp}{s:Shared}{T:String}{x:V}{v:Value} (I:a8 X pins σ H s) (r:aV x v) (ty:hJ X.K T x H) :
  s.TypeIs v T/\∀ a,v = .ref a->∃ ob,s.heap.get? a=some ob/\ob.dict=none:=by
 cases x with
 | str z=>
  obtain ⟨t,rfl⟩:=r
  cases (show T="str" from ty)
  exact⟨typeIs_str s z t,fun _ e=>nomatch e⟩
 | int i=>
  obtain ⟨t,rfl⟩:=r
  cases (show T="int" from ty)
  exact⟨typeIs_int s i t,fun _ e=>nomatch e⟩
 | ref p=>
  cases r
  rcases ty with ⟨rfl,xs,hq⟩ | ⟨rfl,o,hk,hc,hd⟩ | ⟨rfl,hk⟩ | ⟨rfl,S,n,hk⟩
  ·obtain ⟨its,_,pl,_⟩:=I.list hq
   refine⟨pl.isList.typeIs,fun a e=>?_⟩
   cases e
   obtain ⟨o,n,e,c,hd,_⟩:=pl
   exact⟨o,e,hd⟩
  ·refine⟨⟨o,I.kIn p o hk,hc⟩,fun a e=>?_⟩
   cases e
   exact⟨o,I.kIn _ o hk,hd⟩
  ·have z:∃ o,s.heap.get? p=some o/\o.ExactDict:=by
    rcases hk with ⟨kvs,hk⟩ | ⟨kvs,hk⟩
    ·obtain ⟨_,_,_,_,o,_,_,e,ex,_⟩:=I.hok p _ hk
     exact⟨o,e,ex⟩
    ·obtain ⟨_,_,_,_,o,_,_,e,ex,_⟩:=I.hok p _ hk
     exact⟨o,e,ex⟩
   obtain ⟨o,e,ex⟩:=z
   refine⟨⟨o,e,ex.1⟩,fun a e2=>?_⟩
   cases e2
   exact⟨o,e,ex.2.1⟩
  ·obtain ⟨o,_,_,_,e,ex,_⟩:=I.hok p _ hk
   refine⟨⟨o,e,ex.1⟩,fun a e2=>?_⟩
   cases e2
   exact⟨o,e,ex.2.1⟩
 | _=>exact False.elim ty
def uQ (K:PySem.W.Frag) (T:String) (r:V->List V->Hp->VK->Prop) (to:TE) (t:TA):TE:=fun σ H Q=>to σ H fun x H1=>hJ K T x H1/\t σ H1 fun xs H2=>r x xs H2 Q
variable {o e : Expr} {es : List Expr} {to : TE} {t : TA} {name : Str} {apos cpos : Pos} {T id : String} {r : V → List V → Hp → VK → Prop}
theorem lY (pa:PlainAttrs T) (slot:Slot T name id) (hty:typeOf (.builtin id)=pure (.type "method_descriptor")) (hm:MtR X id r) (ho:PE X o to) (ha:PA X (e :: es) t)
  (hbase:attributeBase o name X.env (eval o X.env)=eval o X.env:=by rfl)
  (hfew:((backTo cpos (starEach (e :: es) X.env)).all (fun x=>!x.1) && (backToKw cpos (keywordEach [] X.env)).all (fun x=>x.1.isSome)
   && decide ((e :: es).length+([]:List Keyword).length+(if ([]:List Keyword).isEmpty then 0 else 1) < 30))=true:=by rfl)
  (hline:(apos.endLine == cpos.line)=true:=by rfl) (hs:starEach (e :: es) X.env=(false,eval e X.env) :: starEach es X.env:=by rfl) (hplain:(backTo cpos (starEach es X.env)).any (·.1)=false:=by rfl) :
  PE X (.Call (.Attribute o name apos) (e :: es) [] cpos) (uQ X.K T r to t):=by
 intro pins s σ H Q I h
 refine wpAny_Call_method_late hbase hfew hline rfl (aO (ho pins s σ H _ I h) fun v s1 ⟨x,H1,I1,r1,ty,q1⟩=>?_)
 obtain ⟨h1,h2⟩:=aq8 I1 r1 ty
 refine⟨T,id,pa,slot,hty,h1,h2,?_⟩
 have hA:=ha cpos pins s1 σ H1 _ I1 q1
 rw [hs] at hA ⊢
 refine Calls.callWith_builtin (by show (false || (backTo cpos (starEach es X.env)).any (·.1))=false; rw [hplain] <;> rfl) (Calls.evalArgs_plain ?_)
 exact aO hA fun us s2 ⟨vs,H2,I2,r2,q2⟩=>hm pins s2 σ H2 x vs v us Q I2 r1 r2 q2
end
def uR (X:Cx) (id:String) (r:V->List V->Hp->VK->Prop):Prop:=
 ∀ (pins:List (Addr × Obj)) (s:Shared) (σ:St) (H:Hp) (x:V) (xs:List V) (v:Value) (us:List Value) (Q:VK),a8 X pins σ H s->aV x v->aN xs us->r x xs H Q->
  wpAny (model X.prog X.w) X.A (call (.builtin id) (v :: us)) (EP X pins σ Q) X.xe s
theorem aN.one {x:V}{us:List Value} (h:aN [x] us):∃ u,us = [u]/\aV x u:=by
 cases h with
 | cons r t=>
  cases t
  exact⟨_,rfl,r⟩
theorem aN.eraseIdx:∀ {xs:List V}{us:List Value} (i:Nat),aN xs us->aN (xs.eraseIdx i) (us.eraseIdx i)
 | _,_,_,.nil=>.nil
 | _,_,0,.cons _ t=>t
 | _,_,i+1,.cons r t=>.cons r (aN.eraseIdx i t)
theorem aN.rep {xs:List V}{us:List Value} (h:aN xs us):∀ k:Nat,aN (List.replicate k xs).flatten (List.replicate k us).flatten
 | 0=>.nil
 | k+1=>by
  rw [bq0,bq0,bq7,bq7]
  exact aN.append h (aN.rep h k)
theorem uS {α:Type}:∀ (l:List α) (i:Nat),(l.eraseIdx i).length<=l.length
 | [],_=>bh0 _
 | _ :: _,0=>Nat.le_succ _
 | _ :: r,i+1=>Nat.succ_le_succ (uS r i)
theorem B7 (its:List Value):∀ (k:Nat) (acc:List Value),
  List.foldl (fun x1 x2=>x1 ++ x2) acc.toArray (List.replicate k its.toArray)=(acc ++ (List.replicate k its).flatten).toArray
 | 0,acc=>by simp
 | k+1,acc=>by
  have e:acc.toArray ++ its.toArray=(acc ++ its).toArray:=by simp
  have e2:(acc ++ its) ++ (List.replicate k its).flatten=acc ++ (List.replicate (k+1) its).flatten:=by
   rw [bq0,bq7,bj5]
  rw [<- e2,<- B7 its k (acc ++ its),<- e,bq0,List.foldl_cons]
section
variable {X : Cx} {pins : List (Addr × Obj)} {σ : St} {H : Hp} {s : Shared} {l b : Addr} {xs ys zs : List V}
theorem a8.lset {its its':List Value}{n:Nat}{f:Array Value->Array Value}{t':Nat} (I:a8 X pins σ H s) (hH:H l=some (.lst xs))
  (e:s.heap.get? l=some { cls:=.type "list",data:=.seq its.toArray n }) (hf:f its.toArray=its'.toArray) (hv:aN ys its') (hz:ys.length<=sizeLine) :
  a8 X pins σ (upd H l (.lst ys)) { s with heap:=s.heap.update l (Obj.mapSeq f),toks:=t' }:=by
 have q:=PySem.IsL.update e f
 rw [hf] at q
 refine I.write (x:=l) (e:=l) (by rw [hH]; exact trivial) (.inl rfl) (fun b' u hb hu=>(Heap.get?_update_other s.heap (Obj.mapSeq f) (Ne.symm hb)).trans hu) ⟨_,q⟩ ?_
 exact⟨hz,its',_,hv,q⟩
theorem a8.lnew {its:List Value}{t':Nat} (I:a8 X pins σ H s) (hv:aN ys its) (hz:ys.length<=sizeLine) :
  a8 X pins σ (upd H s.heap.objs.size (.lst ys)) { s with heap:=s.heap.push { cls:=.type "list",data:=.seq its.toArray },toks:=t' }:=
 I.laid (fun _ _ q=>bg6 _ q) (bh0 _) ⟨hz,its,0,hv,bi0 _ rfl⟩
theorem a8.fresh (I:a8 X pins σ H s):H s.heap.objs.size=none:=I.hok.fresh (bh0 _)
theorem a8.lstM (I:a8 X pins σ H s) (hH:H l=some (.lst xs)):xs.length<=sizeLine/\∃ (its:List Value) (n:Nat),aN xs its/\xs.length=its.length/\s.heap.get? l=some { cls:=.type "list",data:=.seq its.toArray n }:=by
 obtain ⟨z,its,n,r,e⟩:=I.hok l _ hH
 exact⟨z,its,n,r,r.length,e⟩
theorem B8 {n:Nat} (h:n<=sizeLine):Builtin.List.listTooLong n=false:=by
 unfold Builtin.List.listTooLong
 exact bh2 (by omega)
end
section
variable {X : Cx}
def B9:V->List V->Hp->VK->Prop:=fun x vs H Q=>∃ l xs y,x = .ref l/\vs = [y]/\H l=some (.lst xs)/\xs.length < sizeLine/\Q .non (upd H l (.lst (xs ++ [y])))
theorem lZ:uR X "list.append" B9:=by
 intro pins s σ H x vs v us Q I rx rv h
 obtain ⟨l,xs,y,rfl,rfl,hH,hz,q⟩:=h
 cases rx
 obtain ⟨u,rfl,ru⟩:=rv.one
 obtain ⟨z,its,n,r,hl,e⟩:=I.lstM hH
 refine call_meets F.slot_list_append ⟨_,e,rfl⟩ F.entry_list_append (F.args_list_append_2 _ _) (PySem.list_append l its.toArray n u (by rw [bg7]; omega)) ⟨e,?_⟩
 refine⟨.non,_,I.lset (its':=its ++ [u]) hH e (by simp) (r.append (.cons ru .nil)) ?_,rfl,q⟩
 rw [bi3,bm4]
 omega
def aq9:V->List V->Hp->VK->Prop:=fun x vs H Q=>∃ l b xs zs,x = .ref l/\vs = [.ref b]/\H l=some (.lst xs)/\H b=some (.lst zs)/\xs.length+zs.length<=sizeLine/\Q .non (upd H l (.lst (xs ++ zs)))
theorem bg0:uR X "list.extend" aq9:=by
 intro pins s σ H x vs v us Q I rx rv h
 obtain ⟨l,b,xs,zs,rfl,rfl,hH,hB,hz,q⟩:=h
 cases rx
 obtain ⟨u,rfl,ru⟩:=rv.one
 cases ru
 obtain ⟨z,its,n,r,hl,e⟩:=I.lstM hH
 obtain ⟨z2,its2,n2,r2,hl2,e2⟩:=I.lstM hB
 have hsz:its.toArray.size+its2.toArray.size<=sizeLine:=by rw [bg7,bg7]; omega
 have hlong : ¬ (!its.toArray.isEmpty && Builtin.List.listTooLong (its.toArray.size+its2.toArray.size))=true:=by
  rw [B8 hsz,Bool.and_false]
  exact bi6
 refine call_meets F.slot_list_extend ⟨_,e,rfl⟩ F.entry_list_extend (F.args_list_extend_2 _ _)
  (AutoSeq1.list_extend_list_list_0 l its.toArray n b its2.toArray n2 hlong (by rw [bg7]; omega) (by omega)) ⟨e,e2,?_⟩
 refine⟨.non,_,I.lset (its':=its ++ its2) hH e (by simp) (r.append r2) ?_,rfl,q⟩
 rw [bi3]
 omega
def C0:V->List V->Hp->VK->Prop:=fun x vs H Q=>∃ l xs i k y,x = .ref l/\vs = [.int i]/\H l=some (.lst xs)/\-(2 ^ 63)<=i/\i < 2 ^ 63/\seqIndex? i xs.length=some k/\xs[k]? = some y/\Q y (upd H l (.lst (xs.eraseIdx k)))
theorem ar0:uR X "list.pop" C0:=by
 intro pins s σ H x vs v us Q I rx rv h
 obtain ⟨l,xs,i,k,y,rfl,rfl,hH,h1,h2,hk,hy,q⟩:=h
 cases rx
 obtain ⟨u,rfl,ru⟩:=rv.one
 obtain ⟨t,rfl⟩:=ru
 obtain ⟨z,its,n,r,hl,e⟩:=I.lstM hH
 obtain ⟨w,hw,rw'⟩:=r.get hy
 refine call_meets F.slot_list_pop ⟨_,e,rfl⟩ F.entry_list_pop (F.args_list_pop_2 _ _)
  (MeetsSeq.list_pop_at l its.toArray n i t k w (fitsIndex_both h1 h2) (by rw [bg7,<- hl]; exact hk) (by rw [<- bo5]; exact hw) (by rw [bg7]; omega)) ⟨e,?_⟩
 refine⟨y,_,I.lset (its':=its.eraseIdx k) hH e ?_ (r.eraseIdx k) ?_,rw',q⟩
 ·show its.toArray.eraseIdxIfInBounds k=(its.eraseIdx k).toArray
  rw [List.eraseIdxIfInBounds_toArray]
 ·have:=uS xs k
  omega
def C1:R2:=fun x y H Q=>∃ l b xs zs,x = .ref l/\y = .ref b/\H l=some (.lst xs)/\H b=some (.lst zs)/\xs.length+zs.length<=sizeLine/\∀ p,H p=none->Q (.ref p) (upd H p (.lst (xs ++ zs)))
theorem ar1:c9 X (binaryOp .Add) C1:=by
 intro pins s σ H x y v u Q I rx ry h
 obtain ⟨l,b,xs,zs,rfl,rfl,hH,hB,hz,q⟩:=h
 cases rx
 cases ry
 obtain ⟨z,its,n,r,hl,e⟩:=I.lstM hH
 obtain ⟨z2,its2,n2,r2,hl2,e2⟩:=I.lstM hB
 refine PySem.P.add_list e e2 ?_ (by rw [bg7,bg7]; omega)
 have ea:its.toArray ++ its2.toArray=(its ++ its2).toArray:=by simp
 rw [ea]
 exact⟨.ref _,_,I.lnew (t':=s.toks) (r.append r2) (by rw [bi3]; omega),rfl,q _ I.fresh⟩
def C2:R2:=fun x y H Q=>∃ l k xs,x = .ref l/\y = .int k/\H l=some (.lst xs)/\-(2 ^ 63)<=k/\k < 2 ^ 63/\xs.length * k.toNat<=sizeLine/\
 ∀ p,H p=none->Q (.ref p) (upd H p (.lst (List.replicate k.toNat xs).flatten))
theorem ar2 {α:Type} (xs:List α) (k:Nat):(List.replicate k xs).flatten.length=k * xs.length:=by
 induction k with
 | zero=>simp
 | succ k ih=>rw [bq0,bq7,bi3,ih,Nat.succ_mul,Nat.add_comm]
theorem ar3:c9 X (binaryOp .Mult) C2:=by
 intro pins s σ H x y v u Q I rx ry h
 obtain ⟨l,k,xs,rfl,rfl,hH,h1,h2,hz,q⟩:=h
 cases rx
 obtain ⟨t,rfl⟩:=ry
 obtain ⟨z,its,n,r,hl,e⟩:=I.lstM hH
 have hlen:its.toArray.size * k.toNat<=sizeLine:=by rw [bg7,<- hl]; exact hz
 have hcap : ¬ its.toArray.size * k.toNat > (2 ^ 63 - 1) / 8:=by
  have:(sizeLine:Nat)<=(2 ^ 63 - 1) / 8:=by decide
  omega
 have hfit : ¬ (!Builtin.List.listFitsIndex k)=true:=by
  rw [fitsIndex_both h1 h2]
  exact bi6
 have hlong : ¬ Builtin.List.listTooLong (its.toArray.size * k.toNat)=true:=by
  rw [B8 hlen]
  exact bi6
 have hnew:List.foldl (fun x1 x2=>x1 ++ x2) #[] (List.replicate (if its.toArray.isEmpty=true then 0 else k.toNat) its.toArray)=(List.replicate k.toNat its).flatten.toArray:=by
  have f0:∀ m:Nat,List.foldl (fun x1 x2=>x1 ++ x2) #[] (List.replicate m its.toArray)=(List.replicate m its).flatten.toArray:=fun m=>by
   have:=B7 its m []
   rw [List.nil_append] at this
   exact this
  rw [f0]
  cases its with
  | nil=>simp
  | cons a r'=>rw [if_neg (by simp)]
 refine wpAny_binaryOp_repeat_ref (T:="list") (U:="int") (by decide) ⟨_,e,rfl⟩ (fun s'=>typeIs_int s' k t) noFill_list_mul F.fills_int_mul F.slot_int_rmul repeat_list F.slot_int_index.lookup
  (call_meets F.slot_int_rmul (typeIs_int s k t) F.entry_int_rmul (F.args_int_rmul_2 _ _) (int___rmul___int_list k t l its.toArray n)
   ⟨e,rfl,⟨_,e,rfl⟩,call_meets F.slot_list_mul ⟨_,e,rfl⟩ F.entry_list_mul (F.args_list_mul_2 _ _) (AutoListH.list___mul___list_int_3 l its.toArray n k t hfit hcap hlong) ⟨e,?_⟩⟩)
 rw [hnew]
 exact⟨.ref _,_,I.lnew (t':=s.toks) (r.rep k.toNat) (by rw [ar2,Nat.mul_comm]; exact hz),rfl,q _ I.fresh⟩
end
section
variable {κ : Type} [DecidableEq κ]
def eJ (kvs:List (κ × V)) (k:κ):Option V:=(kvs.find? fun kv=>decide (kv.1=k)).map (·.2)
def dL (kvs:List (κ × V)) (k:κ) (v:V):List (κ × V):=
 if (kvs.any fun kv=>decide (kv.1=k))=true then kvs.map (fun kv=>if kv.1=k then (kv.1,v) else kv) else kvs ++ [(k,v)]
theorem uT {p:κ × V}{r:List (κ × V)}{k:κ} (e:p.1=k):eJ (p :: r) k=some p.2:=by simp [eJ,br2,e]
theorem uU {p:κ × V}{r:List (κ × V)}{k:κ} (e : ¬ p.1=k):eJ (p :: r) k=eJ r k:=by simp [eJ,br2,e]
theorem C3 (k:κ):∀ kvs:List (κ × V),(kvs.any fun kv=>decide (kv.1=k))=(eJ kvs k).isSome
 | []=>rfl
 | p :: r=>by
  rw [List.any_cons]
  by_cases e:p.1=k
  ·simp only [uT e,bh3 e,Bool.true_or,Option.isSome_some]
  ·rw [uU e,bh2 e,Bool.false_or]; exact C3 k r
theorem uV (kvs:List (κ × V)) (k:κ) (v:V):(dL kvs k v).length<=kvs.length+1:=by
 unfold dL
 split
 ·rw [bh4]; omega
 ·rw [bi3,bk2,List.length_nil]; omega
theorem kH.isSome_eq {o:Option V}{u:Option Value} (r:kH o u):o.isSome=u.isSome:=by
 cases o with
 | none=>cases u with
  | none=>rfl
  | some _=>exact (show False from r).elim
 | some _=>cases u with
  | none=>exact (show False from r).elim
  | some _=>rfl
theorem KV.val {kvs:List (κ × V)}{vs:List (κ × Value)} (r:KV kvs vs) (k:κ):kH (eJ kvs k) (valueAt vs k):=by
 unfold KV at r
 induction r with
 | nil=>exact bx4
 | @cons p q ps qs h t ih=>
  obtain ⟨h1,h2⟩:=h
  by_cases e:p.1=k
  ·have e':q.1=k:=h1.symm.trans e
   have b:valueAt (q :: qs) k=some q.2:=by simp [valueAt,br2,e']
   rw [uT e,b]; exact h2
  ·have e' : ¬ q.1=k:=fun z=>e (h1.trans z)
   have b:valueAt (q :: qs) k=valueAt qs k:=by simp [valueAt,br2,e']
   rw [uU e,b]; exact ih
theorem KV.any {kvs:List (κ × V)}{vs:List (κ × Value)} (r:KV kvs vs) (k:κ):(kvs.any fun kv=>decide (kv.1=k))=vs.any fun kv=>decide (kv.1=k):=by
 unfold KV at r
 induction r with
 | nil=>rfl
 | cons h t ih=>rw [List.any_cons,List.any_cons,ih,h.1]
theorem KV.repl {kvs:List (κ × V)}{vs:List (κ × Value)} (r:KV kvs vs) (k:κ) {y:V}{u:Value} (ry:aV y u) :
  KV (kvs.map fun kv=>if kv.1=k then (kv.1,y) else kv) (vs.map fun kv=>if kv.1=k then (kv.1,u) else kv):=by
 unfold KV at r ⊢
 induction r with
 | nil=>exact .nil
 | @cons p q ps qs h t ih=>
  rw [bn6,bn6]
  refine .cons ?_ ih
  obtain ⟨h1,h2⟩:=h
  by_cases e:p.1=k
  ·rw [if_pos e,if_pos (h1.symm.trans e)]; exact⟨h1,ry⟩
  ·rw [if_neg e,if_neg (fun z=>e (h1.trans z))]; exact⟨h1,h2⟩
theorem KV.put {kvs:List (κ × V)}{vs:List (κ × Value)} (r:KV kvs vs) (k:κ) {y:V}{u:Value} (ry:aV y u):KV (dL kvs k y) (stored vs k u):=by
 unfold dL stored
 rw [r.any k]
 by_cases e:(vs.any fun kv=>decide (kv.1=k))=true
 ·rw [if_pos e,if_pos e]; exact r.repl k ry
 ·rw [if_neg e,if_neg e]; exact Paired.snoc r ⟨rfl,ry⟩
theorem KV.length {kvs:List (κ × V)}{vs:List (κ × Value)} (r:KV kvs vs):kvs.length=vs.length:=Paired.length r
end
theorem pY {P:Program}{w:World}{k:aE}{u:Value} (r:aV (kV k) u):(eG P w).is k u=true:=by
 cases k with
 | inl i=>obtain ⟨t,e⟩:=(show ∃ t,u=Value.int i t from r); subst e; exact ai8 P w i t
 | inr x=>obtain ⟨t,e⟩:=(show ∃ t,u=Value.str x t from r); subst e; exact ai9 P w x t
theorem C4 {P:Program}{w:World}:∀ {ks:List aE}{us:List Value},aN (ks.map kV) us->ItemsAre (eG P w) ks us
 | [],_,r=>by rw [List.map_nil] at r; cases r; exact .nil
 | k :: ks,_,r=>by
  rw [bn6] at r
  cases r with
  | cons h t=>exact .cons (pY h) (C4 t)
abbrev KT (H:Hp):List (List aE × V)->List (List aE × Addr × Value)->Prop:=Paired fun p q=>p.1=q.1/\H q.2.1=some (.tup (p.1.map kV))/\aV p.2 q.2.2
theorem KT.val {H:Hp}{kvs:List (List aE × V)}{xs:List (List aE × Addr × Value)} (r:KT H kvs xs) (k:List aE):kH (eJ kvs k) ((atKey xs k).map (·.2)):=by
 induction r with
 | nil=>exact bx4
 | @cons p q ps qs h t ih=>
  obtain ⟨h1,_,h2⟩:=h
  by_cases e:p.1=k
  ·have e':q.1=k:=h1.symm.trans e
   have b:atKey (q :: qs) k=some q.2:=by simp [atKey,br2,e']
   rw [uT e,b]; exact h2
  ·have e' : ¬ q.1=k:=fun z=>e (h1.trans z)
   have b:atKey (q :: qs) k=atKey qs k:=by simp [atKey,br2,e']
   rw [uU e,b]; exact ih
theorem KT.repl {H:Hp}{kvs:List (List aE × V)}{xs:List (List aE × Addr × Value)} (r:KT H kvs xs) (k:List aE) {y:V}{u:Value} (ry:aV y u) :
  KT H (kvs.map fun kv=>if kv.1=k then (kv.1,y) else kv) (xs.map (putAt k u)):=by
 induction r with
 | nil=>exact .nil
 | @cons p q ps qs h t ih=>
  rw [bn6,bn6]
  refine .cons ?_ ih
  obtain ⟨h1,h2,h3⟩:=h
  unfold putAt
  by_cases e:p.1=k
  ·rw [if_pos e,if_pos (h1.symm.trans e)]; exact⟨h1,h2,ry⟩
  ·rw [if_neg e,if_neg (fun z=>e (h1.trans z))]; exact⟨h1,h2,h3⟩
theorem KT.put {H:Hp}{kvs:List (List aE × V)}{xs:List (List aE × Addr × Value)} (r:KT H kvs xs) (k:List aE) {b:Addr}{y:V}{u:Value} (hb:H b=some (.tup (k.map kV))) (ry:aV y u) :
  KT H (dL kvs k y) (storedH xs k b u):=by
 have e:(kvs.any fun kv=>decide (kv.1=k))=(atKey xs k).isSome:=by
  rw [C3,(r.val k).isSome_eq,Option.isSome_map]
 unfold dL storedH
 rw [e]
 by_cases q:(atKey xs k).isSome=true
 ·rw [if_pos q,if_pos q]; exact r.repl k ry
 ·rw [if_neg q,if_neg q]; exact Paired.snoc r ⟨rfl,hb,ry⟩
theorem KT.keeps {H H':Hp}{kvs:List (List aE × V)}{xs:List (List aE × Addr × Value)} (r:KT H kvs xs) (ht:∀ b ys,H b=some (.tup ys)->H' b=some (.tup ys)):KT H' kvs xs:=
 Paired.mapP r fun _ _ z=>⟨z.1,ht _ _ z.2.1,z.2.2⟩
section
variable {P : Program} {w : World} {H : Hp} {h : Heap} {a : Addr}
theorem C5 {u:HO} (ok:bS P w H h) (e:Rd H a u):bR P w H h a u:=e.ok ok
theorem nT {kvs:List (aE × V)} (ok:bS P w H h) (e:Rd H a (.dK kvs)):kvs.length<=sizeLine/\(a == sysModules)=false/\∃ vs,KV kvs vs/\h.DictOf (eG P w) a vs:=
 show bR P w H h a (.dK kvs) from C5 ok e
theorem uW {kvs:List (aE × V)} (ok:bS P w H h) (e:H a=some (.dK kvs)):kvs.length<=sizeLine/\(a == sysModules)=false/\∃ vs,KV kvs vs/\h.DictOf (eG P w) a vs:=nT ok (.inl e)
theorem pZ {ks:List aE} (ok:bS P w H h) (e:H a=some (.tup (ks.map kV))):(tupleKind (eG P w)).is h ks a:=by
 obtain ⟨_,its,r,⟨o,h1,h2,n,h3⟩,_⟩:=(show bR P w H h a (.tup (ks.map kV)) from ok a _ e)
 exact⟨o,its.toArray,n,h1,h2,h3,by simpa using C4 r⟩
theorem qA {kvs:List (List aE × V)} (ok:bS P w H h) (e:Rd H a (.dT kvs)):kvs.length<=sizeLine/\(a == sysModules)=false/\
  ∃ xs,KT H kvs xs/\h.DictOfH (tupleKind (eG P w)) a xs:=by
 obtain ⟨z,y,xs,r,o,es,ep,h1,h2,h3,h4,h5⟩:=(show bR P w H h a (.dT kvs) from C5 ok e)
 refine⟨z,y,xs,r,o,es,ep,h1,h2,h3,h4,fun x hx=>?_,h5⟩
 have all:∀ {l:List (List aE × V)}{m:List (List aE × Addr × Value)},KT H l m->∀ x ∈ m,(tupleKind (eG P w)).is h x.1 x.2.1:=by
  intro l m q
  induction q with
  | nil=>intro x hx; exact nomatch hx
  | @cons p q ps qs hq t ih=>
   intro x hx
   rcases bh1.mp hx with e | hx
   ·subst e
    exact pZ ok (by rw [<- hq.1]; exact hq.2.1)
   ·exact ih x hx
 exact all r x hx
theorem ar4 {kvs:List (List aE × V)} (ok:bS P w H h) (e:H a=some (.dT kvs)):kvs.length<=sizeLine/\(a == sysModules)=false/\
  ∃ xs,KT H kvs xs/\h.DictOfH (tupleKind (eG P w)) a xs:=qA ok (.inl e)
end
def hV (H:Hp) (a:Addr) (y:V) (r:Option V):Prop:=
 (∃ kvs k,Rd H a (.dK kvs)/\y=kV k/\r=eJ kvs k) ∨ ∃ kvs k b,Rd H a (.dT kvs)/\y = .ref b/\H b=some (.tup (k.map kV))/\r=eJ kvs k
def nU (H:Hp) (a:Addr) (y v:V) (H':Hp):Prop:=
 (∃ kvs k,H a=some (.dK kvs)/\y=kV k/\kvs.length < sizeLine/\H'=upd H a (.dK (dL kvs k v))) ∨
 ∃ kvs k b,H a=some (.dT kvs)/\y = .ref b/\H b=some (.tup (k.map kV))/\kvs.length < sizeLine/\H'=upd H a (.dT (dL kvs k v))
theorem hV.k {H:Hp}{a:Addr}{kvs:List (aE × V)}{k:aE} (e:H a=some (.dK kvs)):hV H a (kV k) (eJ kvs k):=.inl ⟨kvs,k,.inl e,rfl,rfl⟩
theorem hV.t {H:Hp}{a b:Addr}{kvs:List (List aE × V)}{k:List aE} (e:H a=some (.dT kvs)) (eb:H b=some (.tup (k.map kV))):hV H a (.ref b) (eJ kvs k):=.inr ⟨kvs,k,b,.inl e,rfl,eb,rfl⟩
theorem nU.k {H:Hp}{a:Addr}{kvs:List (aE × V)}{k:aE}{v:V} (e:H a=some (.dK kvs)) (hl:kvs.length < sizeLine):nU H a (kV k) v (upd H a (.dK (dL kvs k v))):=.inl ⟨kvs,k,e,rfl,hl,rfl⟩
section
variable {X : Cx} {pins : List (Addr × Obj)} {σ : St} {H : Hp} {s : Shared} {a : Addr} {y v : V} {u r : Value} {o : Option V} {A : Around} {E : Value → Shared → Prop}
theorem a8.big (I:a8 X pins σ H s):sysModules < s.heap.objs.size:=by
 have h:mainGlobals < s.heap.objs.size:=(I.mod.glob.keeps I.bk).lt
 exact Nat.lt_trans (by decide) h
theorem ar5 {Q:Value->Shared->Prop} (hu:A.units+1 < cLine) (I:a8 X pins σ H s) (g:hV H a y o) (ry:aV y u) (h:∀ s',a8 X pins σ H s'->Q (.bool o.isSome) s') :
  wpAny (model X.prog X.w) A (compareOp .In u (.ref a)) Q E s:=by
 rcases g with ⟨kvs,k,e,ey,l⟩ | ⟨kvs,k,b,e,ey,eb,l⟩
 ·subst ey
  obtain ⟨z,hd,vs,rel,dd⟩:=nT I.hok e
  refine wpAny_in_of (pY ry) hd dd.mapOf ?_
  rw [<- (rel.val k).isSome_eq,<- l]
  exact h _ (I.tok _)
 ·subst ey
  cases (show u=Value.ref b from ry)
  obtain ⟨z,hd,xs,rel,dd⟩:=qA I.hok e
  refine wpAny_in_heap (tupleKind_room_in1 hu) (pZ I.hok eb) hd dd ?_
  have q:=(rel.val k).isSome_eq
  rw [Option.isSome_map] at q
  rw [<- q,<- l]
  exact h _ (I.tok _)
theorem ar6 {Q:Value->Shared->Prop} (hu:A.units+1 < cLine) (I:a8 X pins σ H s) (g:hV H a y o) (ry:aV y u) (h:∀ s',a8 X pins σ H s'->Q (.bool (!o.isSome)) s') :
  wpAny (model X.prog X.w) A (compareOp .NotIn u (.ref a)) Q E s:=by
 rcases g with ⟨kvs,k,e,ey,l⟩ | ⟨kvs,k,b,e,ey,eb,l⟩
 ·subst ey
  obtain ⟨z,hd,vs,rel,dd⟩:=nT I.hok e
  refine wpAny_notIn_of (pY ry) hd dd.mapOf ?_
  rw [<- (rel.val k).isSome_eq,<- l]
  exact h _ (I.tok _)
 ·subst ey
  cases (show u=Value.ref b from ry)
  obtain ⟨z,hd,xs,rel,dd⟩:=qA I.hok e
  refine wpAny_notIn_heap (tupleKind_room_in1 hu) (pZ I.hok eb) hd dd ?_
  have q:=(rel.val k).isSome_eq
  rw [Option.isSome_map] at q
  rw [<- q,<- l]
  exact h _ (I.tok _)
theorem uX {h':Heap}{t':Nat}{ob:HO} (I:a8 X pins σ H s) (mu:nB (H a)) (hs:Heap.SameBut a s.heap h') (he:∃ q,h'.get? a=some q) (new:bR X.prog X.w (upd H a ob) h' a ob) :
  a8 X pins σ (upd H a ob) { s with heap:=h',toks:=t' }:=
 I.write (x:=a) (e:=a) mu (.inl rfl) (fun b q hb z=>(hs.2 b hb).trans z) he new
theorem C6 {P:Program}{w:World}{H':Hp}{h':Heap}{kvs:List (aE × V)}{vs:List (aE × Value)} (z:kvs.length<=sizeLine) (hd:(a == sysModules)=false) (rel:KV kvs vs) (dd:h'.DictOf (eG P w) a vs) :
  bR P w H' h' a (.dK kvs):=⟨z,hd,vs,rel,dd⟩
theorem ar7 {H':Hp}{Q:Unit->Shared->Prop} (hu:A.units+1 < cLine) (I:a8 X pins σ H s) (g:nU H a y v H') (ry:aV y u) (rv:aV v r) (h:∀ s',a8 X pins σ H' s'->Q () s') :
  wpAny (model X.prog X.w) A (setItem (.ref a) u r) Q E s:=by
 rcases g with ⟨kvs,k,e,ey,l,eH⟩ | ⟨kvs,k,b,e,ey,eb,l,eH⟩
 ·subst ey eH
  obtain ⟨z,hd,vs,rel,dd⟩:=uW I.hok e
  have hz:vs.length<=sizeLine:=by rw [<- rel.length]; exact z
  have hl:(dL kvs k v).length<=sizeLine:=by have:=uV kvs k v; omega
  refine wpAny_setItem_pairs (hsz:=hz) (pY ry) dd fun h' dd' hs=>h _ ?_
  have he:∃ q,h'.get? a=some q:=let ⟨q,_,_,hq,_⟩:=dd'; ⟨q,hq⟩
  exact uX I (by rw [e]; exact bx4) hs he (C6 hl hd (rel.put k rv) dd')
 ·subst ey eH
  cases (show u=Value.ref b from ry)
  obtain ⟨z,hd,xs,rel,dd⟩:=ar4 I.hok e
  have hz:xs.length<=sizeLine:=by rw [<- Paired.length rel]; exact z
  have hl:(dL kvs k v).length<=sizeLine:=by have:=uV kvs k v; omega
  refine wpAny_setItem_heap (hsz:=hz) (tupleKind_room_in1 hu) (pZ I.hok eb) dd fun h' dd' hs=>h _ ?_
  obtain ⟨q,es,ep,hq,h2,h3,h4,_,h5⟩:=dd'
  refine uX I (by rw [e]; exact bx4) hs ⟨q,hq⟩ ⟨hl,hd,_,(rel.put k eb rv).keeps fun c ys ec=>?_,q,es,ep,hq,h2,h3,h4,h5⟩
  rw [aR (aj0 ec e (fun z=>nomatch z))]
  exact ec
end
section
variable {X : Cx} {pins : List (Addr × Obj)} {σ : St} {H : Hp} {s : Shared} {a : Addr} {kvs : List (aE × V)} {k : aE} {u : Value} {A : Around} {E : Value → Shared → Prop}
theorem ar8 {Q:Value->Shared->Prop} (I:a8 X pins σ H s) (e:Rd H a (.dK kvs)) (h:∀ t s',a8 X pins σ H s'->Q (.int kvs.length t) s'):wpAny (model X.prog X.w) A (call (.builtin "len") [.ref a]) Q E s:=by
 obtain ⟨z,hd,vs,rel,dd⟩:=nT I.hok e
 refine call_len_dict hd dd (by rw [<- rel.length]; rw [sizeLine_eq] at z; omega) ?_
 rw [<- rel.length]
 exact h _ _ (I.tok _)
end
def C7 (ty td:TE):TE:=fun σ H Q=>ty σ H fun y H1=>td σ H1 fun x H2=>∃ a o,x = .ref a/\hV H2 a y o/\Q (.bl o.isSome) H2
def C8 (ty td:TE):TE:=fun σ H Q=>ty σ H fun y H1=>td σ H1 fun x H2=>∃ a o,x = .ref a/\hV H2 a y o/\Q (.bl (!o.isSome)) H2
def C9 (td ty tv:TE):TS:=fun D σ H=>tv σ H fun v H1=>td σ H1 fun x H2=>ty σ H2 fun y H3=>∃ a H4,x = .ref a/\nU H3 a y v H4/\D.nx σ H4
section
variable {X : Cx} {o i e value : Expr} {pos pos' tpos : Pos} {td ty tv : TE}
theorem ar9 (hu:X.A.units+1 < cLine) (hi:PE X i ty) (ho:PE X o td):PC X .In i o (C7 ty td):=by
 intro pins s σ H Q I h
 refine aO (hi pins s σ H _ I h) fun iv s1 ⟨y,H1,I1,ry,q1⟩=>aO (ho pins s1 σ H1 _ I1 q1) fun u s2 ⟨x,H2,I2,rx,a,ov,ex,g,q2⟩=>?_
 subst ex
 obtain rfl:u=Value.ref a:=rx
 exact ar5 hu I2 g ry fun s3 I3=>⟨.bl ov.isSome,H2,I3,rfl,q2⟩
theorem E1 (hu:X.A.units+1 < cLine) (hi:PE X i ty) (ho:PE X o td):PC X .NotIn i o (C8 ty td):=by
 intro pins s σ H Q I h
 refine aO (hi pins s σ H _ I h) fun iv s1 ⟨y,H1,I1,ry,q1⟩=>aO (ho pins s1 σ H1 _ I1 q1) fun u s2 ⟨x,H2,I2,rx,a,ov,ex,g,q2⟩=>?_
 subst ex
 obtain rfl:u=Value.ref a:=rx
 exact ar6 hu I2 g ry fun s3 I3=>⟨.bl (!ov.isSome),H2,I3,rfl,q2⟩
theorem as0 (hu:X.A.units+1 < cLine) (ho:PE X o td) (hi:PE X i ty) (hv:PE X value tv) (hs:swapsWith value (some (.Subscript o i pos')) pos.line X.env=pure false) :
  PS X (.Assign [.Subscript o i pos'] value pos) (C9 td ty tv):=by
 intro pins s σ H D I h
 refine wpAny_Assign_Subscript (aO (hv pins s σ H _ I h) fun r s1 ⟨v,H1,I1,rv,q1⟩=>aO (ho pins s1 σ H1 _ I1 q1) fun u s2 ⟨x,H2,I2,rx,q2⟩=>aO (hi pins s2 σ H2 _ I2 q2) fun iv s3 ⟨y,H3,I3,ry,a,H4,ex,g,q3⟩=>?_) hs
 subst ex
 obtain rfl:u=Value.ref a:=rx
 exact ar7 hu I3 g ry rv fun s4 I4=>⟨σ,H4,I4,q3⟩
end
theorem as1 {P:Program}{w:World}{H:Hp} (h:Heap) (hb:sysModules < h.objs.size):bR P w H (h.push { cls:=.type "dict",data:=.dict #[] }) h.objs.size (.dK []):=
 ⟨bl6 _,beq_eq_false_iff_ne.mpr (Ne.symm (bk4 hb)),[],.nil,Heap.DictOf.new h⟩
def E2:TE:=fun _ H Q=>∀ p,H p=none->Q (.ref p) (upd H p (.dK []))
section
variable {X : Cx} {pos : Pos}
theorem as2:PE X (.Dict [] [] pos) E2:=fun pins s σ H Q I h=>
 wpAny_Dict_empty ⟨.ref s.heap.objs.size,_,I.laid (a:=s.heap.objs.size) (o:=.dK []) (t':=s.toks) (fun _ _ q=>bg6 _ q) (bh0 _) (as1 s.heap I.big),rfl,h _ (I.hok.fresh (bh0 _))⟩
end
def kQ (kvs more:List (aE × V)):List (aE × V):=more.foldl (fun acc kv=>dL acc kv.1 kv.2) kvs
theorem KV.merge:∀ {more:List (aE × V)}{rs:List (aE × Value)}{kvs:List (aE × V)}{vs:List (aE × Value)},KV more rs->KV kvs vs->KV (kQ kvs more) (merged vs rs):=by
 intro more rs kvs vs r
 unfold KV at r
 induction r generalizing kvs vs with
 | nil=>intro q; exact q
 | @cons p q ps qs h t ih=>
  intro r0
  have e:KV (dL kvs p.1 p.2) (stored vs q.1 q.2):=by
   have:=r0.put p.1 h.2
   rw [<- h.1]; exact this
  exact ih e
theorem E3:∀ (more kvs:List (aE × V)),(kQ kvs more).length<=kvs.length+more.length
 | [],kvs=>by show kvs.length<=kvs.length+0; omega
 | p :: r,kvs=>by
  have h1:=E3 r (dL kvs p.1 p.2)
  have h2:=uV kvs p.1 p.2
  show (kQ (dL kvs p.1 p.2) r).length<=_
  rw [bk2]; omega
structure M1 (X:Cx) (o:Expr) (m:Str) (apos:Pos) (e:Expr) (cpos:Pos):Prop where
 base:attributeBase o m X.env (eval o X.env)=eval o X.env
 few:((backTo cpos (starEach [e] X.env)).all (fun x=>!x.1) && (backToKw cpos (keywordEach [] X.env)).all (fun x=>x.1.isSome)
  && decide (([e]:List Expr).length+([]:List Keyword).length+(if ([]:List Keyword).isEmpty then 0 else 1) < 30))=true
 line:(apos.endLine == cpos.line)=true
 trees:backTo cpos (starEach [e] X.env) = [(false,eval e X.env)]
structure M2 (X:Cx) (o:Expr) (m:Str) (apos:Pos) (e f:Expr) (cpos:Pos):Prop where
 base:attributeBase o m X.env (eval o X.env)=eval o X.env
 few:((backTo cpos (starEach [e,f] X.env)).all (fun x=>!x.1) && (backToKw cpos (keywordEach [] X.env)).all (fun x=>x.1.isSome)
  && decide (([e,f]:List Expr).length+([]:List Keyword).length+(if ([]:List Keyword).isEmpty then 0 else 1) < 30))=true
 line:(apos.endLine == cpos.line)=true
 trees:backTo cpos (starEach [e,f] X.env) = [(false,eval e X.env),(false,eval f X.env)]
def E4 (H:Hp) (a:Addr):Prop:=(∃ kvs,Rd H a (.dK kvs)) ∨ ∃ kvs,Rd H a (.dT kvs)
theorem as3 {X:Cx}{pins:List (Addr × Obj)}{σ:St}{H:Hp}{s:Shared}{a:Addr} (I:a8 X pins σ H s) (d:E4 H a) :
  s.TypeIs (.ref a) "dict"/\(∀ b,Value.ref a = .ref b->∃ ob,s.heap.get? b=some ob/\ob.dict=none)/\(a == sysModules)=false:=by
 rcases d with ⟨kvs,e⟩ | ⟨kvs,e⟩
 ·obtain ⟨_,hd,vs,_,dd⟩:=nT I.hok e
  refine⟨dd.typeIs,fun b q=>?_,hd⟩
  cases q
  obtain ⟨ob,_,_,h1,h2,_⟩:=dd
  exact⟨ob,h1,h2.2.1⟩
 ·obtain ⟨_,hd,xs,_,dd⟩:=qA I.hok e
  refine⟨dd.typeIs,fun b q=>?_,hd⟩
  cases q
  obtain ⟨ob,_,_,h1,h2,_⟩:=dd
  exact⟨ob,h1,h2.2.1⟩
end L2
namespace Att
open PySem PySem.W PySem.Calls PyProof.Rows
theorem as4 {P:Params}{h:Heap}:∀ (ns:List Int) (vs:List Value),WellAll P h vs (ns.map WData.int)->IntsAre vs ns:=by
 intro ns
 induction ns with
 | nil=>
  intro vs w
  rw [List.map_nil] at w
  cases w
  exact .nil
 | cons n ns ih=>
  intro vs w
  rw [bn6] at w
  cases w with
  | cons a b=>
   cases a
   exact .cons _ _ (ih _ b)
theorem E5 {l:OpenLaw}{n:Nat} (hn:l.most=some n) {P:Params}{h:Heap}{args:List WData}{vals:List Value}
  (hpre:l.row.toRowW.claim.pre args=true) (hwl:WellAll P h vals args) :
  ∃ a vs ns,vals = [Value.ref a]/\args = [WData.list (ns.map WData.int)]/\h.get? a=some { cls:=.type "list",data:=.seq vs.toArray }/\IntsAre vs ns/\ns.length<=n:=by
 have hsh:WShape.hasAll [] args [.list .int]=true:=(pre_splitW hpre).1
 have hc:l.pre.holds [] { args:=args }=true:=(pre_splitW hpre).2
 obtain ⟨d,r,rfl,h1,h2⟩:=hasAllW_cons hsh
 obtain rfl:=hasAllW_nil h2
 obtain ⟨xs,rfl,h3⟩:=hasW_list h1
 obtain ⟨ns,rfl⟩:=items_int h3
 have hlen:ns.length<=n:=by
  unfold OpenLaw.pre at hc
  have h4:(WTm.not (.lt (.lit (.int (n:Int))) (.len (.arg 0)))).holds [] { args:=[.list (ns.map .int)] }=true:=by
   have h4:=(holds_andW hc).1
   rw [hn] at h4
   exact h4
  have h5:=condW_of h4 (w_not (w_lt w_lit (w_len_list (w_arg rfl))))
  rw [bh4] at h5
  refine bv0 fun q=>?_
  have q':(n:Int) < ((ns.length:Nat):Int):=by omega
  first
   | (rw [bh3 q'] at h5; exact absurd h5 (by decide))
   | (simp at h5; omega)
 cases hwl with
 | cons w1 w2=>
  cases w2
  cases w1 with
  | list ho hall=>exact⟨_,_,ns,rfl,rfl,ho,as4 ns _ hall,hlen⟩
theorem E6 (l:OpenLaw) (args:List WData):l.row.toRowW.claim.post args (.bool true) args=true:=
 postW_of (r:=l.row.toRowW) (X:=(true == true))
  (show WShape.has [] (.bool true) .bool=true by first | rfl | decide | simp [WShape.has,WShape.arms,WShape.armsAll])
  (show (WTm.eq .res (.lit (.bool true))).value [] { args:=args,res:=some (.bool true),after:=args }=some (.bool (true == true)) from w_eq_bool (w_res rfl) w_lit) rfl
theorem bg1 {l:OpenLaw}{n:Nat}{q:Program}{loose:List Str}{XP:(Str->Option Value)->Heap->Prop}{YP:World->Heap->Prop}{d:DefRec}{x:Str}
  (hn:l.most=some n) (hdf:d.params.defaults = [])
  (hbind:∀ pm cd doc v:Value,bindArgs (docDef d.name d.params d.body d.scope pm cd doc) ⟨[v],[]⟩=pure [(x,v)])
  (hx:d.scope.names.lookup x=some .local ∨ d.scope.names.lookup x=some .cell)
  (hk:d.scope.kind = .function) (hco:d.scope.isCoroutine=false) (hgen:d.scope.isGenerator=false)
  (body:∀ (w:World) (s₀ s₁ s:Shared) (mg mb:Str->Option Value) (fa:Addr) (o:Obj) (pm cd doc:Value) (a:Addr) (vs:List Value) (ns:List Int),
   Ground q loose [] XP w s₀ mg mb s₁.heap->YP w s₁.heap->
   s₁.heap.get? fa=some o->o.data = .func (docDef d.name d.params d.body d.scope pm cd doc)->s₁.heap.CodeRec cd d.name->mg d.name=some (.ref fa)->
   s₁.heap.get? a=some { cls:=.type "list",data:=.seq vs.toArray }->IntsAre vs ns->ns.length<=n->
   s.gens = #[]->s.os=s₁.os->
   Fr s₁.heap s₁.heap.objs.size s.heap (bindL (envOfC d.name d.scope s₁.heap.objs.size fa cd).kindOf [(x,.ref a)] fun _=>none)->
   Cl s₁.heap.objs.size (cellsFrom (s₁.heap.objs.size+1) d.scope.names []) s.heap (bindC (envOfC d.name d.scope s₁.heap.objs.size fa cd).kindOf [(x,.ref a)] fun _=>none)->
   wpAny (model l.prog w) (callerA.deeper (envOfC d.name d.scope s₁.heap.objs.size fa cd)) (execs d.body (envOfC d.name d.scope s₁.heap.objs.size fa cd))
    (fun f s'=>f = .ret (.bool true)/\OldK s₁.heap s'.heap/\s'.os=s₁.os/\AllBare s'.gens) (fun _ _=>False) s) :
  WalkO q loose XP YP l.row.toRowW d [] (fun f vs=>PySem.call f vs):=by
 intro w s₀ s₁ mg mb G Y fa o pm cd doc dV kV ho hd hcd hD hmg hg args vals as hpre hlay hrd hwl hlo
 obtain rfl:dV = .none:=Dflts.none hD hdf
 obtain rfl:kV = .none:=Dflts.noKw hD
 obtain ⟨a,vs,ns,rfl,rfl,hobj,hints,hlen⟩:=E5 hn hpre hwl
 refine enter_call ?_
 refine call_cells_ret (o:=o) (by rw [depth_caller]; decide) ho (fd_plain hd) G.T.nolimit hcd (hbind pm cd doc (.ref a)) (fun y hy=>?_) (fun h₁ tk F X=>?_) hco hgen hk
 ·obtain rfl:y=(x,Value.ref a):=bh8.mp hy
  rcases hx with e | e
  ·exact .inl e
  ·exact .inr ⟨e,cellsFrom_some _ _ _ (.inl e)⟩
 ·refine bp5 (body w s₀ s₁ { s₁ with heap:=h₁,toks:=tk } mg mb fa o pm cd doc a vs ns G Y ho (fd_plain hd) hcd hmg hobj hints hlen hg rfl F X) (fun f s' hq=>?_) (fun _ _ hq=>hq)
  obtain ⟨rfl,h2,h3,h4⟩:=hq
  exact⟨.inl ⟨.bool true,.bool true,[],rfl,fun _=>rfl,.bool true,E6 l _,fun _=>⟨bw4,fun _ hm=>(nomatch hm)⟩⟩,h2,h3,h4⟩
theorem as5 {l:OpenLaw}{n:Nat}{q:Program}{loose:List Str}{XP:(Str->Option Value)->Heap->Prop}{YP:World->Heap->Prop}{d:DefRec}
  (hn:l.most=some n) (hdf:d.params.defaults = [])
  (call:∀ (w:World) (s₀ s₁:Shared) (mg mb:Str->Option Value) (fa:Addr) (o:Obj) (pm cd doc:Value) (a:Addr) (vs:List Value) (ns:List Int),
   Ground q loose [] XP w s₀ mg mb s₁.heap->YP w s₁.heap->
   s₁.heap.get? fa=some o->o.data = .func (docDef d.name d.params d.body d.scope pm cd doc)->s₁.heap.CodeRec cd d.name->mg d.name=some (.ref fa)->
   s₁.heap.get? a=some { cls:=.type "list",data:=.seq vs.toArray }->IntsAre vs ns->ns.length<=n->s₁.gens = #[]->
   codeAny (model l.prog w) callerA (.call (.ref fa) ⟨[.ref a],[]⟩) (fun r s'=>r = .ok (.ret (.bool true))/\OldK s₁.heap s'.heap/\s'.os=s₁.os/\AllBare s'.gens) s₁) :
  WalkO q loose XP YP l.row.toRowW d [] (fun f vs=>PySem.call f vs):=by
 intro w s₀ s₁ mg mb G Y fa o pm cd doc dV kV ho hd hcd hD hmg hg args vals as hpre hlay hrd hwl hlo
 obtain rfl:dV = .none:=Dflts.none hD hdf
 obtain rfl:kV = .none:=Dflts.noKw hD
 obtain ⟨a,vs,ns,rfl,rfl,hobj,hints,hlen⟩:=E5 hn hpre hwl
 refine enter_call (codeAny_mono (call w s₀ s₁ mg mb fa o pm cd doc a vs ns G Y ho (fd_plain hd) hcd hmg hobj hints hlen hg) fun r s' hq=>?_)
 obtain ⟨rfl,h2,h3,h4⟩:=hq
 exact⟨.inl ⟨.bool true,.bool true,[],rfl,fun _=>rfl,.bool true,E6 l _,fun _=>⟨bw4,fun _ hm=>(nomatch hm)⟩⟩,h2,h3,h4⟩
end Att
namespace L2
open PySem PySem.Spec PyProof.Rows
theorem nV:∀ {vs:List Value}{ns:List Int},IntsAre vs ns->aN (ns.map V.int) vs
 | _,_,.nil=>.nil
 | _,_,.cons n t h=>.cons ⟨t,rfl⟩ (nV h)
def qB (H:Hp):Prop:=∀ b,H b=none ∨ ∃ o xs,H b=some (.frz o (.lst xs))
theorem as6 {P:Program}{w:World}{K:PySem.W.Frag}{mg mb:Str->Option Value}{CX:gC}{k:Nat}{fa a:Addr}{fd:FuncData}{x:Str}{sp:Sp}{s₁:Shared}{vs:List Value}{ns:List Int}
  (KX:K.In s₁.heap) (hns:s₁.heap.Ns mainGlobals mg) (hb:s₁.heap.Ns builtinsNs mb) (hbb:∀ x:Str,x ≠ "__name__"->mb x=bootBuiltins x) (hlim:s₁.heap.NoLimit) (hg:s₁.gens = #[])
  (ha:s₁.heap.get? a=some { cls:=.type "list",data:=.seq vs.toArray }) (hi:IntsAre vs ns) (hl:ns.length<=sizeLine) (hr:bZ k callerA)
  (F:∀ base:Heap,K.In base->base.Ns mainGlobals mg->cI P w K mg base CX k fa fd [x] sp) (hbind:∀ (s:Shared) (u:Value),BindsTo s fd ⟨[u],[]⟩ [(x,u)])
  (hsp:∀ H:Hp,qB H->aH K H a (ns.map V.int)->sp [.ref a] H (fun v _=>v = .bl true) fun _ _ _=>False)
  (hCX:∀ H e s',CX [] H s₁ (fun _ _ _=>False) e s'->False) :
  codeAny (model P w) callerA (.call (.ref fa) ⟨[.ref a],[]⟩) (fun r s'=>r = .ok (.ret (.bool true))/\OldK s₁.heap s'.heap/\s'.os=s₁.os/\AllBare s'.gens) s₁:=by
 have rv:=nV hi
 have lenV:=hi.length
 have core:∀ H:Hp,qB H->aH K H a (ns.map V.int)->bS P w H s₁.heap->(∀ b,H b ≠ none->b=a)->(H a ≠ none->K.lookup a=none)->
   codeAny (model P w) callerA (.call (.ref fa) ⟨[.ref a],[]⟩) (fun r s'=>r = .ok (.ret (.bool true))/\OldK s₁.heap s'.heap/\s'.os=s₁.os/\AllBare s'.gens) s₁:=by
  intro H hO hS hok hA hK
  have base_of:∀ {b:Addr}{o:Obj},s₁.heap.get? b=some o->H b=none->(iX s₁.heap H).get? b=some o:=fun e n=>aj2 e n
  have noA:∀ {b:Addr}{o:Obj}{es:Array DictEntry}{ep:Nat},s₁.heap.get? b=some o->o.data = .dict es ep->H b=none:=fun {b o es ep} e d=>by
   cases q:H b with
   | none=>rfl
   | some u=>
    have e':b=a:=hA b (by rw [q]; simp)
    subst e'
    rw [ha] at e; cases e
    have d':Data.seq vs.toArray _=Data.dict es ep:=d
    cases d'
  have nsK:∀ {b:Addr}{m:Str->Option Value},s₁.heap.Ns b m->(iX s₁.heap H).Ns b m:=fun {b m} ⟨o,es,ep,e,d,r⟩=>⟨o,es,ep,base_of e (noA e d),d,r⟩
  have hKb:K.In (iX s₁.heap H):=fun b o e=>base_of (KX b o e) (by
   cases q:H b with
   | none=>rfl
   | some u=>
    have e':b=a:=hA b (by rw [q]; simp)
    subst e'
    rw [hK (by rw [q]; simp)] at e; cases e)
  have hM:Mod K mg (iX s₁.heap H):=⟨hKb,nsK hns,⟨mb,nsK hb,hbb⟩,let ⟨mc,h1,h2⟩:=hlim; ⟨mc,nsK h1,h2⟩⟩
  have e0:pW P w K mg (iX s₁.heap H) callerA [] s₁ H:=⟨rfl,hM,fun b o e=>aj3 e,Nat.le_of_eq (aj1 _ _),trivial,fun b hb=>absurd (show b ∈ ([]:List Addr) from hb) (by simp),hok,.of_eq hg⟩
  refine codeAny_mono ((F _ hKb (nsK hns)).run callerA [] s₁ H ⟨[.ref a],[]⟩ [.ref a] [.ref a] _ _ hr e0 (hbind s₁ (.ref a)) (.cons rfl .nil) (hsp H hO hS)) fun r s' h=>?_
  cases r with
  | error e=>exact (hCX H e s' h).elim
  | ok fl=>
   cases fl with
   | next=>exact False.elim h
   | brk=>exact False.elim h
   | cont=>exact False.elim h
   | ret u=>
    obtain ⟨v,H',os,bare,un,hok',r',q⟩:=h
    have q':v = .bl true:=q
    subst q'
    obtain rfl:u=Value.bool true:=r'
    refine⟨rfl,OldK.of_keep fun b o e=>?_,os,bare⟩
    cases q:H b with
    | none=>exact un.keep b o e q (by intro z; exact absurd (show b ∈ ([]:List Addr) from z) (by simp)) (by simp)
    | some u=>
     rcases hO b with z | ⟨ob,xs,z⟩
     ·rw [q] at z; cases z
     ·have z2:=un.frzs b ob _ z
      obtain ⟨e1,_⟩:=hok b _ z
      obtain ⟨e2,_⟩:=hok' b _ z2
      rw [e] at e1; cases e1
      exact e2
 cases hk:K.lookup a with
 | some o=>
  have e:=KX a o hk
  rw [ha] at e
  cases e
  refine core (fun _=>none) (fun _=>.inl rfl) (.inr ⟨_,vs.toArray,_,hk,rfl,rfl,rfl,by rw [bg7,lenV]; exact hl,by simpa using rv⟩) (fun b u z=>by have z':(none:Option HO)=some u:=z; cases z') (fun b z=>absurd rfl z) fun z=>absurd rfl z
 | none=>
  refine core (fun b=>if b=a then some (.frz { cls:=.type "list",data:=.seq vs.toArray } (.lst (ns.map V.int))) else none) (fun b=>?_) (.inl (.inr ⟨{ cls:=.type "list",data:=.seq vs.toArray },if_pos rfl⟩)) (fun b u z=>?_) (fun b z=>?_) fun _=>hk
  ·by_cases hb:b=a
   ·exact .inr ⟨_,_,if_pos hb⟩
   ·exact .inl (if_neg hb)
  ·by_cases hb:b=a
   ·have z':=(if_pos hb).symm.trans z
    cases z'
    subst hb
    exact⟨ha,by rw [bh4]; exact hl,vs,_,rv,ha⟩
   ·have z':=(if_neg hb).symm.trans z
    cases z'
  ·by_cases hb:b=a
   ·exact hb
   ·exact absurd (if_neg hb) z
theorem as7 {l:PySem.W.OpenLaw}{n k:Nat}{q:Program}{loose:List Str}{XP:(Str->Option Value)->Heap->Prop}{YP:World->Heap->Prop}{d:DefRec}{K:Params->PySem.W.Frag}{CX:World->gC}{sp:World->Sp}{x:Str}
  (hn:l.most=some n) (hn2:n<=sizeLine) (hdf:d.params.defaults = []) (hr:bZ k callerA)
  (hY:∀ (w:World) (h:Heap),YP w h->(K w.params).In h)
  (F:∀ (w:World) (mg:Str->Option Value) (fa:Addr) (h:Heap),(K w.params).In h->h.Ns mainGlobals mg->mg d.name=some (.ref fa)->
   ∃ fd:FuncData,(∀ (s:Shared) (u:Value),BindsTo s fd ⟨[u],[]⟩ [(x,u)])/\
    ∀ base:Heap,(K w.params).In base->base.Ns mainGlobals mg->cI l.prog w (K w.params) mg base (CX w) k fa fd [x] (sp w))
  (hsp:∀ (w:World) (H:Hp) (a:Addr) (ns:List Int),ns.length<=n->qB H->aH (K w.params) H a (ns.map V.int)->sp w [.ref a] H (fun v _=>v = .bl true) fun _ _ _=>False)
  (hCX:∀ (w:World) (H:Hp) (s:Shared) (e:Value) (s':Shared),CX w [] H s (fun _ _ _=>False) e s'->False) :
  PySem.W.WalkO q loose XP YP l.row.toRowW d [] (fun f vs=>PySem.call f vs):=by
 refine Att.as5 hn hdf fun w s₀ s₁ mg mb fa o pm cd doc a vs ns G Y ho hd hcd hmg hobj hints hlen hg=>?_
 have KX:=hY w _ Y
 obtain ⟨fd,hb,hF⟩:=F w mg fa _ KX G.T.g hmg
 exact as6 KX G.T.g G.T.b G.T.builtins G.T.nolimit hg hobj hints (bk3 hlen hn2) hr hF hb (fun H hO hS=>hsp w H a ns hlen hO hS) fun H e s'=>hCX w H s₁ e s'
def j8 (s:Stmt):Arguments:=match s with
 | .FunctionDef _ a _ _ _ _ _ _ _ _=>a
 | _=>{ posonlyargs:=[],args:=[],vararg:=none,kwonlyargs:=[],kw_defaults:=[],kwarg:=none,defaults:=[] }
def e8 (s:Stmt):List Stmt:=match s with
 | .FunctionDef _ _ b _ _ _ _ _ _ _=>b
 | _=>[]
def aQ (s:Stmt):Scope:=match s with
 | .FunctionDef _ _ _ _ _ _ sc _ _ _=>sc
 | _=>{ kind:=.function,names:=[],isGenerator:=false,isCoroutine:=false }
abbrev dD:gC:=fun _ _ _ _ _ _=>False
abbrev E0:XK:=fun _ _ _=>False
theorem as8 {X:Cx}:nK dD X E0:=fun _ _ _ _ _ _ _ h=>h.elim
structure e9 (K:PySem.W.Frag) (x qual:Str) (st:Stmt) (f:Addr) (fd:FuncData):Prop where
 ex:∃ (oc:Value) (od:Option Addr) (kV doc pm:Value) (an:Option Addr) (cdv ct:Value) (osl:Array (Option Value)),
  fd=PySem.W.fnOf x qual (j8 st) (e8 st) (aQ st) .none kV doc pm an cdv ct/\K.lookup f=some ⟨oc,od,.func fd,osl⟩/\PySem.W.codeIn K cdv qual=true
 kp:PySem.W.keepIn K (.ref f)=true
section
variable {P : Program} {w : World} {K : PySem.W.Frag} {mg : Str → Option Value} {base : Heap}
theorem e9.ok {x qual:Str}{st:Stmt}{f:Addr}{fd:FuncData}{N ps:List Str}{k:Nat}{sp:Sp} (F:e9 K x qual st f fd) (S:FnScope N ps (aQ st)) (len:∀ vs H Q E,sp vs H Q E->vs.length=ps.length)
  (hbody:∀ (cdv:Value) (A:Around) (outer:List Env) (s:Shared) (H:Hp) (vs:List V) (Q:VK) (E:XK),bZ k (A.deeper (envOfC qual (aQ st) s.heap.objs.size f cdv))->sp vs H Q E->
   ∃ t,dH (cZ dD P w K mg base N qual (aQ st) f cdv A outer s H E).nox (e8 st) t/\t { nx:=fun _ H'=>Q .non H',rt:=Q } (gD N vs) H):cI P w K mg base dD (k+1) f fd ps sp:=by
 obtain ⟨oc,od,kV,doc,pm,an,cdv,ct,osl,rfl,lk,hcd⟩:=F.ex
 refine A1 lk hcd S len fun A outer s H vs Q E hr hsp=>?_
 obtain ⟨t,h,q⟩:=hbody cdv A outer s H vs Q E hr hsp
 exact⟨t,h.nox,q⟩
theorem e9.binds {x qual:Str}{st:Stmt}{f:Addr}{fd:FuncData}{ps:List Str} (F:e9 K x qual st f fd)
  (h:∀ (kV doc pm:Value) (an:Option Addr) (cdv ct:Value) (us:List Value),us.length=ps.length->bindArgs (PySem.W.fnOf x qual (j8 st) (e8 st) (aQ st) .none kV doc pm an cdv ct) ⟨us,[]⟩=pure (ps.zip us)):gY K fd ps []:=by
 obtain ⟨oc,od,kV,doc,pm,an,cdv,ct,osl,rfl,lk,hcd⟩:=F.ex
 exact .all (h kV doc pm an cdv ct)
theorem as9 {x qual:Str}{st:Stmt}{f:Addr}{oc:Value}{od an:Option Addr}{osl:Array (Option Value)}{kV doc pm cdv ct:Value} (l:K.lookup f=some ⟨oc,od,.func (PySem.W.fnOf x qual (j8 st) (e8 st) (aQ st) .none kV doc pm an cdv ct),osl⟩)
  (c:PySem.W.codeIn K cdv qual=true) (k:PySem.W.keepIn K (.ref f)=true):e9 K x qual st f (PySem.W.fnOf x qual (j8 st) (e8 st) (aQ st) .none kV doc pm an cdv ct):=⟨⟨oc,od,kV,doc,pm,an,cdv,ct,osl,rfl,l,c⟩,k⟩
end
theorem nW {A:Around}{k:Nat} (hr:bZ k A):A.units+1 < cLine:=Nat.lt_of_le_of_lt (Nat.add_le_add_left (by decide:1<=64) _) hr.units
theorem m3 {n:Nat} (h:n<=1000):n < sizeLine:=Nat.lt_of_le_of_lt h (by decide)
section
variable {X : Cx}
theorem pv (i:Nat) {x:Str}{pos:Pos} (hN:X.N[i]? = some x:=by rfl) (hv:fZ X.env.scope x:=by first | exact Or.inl rfl | exact Or.inr (Or.inl rfl) | exact Or.inr (Or.inr rfl)) (hd:(x == ("__debug__" : Str))=false:=by decide)
  (hcd:(x == ("__classdict__" : Str))=false:=by decide):PE X (.Name x pos) (gU i):=iI hN hv hd hcd
theorem at0:cN X (.builtin "len") (fun xs H Q=>∃ a kvs,xs = [V.ref a]/\H a=some (.dK kvs)/\Q (.int kvs.length) H):=by
 intro pins s σ H xs us Q I r h
 obtain ⟨a,kvs,rfl,ha,q⟩:=h
 obtain ⟨u,rfl,ru⟩:=gX r
 cases ru
 exact ar8 I (.inl ha) fun t s' I'=>⟨.int kvs.length,H,I',⟨t,rfl⟩,q⟩
end
theorem aW {A B:Prop} (h:B):if false=true then A else B:=by
 rw [if_neg bi6]
 exact h
theorem aZ {A B:Prop} (h:A):if true=true then A else B:=by
 rw [if_pos rfl]
 exact h
def aB (H H':Hp):Prop:=∀ b o,H b=some o->H' b=some o
theorem aB.refl (H:Hp):aB H H:=fun _ _ h=>h
theorem aB.trans {H H1 H2:Hp} (a:aB H H1) (b:aB H1 H2):aB H H2:=fun c o h=>b c o (a c o h)
theorem aB.free {H H':Hp} (e:aB H H') {l:Addr} (h:H' l=Option.none):H l=Option.none:=by
 cases q:H l with
 | none=>rfl
 | some o=>
  rw [e l o q] at h
  cases h
theorem aB.seq {K:PySem.W.Frag}{H H':Hp}{a:Addr}{xs:List V} (e:aB H H') (h:aH K H a xs):aH K H' a xs:=by
 rcases h with (h | ⟨o,h⟩) | h
 ·exact .inl (.inl (e _ _ h))
 ·exact .inl (.inr ⟨o,e _ _ h⟩)
 ·exact .inr h
def dU (cells:List (Str × Addr)):List (Str × NameKind)->List (Str × Addr)->List (Str × Addr)
 | [],cs=>cs
 | (n,k) :: r,cs=>dU cells r (if k == .free then (n,(cells.lookup n).getD 0) :: cs else cs)
theorem uY {env:Env}:∀ (ns:List (Str × NameKind)) (cs:List (Str × Addr)),(∀ x ∈ ns,x.2 = .free->∃ c,env.cells.lookup x.1=some c)->
  (forIn ns cs (fun (x:Str × NameKind) r=>(match x with
   | (name,kind)=>if (kind == .free)=true then (do let y <- cellOf env name; pure (ForInStep.yield ((name,y) :: r))) else pure (ForInStep.yield r)):_->_->Sem _))=(pure (dU env.cells ns cs):Sem (List (Str × Addr)))
 | [],cs,_=>by rw [List.forIn_nil]; rfl
 | (n,k) :: r,cs,h=>by
  rw [List.forIn_cons]
  have hr:∀ x ∈ r,x.2 = .free->∃ c,env.cells.lookup x.1=some c:=fun x hx=>h x (bi9 _ hx)
  cases hk:(k == NameKind.free) with
  | true=>
   have e:k = .free:=by simpa using hk
   obtain ⟨c,hc⟩:=h (n,k) bi4 e
   simp only [hk,if_true]
   have e1:cellOf env n=pure c:=by unfold cellOf; rw [hc]
   rw [e1]
   show ((pure c >>= fun y=>pure (ForInStep.yield ((n,y) :: cs))) >>= _:Sem _)=_
   rw [pure_bind,pure_bind]
   have:=uY (env:=env) r ((n,c) :: cs) hr
   refine this.trans ?_
   unfold dU
   simp only [hk,if_true,hc,Option.getD_some]
   cases r <;> rfl
  | false=>
   simp only [hk,bj4,bo4]
   rw [pure_bind]
   have:=uY (env:=env) r cs hr
   refine this.trans ?_
   conv=>rhs; unfold dU
   simp only [hk,bj4,bo4]
theorem qD {scope:Scope}{env:Env} (h:∀ x ∈ scope.names,x.2 = .free->∃ c,env.cells.lookup x.1=some c):closureFor scope env=pure (dU env.cells scope.names []):=by
 have e:=uY (env:=env) scope.names [] h
 unfold closureFor
 rw [show (pure (dU env.cells scope.names []):Sem (List (Str × Addr)))=(pure (dU env.cells scope.names []) >>= pure) by rw [pure_bind]]
 rw [<- e]
theorem qE {cells:List (Str × Addr)}:∀ (ns:List (Str × NameKind)) (cs:List (Str × Addr)) {x:Str}{c:Addr},(∀ y ∈ ns,y.2 = .free->∃ c,cells.lookup y.1=some c)->
  (∀ x c,cs.lookup x=some c->cells.lookup x=some c)->(dU cells ns cs).lookup x=some c->cells.lookup x=some c
 | [],cs,x,c,_,hc,h=>hc x c h
 | (n,k) :: r,cs,x,c,hn,hc,h=>by
  unfold dU at h
  have hr:∀ y ∈ r,y.2 = .free->∃ c,cells.lookup y.1=some c:=fun y hy=>hn y (bi9 _ hy)
  cases hk:(k == NameKind.free) with
  | false=>
   simp only [hk,bj4,bo4] at h
   exact qE r cs hr hc h
  | true=>
   simp only [hk,if_true] at h
   refine qE r _ hr (fun y d e=>?_) h
   obtain ⟨c0,h0⟩:=hn (n,k) bi4 (by simpa using hk)
   have h0:cells.lookup n=some c0:=h0
   rw [h0] at e
   rw [bo1] at e
   by_cases hyn:y=n
   ·subst hyn
    simp only [bo8,Option.getD_some] at e
    rw [h0]; exact e
   ·have:(y == n)=false:=beq_eq_false_iff_ne.mpr hyn
    simp only [this] at e
    exact hc y d e
theorem uZ {cells:List (Str × Addr)}:∀ (ns:List (Str × NameKind)) (cs:List (Str × Addr)) {x:Str},((x,NameKind.free) ∈ ns ∨ ∃ c,cs.lookup x=some c)->∃ c,(dU cells ns cs).lookup x=some c
 | [],cs,x,h=>by
  rcases h with h | h
  ·simp at h
  ·exact h
 | (n,k) :: r,cs,x,h=>by
  unfold dU
  refine uZ r _ ?_
  rcases h with h | ⟨c,h⟩
  ·rcases bh1.mp h with e | e
   ·cases e
    exact .inr ⟨_,by simp [bo1]; rfl⟩
   ·exact .inl e
  ·right
   cases hk:(k == NameKind.free) with
   | false=>exact⟨c,by simpa [hk] using h⟩
   | true=>
    simp only [if_true]
    rw [bo1]
    by_cases hxn:(x == n)=true
    ·simp only [hxn]; exact⟨_,rfl⟩
    ·simp only [Bool.eq_false_iff.mpr hxn]; exact⟨c,h⟩
theorem qF {env:Env}:∀ {names:List (Str × NameKind)}{x:Str}{k:NameKind},(names.map fun (n,k)=>if (k == NameKind.free && env.scope.kind == .function && env.kindOf n == some .cell) then (n,NameKind.cell) else (n,k)).lookup x=some k->
  names.lookup x=some k ∨ (names.lookup x=some .free/\k = .cell)
 | [],_,_,h=>by simp at h
 | (n,q) :: r,x,k,h=>by
  have ih:=@qF env r x k
  rw [bn6] at h
  by_cases hx:(x == n)=true
  ·have e:x=n:=by simpa using hx
   subst e
   by_cases hc:(q == NameKind.free && env.scope.kind == .function && env.kindOf x == some .cell)=true
   ·simp only [hc,if_true,bo1,bo8] at h
    have hq:q = .free:=by simp at hc; exact hc.1.1
    exact .inr ⟨by simp [bo1,hq],(bj9 h).symm⟩
   ·simp only [hc,bj4,bo4,bo1,bo8] at h
    exact .inl (by simp [bo1]; exact bj9 h)
  ·have hx':(x == n)=false:=Bool.eq_false_iff.mpr hx
   have h':(r.map fun (n,k)=>if (k == NameKind.free && env.scope.kind == .function && env.kindOf n == some .cell) then (n,NameKind.cell) else (n,k)).lookup x=some k:=by
    by_cases hc:(q == NameKind.free && env.scope.kind == .function && env.kindOf n == some .cell)=true
    ·simp only [hc,if_true,bo1,hx'] at h; exact h
    ·simp only [hc,bj4,bo4,bo1,hx'] at h; exact h
   simp only [bo1,hx']
   exact ih h'
def eZ (fr:List (Option Nat)) (σ:St):St:=fr.map fun o=>o.bind fun j=>(σ[j]?).join
def Wk (σ₁ σ₂:St):Prop:=σ₁.length=σ₂.length/\∀ (i:Nat) v,σ₁[i]? = some (some v)->σ₂[i]? = some (some v)
theorem Wk.refl (σ:St):Wk σ σ:=⟨rfl,fun _ _ h=>h⟩
theorem Wk.set {σ τ:St}{i:Nat}{v:V} (h:Wk σ τ) (hi:σ[i]? = some none):Wk σ (τ.set i (some v)):=by
 refine⟨by rw [bk9]; exact h.1,fun j w e=>?_⟩
 by_cases hj:j=i
 ·subst hj; rw [hi] at e; cases e
 ·rw [bj6 (Ne.symm hj)]; exact h.2 j w e
theorem j9:∀ (ns:List (Str × NameKind)) (n:Nat) (cs:List (Str × Addr)),cellsFrom n ns cs=cellsFrom n ns [] ++ cs
 | [],_,_=>rfl
 | (x,k) :: r,n,cs=>by
  unfold cellsFrom
  split
  ·rw [j9 r (n+1) ((x,n) :: cs),j9 r (n+1) [(x,n)]]; simp
  ·exact j9 r n cs
theorem v3:∀ (ns:List (Str × NameKind)) (n:Nat) {x:Str}{c:Addr},(x,c) ∈ cellsFrom n ns []->(x,NameKind.cell) ∈ ns
 | [],_,_,_,h=>by simp [cellsFrom] at h
 | (y,k) :: r,n,x,c,h=>by
  unfold cellsFrom at h
  split at h
  ·rename_i hk
   rw [j9] at h
   rcases bk0.mp h with z | z
   ·exact bi9 _ (v3 r _ z)
   ·rw [bh8] at z
    cases z
    have:k = .cell:=by simpa using hk
    rw [this]; exact bi4
  ·exact bi9 _ (v3 r _ h)
theorem qG:∀ (ns:List (Str × NameKind)) (n:Nat) {x:Str},(x,NameKind.cell) ∈ ns->∃ c,(x,c) ∈ cellsFrom n ns []
 | (y,k) :: r,n,x,h=>by
  unfold cellsFrom
  rcases bh1.mp h with z | z
  ·cases z
   rw [if_pos (by rfl),j9]
   exact⟨n,bk6 _ (by simp)⟩
  ·split
   ·obtain ⟨c,hc⟩:=qG r (n+1) z
    rw [j9]
    exact⟨c,bp3 _ hc⟩
   ·exact qG r n z
theorem v4 {α:Type}:∀ {l:List (Str × α)}{x:Str}{c:α},(x,c) ∈ l->∃ d,l.lookup x=some d
 | (y,v) :: r,x,c,h=>by
  rw [bo1]
  cases hb:x == y with
  | true=>exact⟨v,rfl⟩
  | false=>
   rcases bh1.mp h with z | z
   ·cases z; simp at hb
   ·exact v4 z
theorem qH {α:Type}{x:Str}:∀ (l r:List (Str × α)),(l ++ r).lookup x=(match l.lookup x with | some v=>some v | none=>r.lookup x)
 | [],_=>rfl
 | (y,v) :: l,r=>by
  rw [List.cons_append,bo1,bo1]
  cases hb:x == y with
  | true=>rfl
  | false=>exact qH l r
def gE (X:Cx) (scope:Scope) (C:Addr):List (Str × Addr):=cellsFrom (C+1) scope.names (dU X.env.cells scope.names [])
theorem kR {X:Cx}{scope:Scope}{C:Addr}{x:Str}{c:Addr} (h:(gE X scope C).lookup x=some c) :
  (x,c) ∈ cellsFrom (C+1) scope.names [] ∨ ((∀ d,(x,d) ∉ cellsFrom (C+1) scope.names [])/\(dU X.env.cells scope.names []).lookup x=some c):=by
 unfold gE at h
 rw [j9,qH] at h
 cases e:(cellsFrom (C+1) scope.names []).lookup x with
 | some v=>rw [e] at h; cases h; exact .inl (bm6 e)
 | none=>
  rw [e] at h
  refine .inr ⟨fun d hd=>?_,h⟩
  obtain ⟨d',z⟩:=v4 hd
  rw [e] at z; cases z
theorem at3 {X:Cx}{scope:Scope}{C:Addr}{x:Str}{c:Addr} (hn:(x,NameKind.cell) ∉ scope.names) (h:(dU X.env.cells scope.names []).lookup x=some c):(gE X scope C).lookup x=some c:=by
 unfold gE
 rw [j9,qH]
 cases e:(cellsFrom (C+1) scope.names []).lookup x with
 | some v=>exact absurd (v3 _ _ (bm6 e)) hn
 | none=>exact h
theorem E7 {X:Cx}{scope:Scope}{C:Addr}{x:Str} (h:(x,NameKind.cell) ∈ scope.names ∨ ∃ c,(dU X.env.cells scope.names []).lookup x=some c):∃ c,(gE X scope C).lookup x=some c:=by
 unfold gE
 rw [j9,qH]
 cases e:(cellsFrom (C+1) scope.names []).lookup x with
 | some v=>exact⟨v,rfl⟩
 | none=>
  rcases h with h | h
  ·obtain ⟨c,hc⟩:=qG scope.names (C+1) h
   obtain ⟨d,hd⟩:=v4 hc
   rw [e] at hd; cases hd
  ·exact h
def cV (X:Cx) (scope:Scope) (N:List Str) (s:Shared) (H:Hp) (C:Addr) (fp:List Addr) (E:Value->Shared->Prop):Cx:=
 { X with N:=N,s₀:=s,H₀:=H,env:=compEnvC scope (gE X scope C) C X.env,outer:=X.stack,ex:=fp,fn:=fun x=>scope.names.lookup x == some .cell,pn:=[],xe:=E }
structure dE (X:Cx) (scope:Scope) (N:List Str) (fr:List (Option Nat)):Prop where
 kind:scope.kind = .function
 own:∀ y ∈ scope.names,y.2 = .cell->scope.names.lookup y.1=some .cell
 names:∀ y ∈ scope.names,y.2 = .local->scope.names.lookup y.1=some .local
 free:∀ y ∈ scope.names,y.2 = .free->X.env.scope.names.lookup y.1=some .cell ∨ X.env.scope.names.lookup y.1=some .free
 len:fr.length=N.length
 from_:∀ (i j:Nat),fr[i]? = some (some j)->∃ x,N[i]? = some x/\X.N[j]? = some x/\scope.names.lookup x=some .free
section
variable {X : Cx} {pins : List (Addr × Obj)} {σ : St} {H : Hp} {s : Shared} {scope : Scope} {N : List Str} {fr : List (Option Nat)}
theorem dE.cells (S:dE X scope N fr) (I:a8 X pins σ H s):∀ y ∈ scope.names,y.2 = .free->∃ c,X.env.cells.lookup y.1=some c:=fun y hy hk=>I.ok.has y.1 (S.free y hy hk)
theorem at4 {C D:Addr}{fp:List Addr}{E:Value->Shared->Prop}{h1:Heap}{tk:Nat}{m:Str->Option Value} (S:dE X scope N fr) (I:a8 X pins σ H s)
  (hf:∀ b ∈ fp,gA X pins H b) (hfl:∀ b ∈ fp,b < s.heap.objs.size) (hD:s.heap.objs.size<=D) (hC:s.heap.objs.size<=C) (hDC:D < C)
  (old:∀ b o,s.heap.get? b=some o->h1.get? b=some o) (hns:h1.Ns C m) (hacc:h1.get? D=some { cls:=.type "list",data:=.seq #[] 0 }) (hco:CellsOk h1 (C+1) (cellsFrom (C+1) scope.names [])) :
  a8 (cV X scope N s H C fp E) [] (eZ fr σ) (upd H D (.lst [])) { s with heap:=h1,toks:=tk }:=by
 have hHD:H D=none:=I.hok.fresh hD
 have cl:=S.cells I
 have cs:∀ {x:Str}{c:Addr},(dU X.env.cells scope.names []).lookup x=some c->X.env.cells.lookup x=some c:=fun {x c} h=>qE scope.names [] cl (fun _ _ z=>by simp at z) h
 have clt:∀ {x:Str}{c:Addr},X.env.cells.lookup x=some c->c < s.heap.objs.size:=fun {x c} h=>by obtain ⟨v,z⟩:=I.cell x c h; exact z.lt
 have nge:∀ {x:Str}{c:Addr},(x,c) ∈ cellsFrom (C+1) scope.names []->C < c:=fun {x c} h=>(hco.empty x c h).2
 refine⟨⟨I.ok.mod,?_,I.ok.glob,I.ok.blt,hC,?_,?_,?_,I.ok.hd,I.ok.frames,.inl rfl,?_,I.bs,bk3 I.ok.bsz I.sz,?_,?_,I.stack,I.stkFree⟩,rfl,I.bare,Un.laid old hD hHD,⟨m,hns,?_⟩,?_,?_,?_,fun p hp=>absurd (show p ∈ ([]:List (Addr × Obj)) from hp) (by simp),?_,?_⟩
 ·exact S.kind
 ·intro x y c h1 h2
  rcases kR h1 with a | ⟨_,a⟩ <;> rcases kR h2 with b | ⟨_,b⟩
  ·exact name_of_addr hco.apart a b
  ·exact absurd (bi2 (Nat.lt_trans (nge a) (clt (cs b))) hC) (bo2 _)
  ·exact absurd (bi2 (Nat.lt_trans (nge b) (clt (cs a))) hC) (bo2 _)
  ·exact I.ok.inj x y c (cs a) (cs b)
 ·intro x hx
  have hx:(relabel scope X.env).names.lookup x=some .cell ∨ (relabel scope X.env).names.lookup x=some .free:=hx
  have fin:(x,NameKind.free) ∈ scope.names->∃ c,(gE X scope C).lookup x=some c:=fun z=>E7 (.inr (uZ scope.names [] (.inl z)))
  rcases hx with hx | hx
  ·rcases qF hx with z | z
   ·exact E7 (.inl (bm6 z))
   ·exact fin (bm6 z.1)
  ·rcases qF hx with z | z
   ·exact fin (bm6 z)
   ·exact absurd z.2 (by decide)
 ·intro x c hx h
  have hx:(scope.names.lookup x == some NameKind.cell)=true:=hx
  have hx:scope.names.lookup x=some .cell:=by simpa using hx
  rcases kR h with a | ⟨a,_⟩
  ·exact bk3 hC (bm2 (nge a))
  ·obtain ⟨d,hd⟩:=qG scope.names (C+1) (bm6 hx)
   exact absurd hd (a d)
 ·intro b hb
  refine⟨bk4 (bi2 (hfl b hb) hC),fun x c e=>?_⟩
  rcases kR e with a | ⟨_,a⟩
  ·exact bp6 (Nat.lt_trans (bi2 (hfl b hb) hC) (nge a))
  ·exact (hf b hb).2.2.2.2.1 x c (cs a)
 ·intro b o e hb
  rcases (hf b hb).2.2.2.1 with z | z
  ·exact I.ok.noex b o e z
  ·exact absurd (bi2 (bi1 e) (bk3 I.ok.bsz z)) (bo2 _)
 ·intro b hb z
  rcases bh1.mp (I.stkSub b z) with e | e
  ·exact (hf b hb).2.1 e
  ·exact (hf b hb).2.2.1 e
 ·intro i x v e1 e2 e3
  have e2:(fr.map fun o=>o.bind fun j=>(σ[j]?).join)[i]? = some (some v):=e2
  rw [bh9] at e2
  cases ef:fr[i]? with
  | none=>rw [ef] at e2; cases e2
  | some o=>
   rw [ef] at e2
   cases o with
   | none=>cases e2
   | some j=>
    have e2:some ((σ[j]?).join)=some (some v):=e2
    have ej:σ[j]? = some (some v):=by
     cases q:σ[j]? with
     | none=>rw [q] at e2; cases e2
     | some w=>rw [q] at e2; cases w with
      | none=>cases e2
      | some w=>cases e2; rfl
    obtain ⟨y,a1,a2,a4⟩:=S.from_ i j ef
    have e1:N[i]? = some x:=e1
    rw [e1] at a1
    cases a1
    have a3:(x,NameKind.free) ∈ scope.names:=bm6 a4
    have vis:fZ X.env.scope x:=(S.free _ a3 rfl).elim (fun z=>.inr (.inl z)) fun z=>.inr (.inr z)
    obtain ⟨m0,hn0,hl0⟩:=I.loc
    obtain ⟨u,r,l⟩:=hl0 j x v a2 ej vis
    refine⟨u,r,.inr ⟨?_,?_⟩⟩
    ·have e3:(relabel scope X.env).names.lookup x=some .local ∨ (relabel scope X.env).names.lookup x=some .cell ∨ (relabel scope X.env).names.lookup x=some .free:=e3
     rcases e3 with z | z | z
     ·rcases qF z with y | y
      ·rw [a4] at y; cases y
      ·exact absurd y.2 (by decide)
     ·exact .inl z
     ·exact .inr z
    ·obtain ⟨c,hc⟩:=uZ (cells:=X.env.cells) scope.names [] (x:=x) (.inl a3)
     refine⟨c,at3 (fun z=>by have:=S.own _ z rfl; rw [a4] at this; cases this) hc,?_⟩
     have hc':=cs hc
     have S1:=S.free (x,.free) a3 rfl
     rcases l with ⟨k,_⟩ | ⟨_,c2,hc2,z⟩
     ·have k:X.env.scope.names.lookup x=some .local:=k
      rcases S1 with q | q <;> (have q:X.env.scope.names.lookup x=_:=q; rw [k] at q; cases q)
     ·rw [hc'] at hc2; cases hc2
      obtain ⟨oc,ho,hd⟩:=z
      exact⟨oc,old c oc ho,hd⟩
 ·intro x c e
  rcases kR e with a | ⟨_,a⟩
  ·exact⟨_,(hco.empty x c a).1⟩
  ·obtain ⟨v,oc,ho,hd⟩:=I.cell x c (cs a)
   exact⟨v,oc,old c oc ho,hd⟩
 ·show upd H D (.lst []) C=none
  rw [aR (bp6 hDC)]; exact I.hok.fresh hC
 ·intro x c e
  show upd H D (.lst []) c=none
  rcases kR e with a | ⟨_,a⟩
  ·rw [aR (bp6 (Nat.lt_trans hDC (nge a)))]; exact I.hok.fresh (bk3 hC (bm2 (nge a)))
  ·have q:=cs a
   rw [aR (bk4 (bi2 (clt q) hD))]
   exact I.freeC x c q
 ·exact I.hok.laid old hD ⟨bl6 _,[],0,.nil,hacc⟩
 ·show (eZ fr σ).length=N.length
  unfold eZ; rw [bh4]; exact S.len
end
def kS (X:Cx) (ifs:List Expr) (t:TT):Prop:=
 ∀ (pins:List (Addr × Obj)) (s:Shared) (σ:St) (H:Hp) (Q:Bool->Hp->Prop),a8 X pins σ H s->t σ H Q->
  wpAny (model X.prog X.w) X.A (forIn ifs true fun c r=>if r=true then do let ok <- isTrue c X.env (eval c X.env); pure (ForInStep.yield ok) else pure (ForInStep.yield r)) (TP X pins σ Q) X.xe s
def v7:TT:=fun _ H Q=>Q true H
theorem nX {X:Cx}:kS X [] v7:=fun _ _ _ H _ I h=>wpAny_tests_nil ⟨H,I,h⟩
theorem at5 {X:Cx}{c:Expr}{t:TT} (h:PT X c t):kS X [c] t:=fun pins s σ H Q I hq=>wpAny_tests_one (h pins s σ H Q I hq)
section
variable {prog : Program} {w : World} {A : Around}
def v8 (prog:Program) (w:World) (A:Around) (elt tg:Expr) (ifs:List Expr) (it acc:Value) (env:Env) (lost:Value->Shared->Prop) (stop next:Shared->Prop) (s:Shared):Prop:=
 let M:=model prog w
 let tests:Sem Bool:=forIn ifs true fun c r=>if r=true then do let ok <- isTrue c env (eval c env); pure (ForInStep.yield ok) else pure (ForInStep.yield r)
 let put:Shared->Prop:=wpAny M A (eval elt env) (fun x=>wpAny M A (call (.builtin "list.append") [acc,x]) (fun _=>next) lost) lost
 let taken:Value->Shared->Prop:=fun v=>wpAny M A (letOwnedTupleGo tg it v) (fun _=>wpAny M A (assign tg env v) (fun _=>wpAny M A tests (fun ok s'=>if ok=true then put s' else next s') lost) lost) lost
 wpAny M A (pyNext it) (fun r s'=>match r with
  | none=>stop s'
  | some v=>taken v s') lost s
theorem at7 {R:Result->Shared->Prop}{s:Shared}{elt tg iter:Expr}{ifs:List Expr}{scope:Scope}{pos:Pos}{it acc:Value}{env:Env} (I:Nat->Shared->Prop)
  (turn:∀ n s,I n s->v8 prog w A elt tg ifs it acc env (notedBy (model prog w) A env fun e=>R (.error e)) (R (.ok .next)) (fun s'=>∃ m,m < n/\I m s') s) (n:Nat) (h:I n s) :
  codeAny (model prog w) A (.compLoop (.ListComp elt [⟨tg,iter,ifs,0⟩] scope pos) 0 it acc env) R s:=by
 apply codeAny_loop rfl I _ n h
 intro k s1 h1
 change wpAny _ A ((compTurn _ 0 it acc env).onRaise (fun x=>do noteFrame x env; theTreesLotGoes x)) _ _ s1
 apply wpAny_noted
 rw [compTurn_list]
 have t:=turn k s1 h1
 unfold v8 at t
 apply bg5
 apply wpAny_standAt
 apply bg5
 refine bp5 t (fun r s2 h2=>?_) fun _ _ z=>z
 cases r with
 | none=>exact bg9 h2
 | some v=>
  apply bg5
  refine bp5 h2 (fun _ s3 h3=>?_) fun _ _ z=>z
  apply bg5
  refine bp5 h3 (fun _ s4 h4=>?_) fun _ _ z=>z
  apply bg5
  refine bp5 h4 (fun ok s5 h5=>?_) fun _ _ z=>z
  cases ok with
  | false=>exact bg9 ⟨rfl,h5⟩
  | true=>
   apply bg5
   apply bg5
   refine bp5 h5 (fun x s6 h6=>?_) fun _ _ z=>z
   apply bg5
   exact bp5 h6 (fun _ s7 h7=>bg9 (bg9 ⟨rfl,h7⟩)) fun _ _ z=>z
end
def nY (g:TG) (tc:TT) (te:TE) (σ0:St) (J:It) (D:Addr) (Q:VK) (W:Nat->Nat->List V->Hp->Prop):Prop:=
 ∀ i m acc H',W i m acc H'->H' D=some (.lst acc)/\((J.stop i H'/\Q (.ref D) H') ∨ (J.go i H'/\∀ x H2,J.yld i H' x H2->g x σ0 H2 fun σ2 H3=>Wk σ0 σ2/\tc σ2 H3 fun b H4=>
  if b=true then te σ2 H4 fun v H5=>H5 D=some (.lst acc)/\acc.length < sizeLine/\∃ m',m' < m/\W (i+1) m' (acc ++ [v]) (upd H5 D (.lst (acc ++ [v]))) else ∃ m',m' < m/\W (i+1) m' acc H4))
def E8 (wi:TI) (fr:List (Option Nat)) (g:TG) (tc:TT) (te:TE):TE:=fun σ H Q=>wi σ H fun J H1=>∀ D,H1 D=none->
 ∃ W:Nat->Nat->List V->Hp->Prop,(∃ m,W 0 m [] (upd H1 D (.lst [])))/\nY g tc te (eZ fr σ) J D Q W
section
variable {M : Model} {A : Around} {E : Value → Shared → Prop} {s : Shared}
theorem at8 {scope:Scope}{globals:Addr}{cl:List (Str × Addr)}{qual:Str}{func:Option Addr}{code:Value}{builtins:Addr}{outer:Env}{Q:Env->Shared->Prop}
  (hQ:∀ h',h'.Ns s.heap.objs.size (fun _=>none)->(∀ b o,s.heap.get? b=some o->h'.get? b=some o)->CellsOk h' (s.heap.objs.size+1) (cellsFrom (s.heap.objs.size+1) scope.names [])->
   Q (newEnv scope s.heap.objs.size globals (cellsFrom (s.heap.objs.size+1) scope.names cl) qual func code (some outer) builtins) { s with heap:=h' }) :
  wpAny M A (newFunctionEnv scope globals cl [] qual func code (some outer) builtins) Q E s:=by
 simp only [newFunctionEnv,Option.isSome_some,if_true]
 refine bg5 (wpAny_alloc ?_)
 refine bg5 (wpAny_layCells _ (fun name kind cells=>by cases hkc:kind == NameKind.cell <;> simp [hkc]) _ _ _ _ ?_)
 have ok:=cellsFrom_ok scope.names (s.heap.push { cls:=.type "dict",data:=.dict #[] }) (s.heap.objs.size+1) [] ⟨fun _ _ hm=>(nomatch hm),bw4⟩ (by rw [bq4]; exact bh0 _)
 rw [bq4] at ok
 rw [show ({ s with heap:=s.heap.push { cls:=.type "dict",data:=.dict #[] } }:Shared).heap.objs.size=s.heap.objs.size+1 from bq4 ..]
 rw [List.forIn_nil]
 refine bg5 (bg9 (bg9 (hQ _ ((Heap.Ns.new s.heap (.type "dict")).keeps (pushCells_keeps _ _)) (fun b o e=>pushCells_keeps _ _ b o (bg6 _ e)) ok)))
end
section
variable {X : Cx} {pins : List (Addr × Obj)} {σ : St} {H : Hp} {s : Shared} {scope : Scope} {N : List Str} {fr : List (Option Nat)} {tg iter elt : Expr} {ifs : List Expr} {pos : Pos} {wi : TI} {g : TG} {tc : TT} {te : TE}
structure nZ (X:Cx) (scope:Scope) (N:List Str) (tg:Expr) (ifs:List Expr) (elt:Expr) (s:Shared) (H:Hp) (g:TG) (tc:TT) (te:TE):Prop where
 tg:∀ (C:Addr) (fp:List Addr),PG (cV X scope N s H C fp fun _ _=>False) tg g
 ifs:∀ (C:Addr) (fp:List Addr),kS (cV X scope N s H C fp fun _ _=>False) ifs tc
 elt:∀ (C:Addr) (fp:List Addr),PE (cV X scope N s H C fp fun _ _=>False) elt te
structure qI (X:Cx) (scope:Scope) (N:List Str) (tg:Expr) (ifs:List Expr) (elt:Expr) (g:TG) (tc:TT) (te:TE):Prop where
 tg:∀ (s:Shared) (H:Hp) (C:Addr) (fp:List Addr),PG (cV X scope N s H C fp fun _ _=>False) tg g
 ifs:∀ (s:Shared) (H:Hp) (C:Addr) (fp:List Addr),kS (cV X scope N s H C fp fun _ _=>False) ifs tc
 elt:∀ (s:Shared) (H:Hp) (C:Addr) (fp:List Addr),PE (cV X scope N s H C fp fun _ _=>False) elt te
theorem qI.at (B:qI X scope N tg ifs elt g tc te) (s:Shared) (H:Hp):nZ X scope N tg ifs elt s H g tc te:=⟨B.tg s H,B.ifs s H,B.elt s H⟩
theorem at9 {C:Addr}{fp:List Addr}{E:Value->Shared->Prop}{pins':List (Addr × Obj)}{σ':St}{H':Hp}{s':Shared} (I:a8 X pins σ H s) (hf:∀ b ∈ fp,gA X pins H b) (I':a8 (cV X scope N s H C fp E) pins' σ' H' s'):a8 X pins σ H' s':=
 I.call' (ch:=fp) I'.os I'.base I'.hok I'.bare fun b hb=>⟨(hf b hb).2.2.2.1,(hf b hb).2.1,(hf b hb).2.2.2.2.1,(hf b hb).2.2.2.2.2⟩
theorem qJ {Rr:Value->Addr->Result->Shared->Prop}{J:It}{fp:List Addr}{it:Addr}{tn:Nat->Heap->Prop}{Q:VK}
  (hc:X.calm=true) (S:dE X scope N fr) (B:nZ X scope N tg ifs elt s H g tc te) (I:a8 X pins σ H s) (T:gW X.prog X.w X.K tg J fp it tn) (hst:tn 0 s.heap) (hf:∀ b ∈ fp,gA X pins H b)
  (h:∀ D,H D=none->∃ W:Nat->Nat->List V->Hp->Prop,(∃ m,W 0 m [] (upd H D (.lst [])))/\nY g tc te (eZ fr σ) J D Q W)
  (hend:∀ (D C:Addr) (s':Shared) (H':Hp) (m:Str->Option Value),s.heap.objs.size<=C->s.heap.objs.size<=D->a8 X pins σ H' s'->s'.heap.Ns C m->H' C=none->Q (.ref D) H'->Rr (.ref D) C (.ok .next) s') :
  wpAny (model X.prog X.w) X.A (newList []) (fun acc s₃=>wpAny (model X.prog X.w) X.A (newFunctionEnv scope X.env.globals (dU X.env.cells scope.names []) [] X.env.qual none .none (some X.env)) (fun cenv s₄=>
   codeAny (model X.prog X.w) X.A (.compStart (.ListComp elt [⟨tg,iter,ifs,0⟩] scope pos) 0 (.ref it) acc { cenv with scope:=relabel scope X.env }) (Rr acc cenv.locals) s₄) X.xe s₃) X.xe s:=by
 refine bn1 (at8 (fun h₁ hns₁ keep₁ hco₁=>?_))
 dsimp only at hns₁ keep₁ hco₁ ⊢
 generalize hH2:s.heap.push { cls:=.type "list",dict:=none,data:=.seq ([]:List Value).toArray }=H2 at hns₁ keep₁ hco₁ ⊢
 have hC:H2.objs.size=s.heap.objs.size+1:=by rw [<- hH2,bq4]
 have hDC:s.heap.objs.size < H2.objs.size:=by rw [hC]; exact Nat.lt_succ_self _
 have hCle:s.heap.objs.size<=H2.objs.size:=by rw [hC]; exact Nat.le_succ _
 have old:∀ b o,s.heap.get? b=some o->h₁.get? b=some o:=fun b o e=>keep₁ b o (hH2 ▸ bg6 _ e)
 have hacc:h₁.get? s.heap.objs.size=some { cls:=.type "list",data:=.seq #[] 0 }:=keep₁ _ _ (hH2 ▸ bi0 _ rfl)
 have hfl:∀ b ∈ fp,b < s.heap.objs.size:=fun b hb=>by obtain ⟨o,e,_⟩:=T.obj _ _ hst b hb; exact bi1 e
 obtain ⟨W,⟨m0,w0⟩,turn⟩:=h s.heap.objs.size (I.hok.fresh (bh0 _))
 have st1:tn 0 h₁:=T.keep _ _ _ hst fun b _ o e=>old b o e
 have fr0:∀ b ∈ fp,upd H s.heap.objs.size (.lst []) b=none:=fun b hb=>by rw [aR (bk4 (hfl b hb))]; exact (hf b hb).1
 have stat:∀ {H':Hp},(∀ b ∈ fp,H' b=none)->∀ b ∈ fp,gA (cV X scope N s H H2.objs.size fp fun _ _=>False) [] H' b:=fun {H'} hn b hb=>by
  have f:=hf b hb
  refine⟨hn b hb,bk4 (bi2 (hfl b hb) hCle),fun z=>?_,.inl hb,fun x c e=>(kR e).elim (fun z=>bp6 (Nat.lt_trans (bi2 (hfl b hb) hCle) (hco₁.empty x c z).2)) fun z=>f.2.2.2.2.1 x c (qE scope.names [] (S.cells I) (fun _ _ z=>by simp at z) z.2),fun p hp=>absurd (show p ∈ ([]:List (Addr × Obj)) from hp) (by simp)⟩
  rcases bh1.mp (I.stkSub b z) with e | e
  ·exact f.2.1 e
  ·exact f.2.2.1 e
 generalize hX:cV X scope N s H H2.objs.size fp (fun _ _=>False)=Y at stat
 have I0:a8 Y [] (eZ fr σ) (upd H s.heap.objs.size (.lst [])) { s with heap:=h₁ }:=hX ▸ at4 S I hf hfl (bh0 _) hCle hDC old hns₁ hacc hco₁
 have bt:PG Y tg g:=hX ▸ B.tg H2.objs.size fp
 have bi:kS Y ifs tc:=hX ▸ B.ifs H2.objs.size fp
 have be:PE Y elt te:=hX ▸ B.elt H2.objs.size fp
 have eP:Y.prog=X.prog:=by rw [<- hX]; rfl
 have ew:Y.w=X.w:=by rw [<- hX]; rfl
 have eK:Y.K=X.K:=by rw [<- hX]; rfl
 have eA:Y.A=X.A:=by rw [<- hX]; rfl
 have eE:Y.env=compEnvC scope (gE X scope H2.objs.size) H2.objs.size X.env:=by rw [<- hX]; rfl
 have eX:Y.xe=fun _ _=>False:=by rw [<- hX]; rfl
 have ec:Y.calm=true:=by rw [<- hX]; exact hc
 have never:∀ {E:Value->Shared->Prop} (e:Value) (s':Shared),Y.xe e s'->E e s':=fun {E} e s' z=>by rw [eX] at z; exact z.elim
 have out:∀ {pins' σ' H' s'},a8 Y pins' σ' H' s'->a8 X pins σ H' s':=fun {_ _ _ _} I'=>at9 (C:=H2.objs.size) (E:=fun _ _=>False) (scope:=scope) (N:=N) I hf (hX ▸ I')
 have loop:codeAny (model X.prog X.w) X.A (.compLoop (.ListComp elt [⟨tg,iter,ifs,0⟩] scope pos) 0 (.ref it) (.ref s.heap.objs.size) (compEnvC scope (gE X scope H2.objs.size) H2.objs.size X.env))
   (Rr (.ref s.heap.objs.size) H2.objs.size) { s with heap:=h₁ }:=by
  refine at7 (fun n s'=>∃ i acc H',a8 Y [] (eZ fr σ) H' s'/\tn i s'.heap/\(∀ b ∈ fp,H' b=none)/\W i n acc H') ?_ m0 ⟨0,[],_,I0,st1,fr0,w0⟩
  rintro n s3 ⟨i,acc,H3,I3,st3,fr3,w3⟩
  unfold v8
  dsimp only
  obtain ⟨hD3,step⟩:=turn i n acc H3 w3
  rcases step with ⟨stop,qn⟩ | ⟨go,step⟩
  ·have z:=T.done Y eP ew eK ec i [] s3 _ H3 (notedBy (model X.prog X.w) X.A (compEnvC scope (gE X scope H2.objs.size) H2.objs.size X.env) fun e s'=>Rr (.ref s.heap.objs.size) H2.objs.size (.error e) s') I3 (stat fr3) st3 stop
   rw [eA] at z
   refine aO z fun r s4 ⟨hr,I4⟩=>?_
   subst hr
   obtain ⟨m4,hn4,_⟩:=I4.loc
   rw [eE] at hn4
   have f4:=I4.free
   rw [eE] at f4
   exact hend _ _ s4 H3 m4 hCle (bh0 _) (out I4) hn4 f4 qn
  ·have z:=T.item Y eP ew eK ec i [] s3 _ H3 (notedBy (model X.prog X.w) X.A (compEnvC scope (gE X scope H2.objs.size) H2.objs.size X.env) fun e s'=>Rr (.ref s.heap.objs.size) H2.objs.size (.error e) s') I3 (stat fr3) st3 go
   rw [eA] at z
   refine aO z fun r s4 ⟨u,hr,h4⟩=>?_
   subst hr
   refine aO h4 fun _ s5 ⟨x,H5,I5,r5,y5,st5,fr5⟩=>?_
   have I5':=I5.pinned (stat fr5) (T.obj _ _ st5)
   have q1:=bt _ s5 _ H5 x u _ I5' r5 (step x H5 y5)
   rw [eP,ew,eA,eE] at q1
   refine bp5 q1 (fun _ s6 ⟨σ6,H6,I6,wk,q6⟩=>?_) never
   have q2:=bi _ s6 σ6 H6 _ I6 q6
   rw [eP,ew,eA,eE] at q2
   refine bp5 q2 (fun b s7 ⟨H7,I7,q7⟩=>?_) never
   have again:∀ {H8:Hp}{s8:Shared}{acc':List V},a8 Y ([] ++ nG fp s5.heap) σ6 H8 s8->(∃ m',m' < n/\W (i+1) m' acc' H8)->∃ m,m < n/\∃ i acc H',a8 Y [] (eZ fr σ) H' s8/\tn i s8.heap/\(∀ b ∈ fp,H' b=none)/\W i m acc H':=fun {H8 s8 acc'} I8 n8=>by
    obtain ⟨m',hm,w8⟩:=n8
    refine⟨m',hm,i+1,acc',H8,(I8.unpinned).weak wk.1 wk.2,T.keep _ _ _ st5 fun b hb o e=>(I8.pin (b,o) (bk6 _ (bk6 _ (pS hb e)))).1,fun b hb=>?_,w8⟩
    obtain ⟨o,e,d⟩:=T.obj _ _ st5 b hb
    exact (I8.pin (b,o) (bk6 _ (bk6 _ (pS hb e)))).2.1
   cases b with
   | false=>
    rw [if_neg bi6] at q7 ⊢
    exact again I7 q7
   | true=>
    rw [if_pos rfl] at q7 ⊢
    have q3:=be _ s7 σ6 H7 _ I7 q7
    rw [eP,ew,eA,eE] at q3
    refine bp5 q3 (fun v s8 ⟨y,H8,I8,r8,hD8,hz8,q8⟩=>?_) never
    have q4:=lZ _ s8 σ6 H8 (.ref s.heap.objs.size) [y] (.ref s.heap.objs.size) [v] (fun _ H9=>∃ m',m' < n/\W (i+1) m' (acc ++ [y]) H9) I8 rfl (.cons r8 .nil) ⟨_,_,_,rfl,rfl,hD8,hz8,q8⟩
    rw [eP,ew,eA] at q4
    exact bp5 q4 (fun _ s9 ⟨_,H9,I9,_,q9⟩=>again I9 q9) never
 exact codeAny_compStart_list loop (T.self _ 0 _ _ _ st1 loop)
end
section
variable {X : Cx} {scope : Scope} {N : List Str} {fr : List (Option Nat)} {tg iter elt : Expr} {ifs : List Expr} {pos : Pos} {wi : TI} {g : TG} {tc : TT} {te : TE}
theorem a8.drop {pins:List (Addr × Obj)}{σ:St}{H H':Hp}{s s':Shared}{C:Addr}{h':Heap} (I0:a8 X pins σ H s) (hC:s.heap.objs.size<=C) {σ':St} (I:a8 X pins σ' H' s') (hn:H' C=none) (sb:Heap.SameBut C s'.heap h'):a8 X pins σ' H' { s' with heap:=h' }:=by
 refine I.turned (t':=s'.toks) (it:=C) (fun b o hb e=>(sb.2 b hb).trans e) hn (bp6 (bi2 I0.lt hC)) (.inr (bk3 I0.sz hC)) (fun x c e z=>?_) fun p hp z=>?_
 ·obtain ⟨v,q⟩:=I0.cell x c e
  exact absurd (bi2 q.lt (by rw [z]; exact hC)) (bo2 _)
 ·exact absurd (bi2 (bi1 (I0.pin p hp).1) (by rw [z]; exact hC)) (bo2 _)
theorem E9 (hc:X.calm=true) (S:dE X scope N fr) (hi:PI X tg iter wi) (B:qI X scope N tg ifs elt g tc te)
  (hs:∀ x,foldedSetIterable iter X.env x=pure x:=by intro _; rfl):PE X (.ListComp elt [⟨tg,iter,ifs,0⟩] scope pos) (E8 wi fr g tc te):=by
 intro pins s σ H Q I h
 rw [eval_ListComp]
 refine wpAny_comprehension_free (use:=none) rfl hs (qD (S.cells I)) S.kind S.names (aO (hi pins s σ H _ I h) fun v s1 h1=>aO h1 fun itv s2 h2=>?_)
 obtain ⟨it,fp,tn,J,H2,e,I2,T,st2,f2,hW⟩:=h2
 subst e
 refine qJ (Rr:=fun acc C=>compPost (model X.prog X.w) X.A X.xe none (EP X pins σ Q) acc C) hc S (B.at _ _) I2 T st2 f2 hW ?_
 intro D C s' H' m hC hD I' hns hHC q
 exact⟨m,hns,fun h' sb=>⟨.ref D,H',I2.drop hC I' hHC sb,rfl,q⟩⟩
theorem F0 {i:Nat}{x:Str}{px spos:Pos} (hc:X.calm=true) (S:dE X scope N fr) (hi:PI X tg iter wi) (B:qI X scope N tg ifs elt g tc te) (hN:X.N.Nodup) (hix:X.N[i]? = some x) (hx:X.env.scope.names.lookup x=some .local)
  (hsw:swapsWith (.ListComp elt [⟨tg,iter,ifs,0⟩] scope pos) (some (.Name x px)) spos.line X.env=pure true) (hs:∀ x,foldedSetIterable iter X.env x=pure x:=by intro _; rfl) :
  PS X (.Assign [.Name x px] (.ListComp elt [⟨tg,iter,ifs,0⟩] scope pos) spos) (jR (E8 wi fr g tc te) (dS i)):=by
 intro pins s σ H D I h
 rw [exec_Assign_Name_used _ _ _ _ hsw]
 refine bg5 (wpAny_standAt (bg5 ?_))
 show wpAny _ _ (do let _ <- comprehension (.ListComp elt [⟨tg,iter,ifs,0⟩] scope pos) scope X.env _ (newList []) false (eval iter X.env) (some (assign (.Name x px) X.env))) _ _ s
 refine bg5 (bp5 (wpAny_comprehension_free (Q:=fun _ s'=>SP X pins D .next s') (use:=some (assign (.Name x px) X.env)) rfl hs (qD (S.cells I)) S.kind S.names (aO (hi pins s σ H _ I h) fun v s1 h1=>aO h1 fun itv s2 h2=>?_))
  (fun _ s' hq=>bg9 (bg9 hq)) fun _ _ e=>e)
 obtain ⟨it,fp,tn,J,H2,e,I2,T,st2,f2,hW⟩:=h2
 subst e
 refine qJ (Rr:=fun acc C=>compPost (model X.prog X.w) X.A X.xe (some (assign (.Name x px) X.env)) (fun _ s'=>SP X pins D .next s') acc C) hc S (B.at _ _) I2 T st2 f2 hW ?_
 intro D' C s' H' m hC hD I' hns hHC q
 refine wpAny_assign_Name (tU I' hN hix (.inl hx) (v:=.ref D') rfl (fun s'' I'' sb=>?_) (.inr hx))
 obtain ⟨a,sb,ha⟩:=sb
 have hCa:C ≠ a:=by
  rcases ha with z | z
  ·rw [z]; exact bp6 (bi2 I2.lt hC)
  ·intro e; subst e
   obtain ⟨v,q⟩:=I2.cell x _ z
   exact absurd (bi2 q.lt hC) (bo2 _)
 exact⟨m,hns.sameBut sb hCa,fun h' sb'=>⟨_,H',I2.drop hC I'' hHC sb',q⟩⟩
variable {gh : Hp → TG} {tch : Hp → TT} {teh : Hp → TE}
def v9 (wi:TI) (fr:List (Option Nat)) (gh:Hp->TG) (tch:Hp->TT) (teh:Hp->TE):TE:=fun σ H Q=>wi σ H fun J H1=>∀ D,H1 D=none->
 ∃ W:Nat->Nat->List V->Hp->Prop,(∃ m,W 0 m [] (upd H1 D (.lst [])))/\nY (gh H1) (tch H1) (teh H1) (eZ fr σ) J D Q W
theorem F1 (hc:X.calm=true) (S:dE X scope N fr) (hi:PI X tg iter wi) (B:∀ (s:Shared) (H:Hp),nZ X scope N tg ifs elt s H (gh H) (tch H) (teh H))
  (hs:∀ x,foldedSetIterable iter X.env x=pure x:=by intro _; rfl):PE X (.ListComp elt [⟨tg,iter,ifs,0⟩] scope pos) (v9 wi fr gh tch teh):=by
 intro pins s σ H Q I h
 rw [eval_ListComp]
 refine wpAny_comprehension_free (use:=none) rfl hs (qD (S.cells I)) S.kind S.names (aO (hi pins s σ H _ I h) fun v s1 h1=>aO h1 fun itv s2 h2=>?_)
 obtain ⟨it,fp,tn,J,H2,e,I2,T,st2,f2,hW⟩:=h2
 subst e
 refine qJ (Rr:=fun acc C=>compPost (model X.prog X.w) X.A X.xe none (EP X pins σ Q) acc C) hc S (B _ _) I2 T st2 f2 hW ?_
 intro D C s' H' m hC hD I' hns hHC q
 exact⟨m,hns,fun h' sb=>⟨.ref D,H',I2.drop hC I' hHC sb,rfl,q⟩⟩
theorem au0 {i:Nat}{x:Str}{px spos:Pos} (hc:X.calm=true) (S:dE X scope N fr) (hi:PI X tg iter wi) (B:∀ (s:Shared) (H:Hp),nZ X scope N tg ifs elt s H (gh H) (tch H) (teh H)) (hN:X.N.Nodup) (hix:X.N[i]? = some x) (hx:X.env.scope.names.lookup x=some .local)
  (hsw:swapsWith (.ListComp elt [⟨tg,iter,ifs,0⟩] scope pos) (some (.Name x px)) spos.line X.env=pure true) (hs:∀ x,foldedSetIterable iter X.env x=pure x:=by intro _; rfl) :
  PS X (.Assign [.Name x px] (.ListComp elt [⟨tg,iter,ifs,0⟩] scope pos) spos) (jR (v9 wi fr gh tch teh) (dS i)):=by
 intro pins s σ H D I h
 rw [exec_Assign_Name_used _ _ _ _ hsw]
 refine bg5 (wpAny_standAt (bg5 ?_))
 show wpAny _ _ (do let _ <- comprehension (.ListComp elt [⟨tg,iter,ifs,0⟩] scope pos) scope X.env _ (newList []) false (eval iter X.env) (some (assign (.Name x px) X.env))) _ _ s
 refine bg5 (bp5 (wpAny_comprehension_free (Q:=fun _ s'=>SP X pins D .next s') (use:=some (assign (.Name x px) X.env)) rfl hs (qD (S.cells I)) S.kind S.names (aO (hi pins s σ H _ I h) fun v s1 h1=>aO h1 fun itv s2 h2=>?_))
  (fun _ s' hq=>bg9 (bg9 hq)) fun _ _ e=>e)
 obtain ⟨it,fp,tn,J,H2,e,I2,T,st2,f2,hW⟩:=h2
 subst e
 refine qJ (Rr:=fun acc C=>compPost (model X.prog X.w) X.A X.xe (some (assign (.Name x px) X.env)) (fun _ s'=>SP X pins D .next s') acc C) hc S (B _ _) I2 T st2 f2 hW ?_
 intro D' C s' H' m hC hD I' hns hHC q
 refine wpAny_assign_Name (tU I' hN hix (.inl hx) (v:=.ref D') rfl (fun s'' I'' sb=>?_) (.inr hx))
 obtain ⟨a,sb,ha⟩:=sb
 have hCa:C ≠ a:=by
  rcases ha with z | z
  ·rw [z]; exact bp6 (bi2 I2.lt hC)
  ·intro e; subst e
   obtain ⟨v,q⟩:=I2.cell x _ z
   exact absurd (bi2 q.lt hC) (bo2 _)
 exact⟨m,hns.sameBut sb hCa,fun h' sb'=>⟨_,H',I2.drop hC I'' hHC sb',q⟩⟩
end
theorem bB {H:Hp}{p:Addr} (h:H p=none) (o:HO):aB H (upd H p o):=fun b u q=>by rw [aR (cH q h)]; exact q
theorem aB.tup {K:PySem.W.Frag}{H H':Hp}{a:Addr}{xs:List V} (e:aB H H') (h:aF K H a xs):aF K H' a xs:=by
 rcases h with (h | ⟨o,h⟩) | h
 ·exact .inl (.inl (e _ _ h))
 ·exact .inl (.inr ⟨o,e _ _ h⟩)
 ·exact .inr h
structure F2 (H:Hp) (J:It) (xs:List V):Prop where
 go:∀ i H',aB H H'->i < xs.length->J.go i H'
 yld:∀ i H' x H2,aB H H'->J.yld i H' x H2->i < xs.length->xs[i]? = some x/\H2=H'
 stop:∀ H',aB H H'->J.stop xs.length H'
theorem F3 {K:PySem.W.Frag}{H:Hp}{a:Addr}{xs:List V} (h:aF K H a xs):F2 H (jS K a) xs:=
 ⟨fun i H' e hi=>⟨xs,xs[i],e.tup h,by simp [hi]⟩,fun i H' x H2 e y hi=>⟨y.2 xs (e.tup h),y.1⟩,fun H' e=>⟨xs,e.tup h,bh0 _⟩⟩
def gF (lo:Int) (n:Nat):List V:=(List.range n).map fun (i:Nat)=>V.int (lo+(i:Int))
theorem qK (lo:Int) (n:Nat):(gF lo n).length=n:=by unfold gF; rw [bh4,bu0]
def CW (H1:Hp) (D:Addr) (n:Nat) (Pv:Nat->List V->Hp->Prop):Nat->Nat->List V->Hp->Prop:=fun i m acc H'=>m=n - i/\i<=n/\acc.length<=i/\aB H1 H'/\H' D=some (.lst acc)/\Pv i acc H'
def vA (H1:Hp) (D:Addr) (n:Nat) (Pv:Nat->List V->Hp->Prop) (i:Nat) (acc:List V) (v:V) (H5:Hp):Prop:=H5 D=some (.lst acc)/\acc.length < sizeLine/\∃ m',m' < n - i/\CW H1 D n Pv (i+1) m' (acc ++ [v]) (upd H5 D (.lst (acc ++ [v])))
def F4 (H1:Hp) (D:Addr) (n:Nat) (Pv:Nat->List V->Hp->Prop) (i:Nat) (acc:List V) (H4:Hp):Prop:=∃ m',m' < n - i/\CW H1 D n Pv (i+1) m' acc H4
structure qL (H1:Hp) (D:Addr) (n i:Nat) (acc:List V) (H':Hp):Prop where
 lt:i < n
 few:acc.length<=i
 sz:n<=sizeLine
 same:aB H1 H'
 new:H1 D=none
 acc:H' D=some (.lst acc)
theorem qL.yes {H1:Hp}{D:Addr}{n i:Nat}{acc:List V}{H' H5:Hp}{Pv:Nat->List V->Hp->Prop}{v:V} (c:qL H1 D n i acc H') (s:aB H' H5) (p:Pv (i+1) (acc ++ [v]) (upd H5 D (.lst (acc ++ [v])))):vA H1 D n Pv i acc v H5:=by
 refine⟨s _ _ c.acc,Nat.lt_of_le_of_lt c.few (bi2 c.lt c.sz),_,?_,rfl,c.lt,?_,fun b o e=>?_,bE,p⟩
 ·have:=c.lt; omega
 ·rw [bi3,bm4]; exact Nat.succ_le_succ c.few
 ·rw [aR (cH e c.new)]; exact s _ _ (c.same _ _ e)
theorem F5 {H1:Hp}{J:It}{xs:List V}{g:TG}{tc:TT}{te:TE}{σ0:St}{Q:VK} (O:F2 H1 J xs) (Pv:Nat->List V->Hp->Prop) (hn:xs.length<=sizeLine)
  (h0:∀ D,H1 D=none->Pv 0 [] (upd H1 D (.lst [])))
  (hs:∀ i x acc D H',xs[i]? = some x->qL H1 D xs.length i acc H'->Pv i acc H'->g x σ0 H' fun σ2 H3=>Wk σ0 σ2/\tc σ2 H3 fun b H4=>
   if b=true then te σ2 H4 fun v H5=>vA H1 D xs.length Pv i acc v H5 else F4 H1 D xs.length Pv i acc H4)
  (hd:∀ D acc H',H1 D=none->aB H1 H'->H' D=some (.lst acc)->acc.length<=xs.length->Pv xs.length acc H'->Q (.ref D) H') :
  ∀ D,H1 D=none->∃ W:Nat->Nat->List V->Hp->Prop,(∃ m,W 0 m [] (upd H1 D (.lst [])))/\nY g tc te σ0 J D Q W:=by
 intro D hD
 refine⟨CW H1 D xs.length Pv,⟨xs.length,rfl,bl6 _,bh0 _,bB hD _,bE,h0 D hD⟩,?_⟩
 rintro i m acc H' ⟨rfl,hi,ha,sm,hDa,p⟩
 refine⟨hDa,?_⟩
 by_cases hlt:i < xs.length
 ·refine .inr ⟨O.go i H' sm hlt,fun x H2 y=>?_⟩
  obtain ⟨hx,e⟩:=O.yld i H' x H2 sm y hlt
  subst e
  exact hs i x acc D H2 hx ⟨hlt,ha,hn,sm,hD,hDa⟩ p
 ·have e:i=xs.length:=by omega
  subst e
  exact .inl ⟨O.stop H' sm,hd D acc H' hD sm hDa ha p⟩
end L2
namespace Srt
open PySem PySem.W PyProof.Rows
abbrev G (p:Array Nat) (i:Nat):Nat:=p.getD i 0
def PP (n:Nat) (p:Array Nat):Prop:=p.toList.Perm (List.range n)
structure F6 (c:Nat->Nat->Bool):Prop where
 asym:∀ {i j},c i j=true->c j i=false
 ntr:∀ {i j k},c i j=false->c j k=false->c i k=false
section
variable {c : Nat → Nat → Bool} (O : F6 c)
def Le (c:Nat->Nat->Bool) (i j:Nat):Prop:=c j i=false
include O
theorem le_refl (i:Nat):Le c i i:=by
 unfold Le
 cases h:c i i with
 | false=>rfl
 | true=>have:=O.asym h; rw [h] at this; exact this
theorem le_trans {i j k:Nat} (h1:Le c i j) (h2:Le c j k):Le c i k:=O.ntr h2 h1
end
end Srt
namespace L2
open PySem PySem.Spec PyProof.Rows
theorem vB:∀ {xs:List V}{us:List Value} (i:Nat),i < xs.length->aN xs us->aV (xs.getD i .non) (us.getD i Value.none)
 | _,_,_,h,.nil=>by simp at h
 | _,_,0,_,.cons r _=>by simpa using r
 | _,_,i+1,h,.cons _ t=>by
  have:=vB i (by simpa using h) t
  simpa using this
theorem qM {α:Type}:∀ l:List α,(l.zip l).map (·.2)=l
 | []=>rfl
 | a :: l=>by
  show a :: ((l.zip l).map (·.2))=a :: l
  rw [qM l]
theorem au1 {prog:Program}{w:World}{A:Around}{E:Value->Shared->Prop}{s:Shared}{a:Addr}{vs:List Value}{n:Nat}{P:PySem.Fin->Shared->Prop} (e:s.heap.get? a=some (seqObj "list" vs.toArray n)) (few:vs.length < 2)
  (q:P (.done (.ret .none)) { s with heap:=sortedHeap s.heap a vs vs.toArray }):wpAny (model prog w) A (Builtin.«list.sort» ⟨[.ref a],[]⟩) P E s:=by
 have big:vs.length<=sizeLine:=bk3 (bm2 few) (by decide)
 have la:=bi1 e
 have c:vs.toArray.size < 2:=by simpa using few
 have same:(arrOf (SortSt.mk' general' (vs.toArray.zip vs.toArray) #[] 7 none)).map (·.2)=vs.toArray:=by
  change (vs.toArray.zip vs.toArray).map (·.2)=vs.toArray
  apply Array.ext'
  simpa using qM vs
 obtain ⟨k,ek⟩:∃ k,(s.heap.update a (Obj.mapSeq fun _=>#[])).get? a=some (seqObj "list" #[] k):=⟨_,get?_update_seq e fun _=>#[]⟩
 have there:(((s.heap.update a (Obj.mapSeq fun _=>#[])).push (seqObj "tuple" vs.toArray 0)).push (seqObj "list" #[] 0)).get? a=some (seqObj "list" #[] k):=
  bg6 _ (bg6 _ ek)
 rw [list_sort_plain]
 apply bg5
 apply listItems_at e rfl
 apply bg5
 refine listUpdate_at e rfl ?_ (by simpa using big) (bl6 _)
 apply bg5
 apply seqEpoch_at ek rfl
 apply bg5
 refine wpAny_newTuple ?_ big
 apply bg5
 refine wpAny_newList ?_ (bl6 _)
 apply bp0
 simp only [c,if_true,StateT.run_pure]
 apply bg5
 apply bg9
 apply bg5
 apply bg9
 apply bg5
 apply seqEpoch_at there rfl
 apply bg5
 refine listUpdate_at there rfl ?_ (bl6 _) (by rw [same,bg7]; exact Nat.le_succ_of_le big)
 rw [same]
 simp only [bne_self_eq_false,bj4,bo4]
 exact bg9 q
theorem au2 {prog:Program}{w:World}{A:Around}{E:Value->Shared->Prop}{s:Shared}{l:Addr}{vs:List Value}{Q:Value->Shared->Prop} (hl:s.heap.IsList l vs.toArray) (few:vs.length < 2)
  (q:Q (.ref (s.heap.objs.size+1)) { s with heap:=sortedAll s.heap vs vs.toArray }):wpAny (model prog w) A (call (.builtin "sorted") [.ref l]) Q E s:=by
 have big:vs.length<=sizeLine:=bk3 (bm2 few) (by decide)
 apply Calls.call_function_entry kind_sorted plain_sorted entry_sorted (args_sorted1 _)
 simp only [Builtin.«sorted»]
 apply bg5 (m:=checkCount "sorted" 1 1 _)
 apply bg9
 apply bg5
 refine collect_list hl ?_ big
 apply bg5
 refine wpAny_newList ?_ big
 have one:((s.heap.push (seqObj "list" #[] 0)).update s.heap.objs.size (Obj.mapSeq (· ++ vs.toArray))).objs.size=s.heap.objs.size+1:=(Heap.size_update _ _ _).trans (size_push' _ _)
 have at1:(((s.heap.push (seqObj "list" #[] 0)).update s.heap.objs.size (Obj.mapSeq (· ++ vs.toArray))).push (seqObj "list" vs.toArray 0)).get? (s.heap.objs.size+1)=some (seqObj "list" vs.toArray 0):=one ▸ bi0 _ rfl
 change wpAny _ _ _ _ _ { s with heap:=((s.heap.push (seqObj "list" #[] 0)).update s.heap.objs.size (Obj.mapSeq (· ++ vs.toArray))).push (seqObj "list" vs.toArray 0) }
 rw [one]
 apply bg5
 apply bp0
 refine bn0 slot_list_sort ⟨_,at1,rfl⟩ entry_list_sort ?_ (args_list_sort _)
 refine au1 at1 few ⟨_,rfl,?_⟩
 exact bg9 ⟨_,rfl,q⟩
def au3 (K:PySem.W.Frag):List V->Hp->VK->Prop:=fun xs H Q=>∃ a ns,xs = [.ref a]/\aH K H a (ns.map V.int)/\ns.length < 64/\∀ l (ms:List Int),H l=none->ms.Perm ns->ms.Pairwise (· <= ·)->Q (.ref l) (upd H l (.lst (ms.map V.int)))
theorem au4 {X:Cx}:cN X (.builtin "sorted") (au3 X.K):=by
 intro pins s σ H xs us Q I r h
 obtain ⟨a,ns,rfl,hs,h64,q⟩:=h
 obtain ⟨u,rfl,ru⟩:=gX r
 cases ru
 obtain ⟨its,rv,p,hz⟩:=I.list hs
 have hl:=rv.length
 rw [bh4] at hl
 refine sorted_ints p.isList (pX rv) (by omega) fun out ns' a1 a2 a3=>?_
 obtain ⟨e,he⟩:=sortedAll_at s.heap its out
 have hn:s.heap.objs.size<=s.heap.objs.size+1:=Nat.le_succ _
 have hlen:ns'.length=ns.length:=a2.length_eq
 refine⟨.ref (s.heap.objs.size+1),upd H (s.heap.objs.size+1) (.lst (ns'.map V.int)),I.laid (t':=s.toks) (fun _ _=>sortedAll_old) hn ⟨?_,out.toList,e,nV a1,by simpa using he⟩,rfl,q _ ns' (I.hok.fresh hn) a2 a3⟩
 rw [bh4,hlen]
 exact bm2 (m3 (by omega))
def F7 (H:Hp):V->List Int
 | .ref b=>match H b with
  | some (.tup xs)=>xs.map fun x=>match x with
   | .int i=>i
   | _=>0
  | _=>[]
 | _=>[]
section
variable {prog : Program} {w : World} {A : Around} {s : Shared} {Q : Bool → Shared → Prop}
theorem F8:∀ {us ws:List Value}{xs ys:List Int} (i:Nat),IntsAre us xs->IntsAre ws ys->Q (HT.gZ xs ys) s->PySem.W.KatLex prog w A true (decide (us.length < ws.length)) Q (us.zip ws) i s
 | _,_,_,_,_,.nil,.nil,h=>h
 | _,_,_,_,_,.nil,.cons _ _ _,h=>h
 | _,_,_,_,_,.cons _ _ _,.nil,h=>h
 | _,_,_,_,i,.cons (vs:=us) x t hx,.cons (vs:=ws) y u hy,h=>by
  refine PySem.W.kat_cons (wpAny_eqBool_int ?_)
  rw [HT.nM] at h
  by_cases e:x=y
  ·rw [if_pos e] at h
   have eb:(x == y)=true:=by simpa using e
   rw [eb]
   refine PySem.W.kat_yes ?_
   have e2:decide ((Value.int x t :: us).length < (Value.int y u :: ws).length)=decide (us.length < ws.length):=by simp
   rw [e2]
   exact F8 (i+1) hx hy h
  ·rw [if_neg e] at h
   have eb:(x == y)=false:=by simpa using e
   rw [eb]
   refine PySem.W.kat_no ?_
   cases hi:(true && i == 0) with
   | true=>exact PySem.W.kat_lt_int h
   | false=>exact PySem.W.kat_one _ _ (lt_int h)
end
end L2
namespace Raw
open PySem PySem.W PySem.Calls PyProof.Rows
def gG (h:Heap) (d:Addr) (es:Array DictEntry) (ep:Nat):Prop:=∃ o,h.get? d=some o/\o.ExactDict/\o.data = .dict es ep
theorem gG.ty {s:Shared}{d:Addr}{es:Array DictEntry}{ep:Nat} (x:gG s.heap d es ep):s.TypeIs (.ref d) "dict":=x.elim fun o y=>⟨o,y.1,y.2.1.1⟩
theorem gG.lt {h:Heap}{d:Addr}{es:Array DictEntry}{ep:Nat} (x:gG h d es ep):d < h.objs.size:=x.elim fun _ y=>bi1 y.1
theorem gG.keep {h h':Heap}{d:Addr}{es:Array DictEntry}{ep:Nat} (x:gG h d es ep) (k:∀ o,h.get? d=some o->h'.get? d=some o):gG h' d es ep:=x.elim fun o y=>⟨o,k o y.1,y.2⟩
section
variable {prog : Program} {w : World} {A : Around} {E : Value → Shared → Prop} {s : Shared} {d it : Addr} {es : Array DictEntry} {ep i : Nat}
theorem made (far:(d == sysModules)=false) (x:gG s.heap d es ep) {Q:Value->Shared->Prop}
  (q:Q (.ref s.heap.objs.size) { s with heap:=s.heap.push { cls:=.type "dict_keyiterator",data:=.fields #[.ref d,.int 0 0,.int es.size 0,.int ep 0] } }):wpAny (model prog w) A (pyIter (.ref d)) Q E s:=by
 have T:=x.ty
 obtain ⟨o,e1,e2,e3⟩:=x
 apply wpAny_pyIter_slot T PySem.F.slot_dict_iter
 apply bn0 PySem.F.slot_dict_iter T PySem.F.entry_dict_iter _ (PySem.F.args_dict_iter_1 _)
 simp only [Builtin.«dict.__iter__»,Builtin.Dict.dictSlotNone]
 apply bg5
 apply bg5
 apply wpAny_notOrdered_dict T
 apply bg9
 change wpAny _ _ (Builtin.Dict.showsAll d >>= _) _ _ s
 have far':Builtin.Dict.showsAll d=pure ():=by
  unfold Builtin.Dict.showsAll
  simp only [far,bj4,bo4]
 rw [far',pure_bind]
 apply bg5
 apply wpAny_dictEntries e1 e3
 apply bg5
 apply wpAny_dictEpoch e1 e3
 apply bg5
 refine bn1 (bg9 ?_)
 refine⟨.ref s.heap.objs.size,rfl,"dict_keyiterator",_,⟨_,bi0 _ rfl,rfl⟩,PySem.F.slot_dict_keyiterator_next.lookup,?_⟩
 simpa only [rawInt] using q
theorem turn (hh:A.handled=none) (hi:s.heap.IsKeyIter it d i es.size ep) (x:gG s.heap d es ep) {Q:Option Value->Shared->Prop}
  (yes:∀ (lt:i < es.size) h',h'.IsKeyIter it d (i+1) es.size ep->Heap.SameBut it s.heap h'->Q (some es[i].key) { s with heap:=h' })
  (no:es.size<=i->∀ h',Heap.ExtBut it s.heap h'->Q none { s with heap:=h' }):wpAny (model prog w) A (pyNext (.ref it)) Q E s:=by
 have T:=hi.typeIs
 obtain ⟨oi,f1,f2,f3⟩:=hi
 obtain ⟨o,e1,e2,e3⟩:=x
 have slot:=PySem.F.slot_dict_keyiterator_next
 have plain:Builtin.Dict_items.ownsTuple "dict_keyiterator" = false:=by decide
 have isref:(Value.ref d == Value.none)=false:=rfl
 have nn : ¬ (i:Int) < 0:=by omega
 unfold pyNext
 apply bg5
 apply wpAny_attempt
 apply bn4 (name:=Str.ofString "__next__") T slot
 apply bn0 slot T PySem.F.entry_dict_keyiterator_next _ (PySem.F.args_dict_keyiterator_next_1 _)
 apply bg5
 apply bg9
 apply bg5
 apply bg5
 apply bg5
 first
  | apply wpAny_typeNameOfWhole_keyiter T
  | apply wpAny_typeNameOf_keyiter T
 apply bg9
 apply bg5
 apply wpAny_fieldsOf f1 f3
 simp only [plain,bj4,bo4]
 change wpAny _ _ (if (Value.ref d == Value.none)=true then _ else _) _ _ s
 have adr:Builtin.Dict_items.addrOf (Value.ref d)=pure d:=rfl
 simp only [isref,bj4,bo4,adr,pure_bind]
 apply bg5
 apply wpAny_dictEntries e1 e3
 simp only [bne_self_eq_false,bj4,bo4]
 apply bg5
 apply wpAny_dictEpoch e1 e3
 simp only [bne_self_eq_false,bj4,bo4]
 apply bg9
 simp only [nn,bo4,bl3]
 by_cases lt:i < es.size
 ·simp only [Array.getElem?_eq_getElem lt]
  apply bg5
  apply bg5
  first
   | apply wpAny_typeNameOfWhole_keyiter T
   | apply wpAny_typeNameOf_keyiter T
  apply bg9
  apply bg5
  apply wpAny_isOneOf_keyiter T
  change wpAny _ _ (setField (.ref it) 1 (rawInt ((i:Int)+1)) >>= _) _ _ s
  apply bg5
  refine wpAny_setField f1 f3 (by simp) ?_
  have again:(s.heap.update it (Obj.mapFields (·.setIfInBounds 1 (rawInt ((i:Int)+1))))).IsKeyIter it d (i+1) es.size ep:=by
   refine⟨_,Heap.get?_update_self _ f1 (Obj.isFreed_of_fields (Obj.data_mapFields f3 _)),?_,?_⟩
   ·rw [Obj.cls_mapFields]; exact f2
   ·rw [Obj.data_mapFields f3]; simp [rawInt]
  apply bg5
  apply bp0
  apply bg5
  refine wpAny_isOneOf_keyiter (s:={ s with heap:=s.heap.update it (Obj.mapFields (·.setIfInBounds 1 (rawInt ((i:Int)+1)))) }) again.typeIs ?_
  change wpAny _ _ (pure es[i].key) _ _ _
  apply bg9
  apply bg9
  exact⟨es[i].key,rfl,bg9 (yes lt _ again (bu8 ..))⟩
 ·have ge:es.size<=i:=bv0 lt
  simp only [Array.getElem?_eq_none ge]
  apply bg5
  apply bg5
  first
   | apply wpAny_typeNameOfWhole_keyiter T
   | apply wpAny_typeNameOf_keyiter T
  apply bg9
  change wpAny _ _ (setField (.ref it) 0 .none >>= _) _ _ s
  apply bg5
  refine wpAny_setField f1 f3 (by simp) ?_
  apply bg5
  simp only [newExc,newTuple]
  apply bg5
  refine bn1 ?_ (by size_fits)
  apply bg5
  refine wpAny_of_eq (a:=Value.none) (by first | rfl | (simp only [firstArgMember]; rfl)) ?_
  refine bn1 ?_ (by size_fits)
  unfold raiseNew
  apply bg5
  apply wpAny_handled
  have quiet:A.in1.handled=none:=hh
  rw [quiet]
  refine wpAny_throw ?_
  apply bg5
  refine wpAny_isInstance (T:="StopIteration") (b:=true) ⟨_,bi0 _ rfl,rfl⟩ isSubtype_stop ?_
  exact bg9 (no ge _ (((bu8 ..).extBut.push _).push _))
theorem au5 (hh:A.handled=none) (ne:d ≠ it):Walks prog w A it [it,d] [it] es.size (fun i v=>∃ lt:i < es.size,es[i].key=v) (fun i h=>h.IsKeyIter it d i es.size ep/\gG h d es ep) where
 sub:=by intro b hb; rw [bh8.mp hb]; exact bi4
 frame:=by
  intro i h h' st hk
  exact⟨st.1.at (hk it bi4),st.2.keep (hk d (bi9 _ bi4))⟩
 item:=by
  intro i s Q E lt st hQ
  refine turn hh st.1 st.2 (fun lt' h' again sb=>?_) fun ge=>absurd lt (Nat.not_lt.mpr ge)
  exact hQ _ h' s.toks ⟨lt',rfl⟩ ⟨again,st.2.keep fun o e=>sb.extBut d o ne e⟩ fun b o hb e=>sb.extBut b o (fun z=>hb (bh8.mpr z)) e
 done:=by
  intro s Q E st hQ
  refine turn hh st.1 st.2 (fun lt=>absurd lt (bo2 _)) fun _ h' eb=>?_
  exact hQ h' s.toks fun b o hb e=>eb b o (fun z=>hb (bh8.mpr z)) e
 self:=by intro i s Q E st hQ; exact wpAny_pyIter_keyiter st.1 hQ
theorem au6 (far:(d == sysModules)=false):KdlSrc prog w "dict" d d es.size (fun i v=>∃ lt:i < es.size,es[i].key=v) (fun h=>gG h d es ep) where
 type:=fun _ x=>x.ty
 there:=fun _ x=>⟨x.lt,x.lt⟩
 keep:=fun _ _ x k=>x.keep (k d (.inl rfl))
 notList:=by decide
 notTuple:=by decide
 hint:=fun _ _ _ _ x q=>kdl_hint_dict x.ty q
 iter:=fun _ _ hh x=>⟨_,_,fun _ _ q=>made far x q,au5 hh (bk4 x.lt),⟨_,bi0 _ rfl,rfl,rfl⟩,x.keep fun o e=>bg6 _ e⟩
end
end Raw
namespace L2
open PySem PySem.Spec PyProof.Rows
section
variable {X : Cx} {pins : List (Addr × Obj)} {σ : St} {H : Hp} {s : Shared} {a : Addr}
theorem au7 {kvs:List (aE × V)} (I:a8 X pins σ H s) (h:H a=some (.dK kvs)):∃ es ep,Raw.gG s.heap a es ep/\(a == sysModules)=false/\aN (kvs.map fun p=>kV p.1) (es.toList.map (·.key))/\kvs.length<=sizeLine:=by
 obtain ⟨z,far,vs,rel,o,es,ep,e1,e2,e3,kk,pr,nd⟩:=(show bR X.prog X.w H s.heap a (.dK kvs) from I.hok a _ h)
 refine⟨es,ep,⟨o,e1,e2,e3⟩,far,?_,z⟩
 clear z far e1 e2 e3 kk nd h
 generalize es.toList=l at pr
 induction pr generalizing kvs with
 | nil=>cases rel; exact .nil
 | @cons e k es' kvs' h1 h2 _ ih=>
  cases rel with
  | @cons p q ps qs r rs=>
   refine .cons ?_ (ih rs)
   obtain ⟨r1,_⟩:=r
   show aV (kV p.1) e.key
   rw [r1]
   rcases iH h1 with ⟨n,t,e4,e5⟩ | ⟨x,t,e4,e5⟩
   ·rw [e4,e5]; exact⟨t,rfl⟩
   ·rw [e4,e5]; exact⟨t,rfl⟩
theorem au8 {es:Array DictEntry}{acc:Array Value} (h:ItemsOf (fun i v=>∃ lt:i < es.size,es[i].key=v) acc es.size):acc.toList=es.toList.map (·.key):=by
 apply List.ext_getElem?
 intro j
 have h1:=h.1
 by_cases hj:j < es.size
 ·have hj':j < acc.size:=by rw [h1]; exact hj
  obtain ⟨_,e⟩:=h.2 j acc[j] (by simp [hj'])
  rw [bh9]
  simp [hj,hj',e]
 ·have hj' : ¬ j < acc.size:=by rw [h1]; exact hj
  rw [bh9]
  simp [bv0 hj,bv0 hj']
end
section
variable {X : Cx}
theorem au9:cN X (.builtin "isinstance") (fun xs H Q=>∃ x t n b,xs = [x,.ty n]/\eY X.K H x t/\PySem.W.kitOne X.K t (.type n)=some b/\Q (.bl b) H):=by
 intro pins s σ H xs us Q I r h
 obtain ⟨x,t,n,b,rfl,ty,e,q⟩:=h
 obtain ⟨u,u',rfl,ru,ru'⟩:=nJ r
 cases ru'
 exact ao1 I ru ty e fun tk=>⟨.bl b,H,I.tok tk,rfl,q⟩
end
def F9 (outer:List (Str × NameKind)) (XN:List Str) (names:List (Str × NameKind)) (N:List Str) (fr:List (Option Nat)):Bool:=
 names.all (fun y=>!(y.2 == .cell) || names.lookup y.1 == some .cell) && names.all (fun y=>!(y.2 == .local) || names.lookup y.1 == some .local) &&
 names.all (fun y=>!(y.2 == .free) || (outer.lookup y.1 == some .cell || outer.lookup y.1 == some .free)) && fr.length == N.length &&
 (fr.zip N).all (fun p=>match p.1 with
  | none=>true
  | some j=>XN[j]? == some p.2 && names.lookup p.2 == some .free)
theorem dE.of {X:Cx}{scope:Scope}{N:List Str}{fr:List (Option Nat)} (hk:scope.kind = .function) (h:F9 X.env.scope.names X.N scope.names N fr=true):dE X scope N fr:=by
 unfold F9 at h
 simp only [bl7] at h
 obtain ⟨⟨⟨⟨h1,h2⟩,h3⟩,h4⟩,h5⟩:=h
 refine⟨hk,fun y hy e=>?_,fun y hy e=>?_,fun y hy e=>?_,by simpa using h4,fun i j e=>?_⟩
 ·have:=bo9.mp h1 y hy
  rw [e] at this; simpa using this
 ·have:=bo9.mp h2 y hy
  rw [e] at this; simpa using this
 ·have:=bo9.mp h3 y hy
  rw [e] at this; simpa using this
 ·have hl:fr.length=N.length:=by simpa using h4
  have hi:i < fr.length:=(bh7.mp e).1
  have m:(some j,N[i]'(by omega)) ∈ fr.zip N:=by
   have:(fr.zip N)[i]? = some (some j,N[i]'(by omega)):=by
    rw [List.getElem?_zip_eq_some]
    exact⟨e,by simp⟩
   exact bj1 this
  have:=bo9.mp h5 _ m
  simp only [bl7,beq_iff_eq] at this
  exact⟨N[i]'(by omega),by simp,this.1,this.2⟩
theorem G0 {n:Option V}{r:St}{v:V}:Wk (none :: r) (some v :: r):=(Wk.refl (none :: r)).set (i:=0) rfl
def m5 (H:Hp) (ys:List V) (ls:List (Int × Int)):Prop:=Paired (fun y l=>∃ b,y = .ref b/\H b=some (.tup [.int l.1,.int l.2])) ys ls
structure G1 (H:Hp) (v:V) (ws:List Int) (ls:List (Int × Int)):Prop where
 at_:∃ a p q ys,v = .ref a/\H a=some (.tup [.ref p,.ref q])/\H p=some (.tup (ws.map V.int))/\H q=some (.tup ys)/\m5 H ys ls
theorem m5.get {H:Hp}:∀ {ys:List V}{ls:List (Int × Int)}{i:Nat}{y:V},m5 H ys ls->ys[i]? = some y->∃ l b,ls[i]? = some l/\y = .ref b/\H b=some (.tup [.int l.1,.int l.2])
 | _,_,_,_,.nil,e=>by simp at e
 | _,_,0,_,.cons (b:=l) ⟨b,h1,h2⟩ _,e=>by simp at e; subst e; exact⟨l,b,rfl,h1,h2⟩
 | _,_,i+1,_,.cons _ t,e=>by
  obtain ⟨l,b,h1,h2⟩:=m5.get (i:=i) t (by simpa using e)
  exact⟨l,b,by simpa using h1,h2⟩
def bL (ls:List (Int × Int)) (k:Int):List Int:=ls.flatMap fun l=>(if l.1=k then [l.2] else []) ++ (if l.2=k then [l.1] else [])
theorem av0 (ls:List (Int × Int)) (l:Int × Int) (k:Int):bL (ls ++ [l]) k=bL ls k ++ ((if l.1=k then [l.2] else []) ++ (if l.2=k then [l.1] else [])):=by
 unfold bL; rw [List.flatMap_append]; simp
theorem G2 {ls:List (Int × Int)}{i:Nat}{l:Int × Int} (h:ls[i]? = some l) (k:Int):bL (ls.take (i+1)) k=bL (ls.take i) k ++ ((if l.1=k then [l.2] else []) ++ (if l.2=k then [l.1] else [])):=by
 rw [bp1,h]; exact av0 _ _ _
structure hZ (H H':Hp) (r:Addr) (bs:List Addr) (f:Nat->List Int):Prop where
 new:H r=none
 news:∀ b ∈ bs,H b=none/\b ≠ r
 nd:bs.Nodup
 row:H' r=some (.lst (bs.map V.ref))
 rows:∀ (k:Nat) (b:Addr),bs[k]? = some b->H' b=some (.lst ((f k).map V.int))
 same:aB H H'
theorem hZ.congr {H H':Hp}{r:Addr}{bs:List Addr}{f g:Nat->List Int} (h:hZ H H' r bs f) (e:∀ k,k < bs.length->f k=g k):hZ H H' r bs g:=
 ⟨h.new,h.news,h.nd,h.row,fun k b hb=>by rw [<- e k (bh7.mp hb).1]; exact h.rows k b hb,h.same⟩
theorem hZ.app {H H':Hp}{r:Addr}{bs:List Addr}{f:Nat->List Int} (h:hZ H H' r bs f) {k:Nat}{b:Addr} (hb:bs[k]? = some b) (x:Int) :
  hZ H (upd H' b (.lst ((f k).map V.int ++ [V.int x]))) r bs (fun j=>if j=k then f j ++ [x] else f j):=by
 have hm:b ∈ bs:=bj1 hb
 refine⟨h.new,h.news,h.nd,by rw [aR (Ne.symm (h.news b hm).2)]; exact h.row,fun j c hc=>?_,fun c o e=>by rw [aR (cH e (h.news b hm).1)]; exact h.same c o e⟩
 by_cases hj:j=k
 ·subst hj
  rw [hb] at hc; cases hc
  rw [bE,if_pos rfl]; simp
 ·rw [if_neg hj]
  have ne:c ≠ b:=fun z=>by
   subst z
   obtain ⟨i1,e1⟩:=bh7.mp hb
   obtain ⟨i2,e2⟩:=bh7.mp hc
   refine hj (Nat.le_antisymm (bv0 fun z=>?_) (bv0 fun z=>?_))
   ·exact bm5.mp h.nd _ _ i1 i2 z (e1.trans e2.symm)
   ·exact bm5.mp h.nd _ _ i2 i1 z (e2.trans e1.symm)
  rw [aR ne]; exact h.rows j c hc
theorem jV (ls:List (Int × Int)) (k:Int):(bL ls k).length<=2 * ls.length:=by
 induction ls with
 | nil=>exact bh0 _
 | cons l r ih=>
  have e:bL (l :: r) k=((if l.1=k then [l.2] else []) ++ (if l.2=k then [l.1] else [])) ++ bL r k:=rfl
  rw [e,bi3,bi3,bk2]
  have h1:(if l.1=k then [l.2] else []).length<=1:=by split <;> simp
  have h2:(if l.2=k then [l.1] else []).length<=1:=by split <;> simp
  omega
theorem kT {α:Type}{xs:List α}{i:Int}{v:α} (h0:0<=i) (h:xs[i.toNat]? = some v):atI xs i=some v:=by
 have:=nN h
 rwa [show ((i.toNat:Nat):Int)=i by omega] at this
theorem i4 {n:Nat} (h:n<=16000000):n < sizeLine:=by rw [sizeLine_eq]; omega
theorem o0 {σ:St}{H:Hp}{A B:Hp->Prop} (h:A H):v7 σ H fun b H4=>if b=true then A H4 else B H4:=by
 show if true=true then A H else B H
 rw [if_pos rfl]; exact h
theorem m6 {K:PySem.W.Frag}{H:Hp}{p:Addr}{xs:List V} (h:aH K H p xs):hJ K "list" (.ref p) H:=.inl ⟨rfl,xs,h⟩
def o3 (H:Hp) (y:V):Int × Int:=match F7 H y with
 | [a,b]=>(a,b)
 | _=>(0,0)
theorem qN {H:Hp}:∀ {zs:List V},(∀ y ∈ zs,∃ b,y = .ref b/\H b=some (.tup [.int (o3 H y).1,.int (o3 H y).2])/\F7 H y = [(o3 H y).1,(o3 H y).2])->m5 H zs (zs.map (o3 H))
 | [],_=>.nil
 | y :: zs,h=>by
  obtain ⟨b,e,hb,_⟩:=h y bi4
  exact .cons ⟨b,e,hb⟩ (qN fun z hz=>h z (bi9 _ hz))
theorem G3 (ns:List Int) (lo hi:Option Int):∃ ms:List Int,dI (ns.map V.int) lo hi=ms.map V.int/\ms.length<=ns.length:=by
 unfold dI
 refine⟨_,by rw [<- List.map_drop,<- List.map_take],?_⟩
 rw [bn9,bp8]; omega
end L2
namespace Zp
open PySem PyProof.Rows
section
variable {prog : Program} {w : World} {A : Around} {E : Value → Shared → Prop} {s : Shared}
theorem G4 {it t:Addr}{i:Nat}{items:Array Value}{x:Value}{Q:Value->Shared->Prop} (hi:s.heap.IsTupleIter it t i) (ht:s.heap.IsTuple t items) (hx:items[i]? = some x)
  (q:∀ h',h'.IsTupleIter it t (i+1)->Heap.SameBut it s.heap h'->Q x { s with heap:=h' }):wpAny (model prog w) A (Builtin.SmallTypes.nextOf (.ref it)) Q E s:=by
 have T:=hi.typeIs
 obtain ⟨o,e1,e2,e3⟩:=hi
 obtain ⟨u,f1,_,k,f3⟩:=ht
 have slot:=PySem.F.slot_tuple_iterator_next
 have isref:(Value.ref t == Value.none)=false:=rfl
 unfold Builtin.SmallTypes.nextOf
 apply bg5
 apply bn4 (name:=Str.ofString "__next__") T slot
 apply bn0 slot T PySem.F.entry_tuple_iterator_next _ (PySem.F.args_tuple_iterator_next_1 _)
 change wpAny _ _ (field (.ref it) 0 >>= _) _ _ s
 apply bg5
 refine bn3 e1 e3 (x:=.ref t) rfl ?_
 change wpAny _ _ (if (Value.ref t == Value.none)=true then _ else _) _ _ s
 simp only [isref,bj4,bo4]
 change wpAny _ _ (field (.ref it) 1 >>= _) _ _ s
 apply bg5
 refine bn3 e1 e3 (x:=.int i 0) rfl ?_
 change wpAny _ _ (seqItems? (.ref t) >>= _) _ _ s
 apply bg5
 apply bv4 f1 f3
 simp only [bl3,hx]
 apply bg5
 refine wpAny_setField e1 e3 (by simp) ?_
 apply bg9
 refine⟨x,rfl,bg9 (q _ ⟨_,Heap.get?_update_self _ e1 (Obj.isFreed_of_fields (Obj.data_mapFields e3 _)),?_,?_⟩ (bu8 ..))⟩
 ·rw [Obj.cls_mapFields]; exact e2
 ·rw [Obj.data_mapFields e3]; simp [rawInt]
theorem G5 {it t:Addr}{i:Nat}{items:Array Value}{Q:Value->Shared->Prop} (hh:A.handled=none) (hi:s.heap.IsTupleIter it t i) (ht:s.heap.IsTuple t items) (hx:items[i]? = none)
  (q:∀ h' e,Heap.ExtBut it s.heap h'->(∃ o,h'.get? e=some o/\o.cls = .type "StopIteration")->E (.ref e) { s with heap:=h' }):wpAny (model prog w) A (Builtin.SmallTypes.nextOf (.ref it)) Q E s:=by
 have T:=hi.typeIs
 obtain ⟨o,e1,e2,e3⟩:=hi
 obtain ⟨u,f1,_,k,f3⟩:=ht
 have slot:=PySem.F.slot_tuple_iterator_next
 have isref:(Value.ref t == Value.none)=false:=rfl
 unfold Builtin.SmallTypes.nextOf
 apply bg5
 apply bn4 (name:=Str.ofString "__next__") T slot
 apply bn0 slot T PySem.F.entry_tuple_iterator_next _ (PySem.F.args_tuple_iterator_next_1 _)
 change wpAny _ _ (field (.ref it) 0 >>= _) _ _ s
 apply bg5
 refine bn3 e1 e3 (x:=.ref t) rfl ?_
 change wpAny _ _ (if (Value.ref t == Value.none)=true then _ else _) _ _ s
 simp only [isref,bj4,bo4]
 change wpAny _ _ (field (.ref it) 1 >>= _) _ _ s
 apply bg5
 refine bn3 e1 e3 (x:=.int i 0) rfl ?_
 change wpAny _ _ (seqItems? (.ref t) >>= _) _ _ s
 apply bg5
 apply bv4 f1 f3
 simp only [bl3,hx]
 apply bg5
 apply bu6
 apply bg5
 refine wpAny_setField e1 e3 (by simp) ?_
 apply bg5
 simp only [newExc,newTuple]
 apply bg5
 refine bn1 ?_ (by size_fits)
 apply bg5
 refine wpAny_of_eq (a:=Value.none) (by first | rfl | (simp only [firstArgMember]; rfl)) ?_
 refine bn1 ?_ (by size_fits)
 unfold raiseNew
 apply bg5
 apply wpAny_handled
 have quiet:A.in1.handled=none:=hh
 rw [quiet]
 refine wpAny_throw ?_
 exact q _ _ (((bu8 ..).extBut.push _).push _) ⟨_,bi0 _ rfl,rfl⟩
theorem av1 (hh:A.handled=none) (it t:Addr) (ne:t ≠ it) (items:Array Value):Draws prog w A it [it,t] items.size (fun i v=>items[i]? = some v) (fun i h=>h.IsTupleIter it t i/\h.IsTuple t items) where
 live:=fun _ _ st=>st.1.elim fun o y=>⟨o,y.1⟩
 frame:=fun _ _ _ st k=>⟨st.1.at fun o e=>k it bi4 o e,st.2.elim fun o y=>⟨o,k t (bi9 _ bi4) o y.1,y.2⟩⟩
 item:=fun i s Q E lt st q=>G4 st.1 st.2 (Array.getElem?_eq_getElem lt) fun h' again sb=>q _ h' s.toks (Array.getElem?_eq_getElem lt) ⟨again,st.2.elim fun o y=>⟨o,sb.extBut t o ne y.1,y.2⟩⟩ sb
 done:=fun s Q E st q=>G5 hh st.1 st.2 (Array.getElem?_eq_none (bh0 _)) q
end
structure Ap (z TI TO i1 i2:Addr) (fp1 fp2:List Addr):Prop where
 TIz:TI ≠ z
 TOz:TO ≠ z
 TITO:TI ≠ TO
 z1:z ∉ fp1
 z2:z ∉ fp2
 o1:TO ∉ fp1
 o2:TO ∉ fp2
 t1:TI ∉ fp1
 t2:TI ∉ fp2
 m1:i1 ∈ fp1
 m2:i2 ∈ fp2
 n1:i1 ∉ fp2
 n2:i2 ∉ fp1
structure vC (z TI TO i1 i2:Addr) (St1 St2:Nat->Heap->Prop) (f0:Value) (i j:Nat) (h:Heap):Prop where
 zz:IsZip h z TI TO f0
 ti:IsPair h TI (.ref i1) (.ref i2)
 to_:∃ a b,IsPair h TO a b
 s1:St1 i h
 s2:St2 j h
section
variable {prog : Program} {w : World} {A : Around} {E : Value → Shared → Prop} {s : Shared} {z TI TO i1 i2 : Addr} {fp1 fp2 : List Addr} {n1 n2 : Nat} {P1 P2 : Nat → Value → Prop} {St1 St2 : Nat → Heap → Prop}
theorem m7 (ap:Ap z TI TO i1 i2 fp1 fp2) {b:Addr} (h:b ∉ fp1):b ≠ i1:=fun e=>h (e ▸ ap.m1)
theorem qO (ap:Ap z TI TO i1 i2 fp1 fp2) {b:Addr} (h:b ∉ fp2):b ≠ i2:=fun e=>h (e ▸ ap.m2)
theorem item (D1:Draws prog w A.in1 i1 fp1 n1 P1 St1) (D2:Draws prog w A.in1 i2 fp2 n2 P2 St2) (ap:Ap z TI TO i1 i2 fp1 fp2) {i:Nat} (l1:i < n1) (l2:i < n2) (st:vC z TI TO i1 i2 St1 St2 .none i i s.heap) {Q:Option Value->Shared->Prop}
  (q:∀ x y h' tk,P1 i x->P2 i y->vC z TI TO i1 i2 St1 St2 (rawInt s.heap.objs.size) (i+1) (i+1) h'->IsPair h' s.heap.objs.size x y->(∀ c o,c ≠ z->c ≠ TO->c ≠ i1->c ≠ i2->s.heap.get? c=some o->h'.get? c=some o)->
   h'.objs.size=s.heap.objs.size+1->Q (some (.ref s.heap.objs.size)) { s with heap:=h',toks:=tk }):wpAny (model prog w) A (pyNext (.ref z)) Q E s:=by
 obtain ⟨hz,hti,⟨a,b,hto⟩,h1,h2⟩:=st
 have T:s.TypeIs (.ref z) "zip":=⟨_,hz,rfl⟩
 have slot:=PySem.F.slot_zip_next
 unfold pyNext
 apply bg5
 apply wpAny_attempt
 apply bn4 (name:=Str.ofString "__next__") T slot
 apply bn0 slot T PySem.F.entry_zip_next _ (PySem.F.args_zip_next_1 _)
 change wpAny _ _ (field (.ref z) 2 >>= _) _ _ _
 apply bg5
 refine bn3 hz rfl (x:=.bool false) rfl ?_
 change wpAny _ _ (field (.ref z) 3 >>= _) _ _ _
 apply bg5
 refine bn3 hz rfl (x:=.ref TI) rfl ?_
 apply bg5
 apply bv4 hti rfl
 change wpAny _ _ (Builtin.SmallTypes.ownedTupleIsFree (.ref z) >>= _) _ _ _
 apply bg5
 unfold Builtin.SmallTypes.ownedTupleIsFree
 apply bg5
 refine bn3 hz rfl (x:=.none) rfl (bg9 ?_)
 simp only [if_true]
 apply bg5
 apply bu6
 apply bg5
 refine bn3 hz rfl (x:=.ref TO) rfl ?_
 apply bg5
 refine bo3 hz (by simp) fun g1 hz1 sb1=>?_
 have k1:∀ c o,c ≠ z->s.heap.get? c=some o->g1.get? c=some o:=fun c o c1 e=>sb1.extBut c o c1 e
 apply bg5
 simp only [List.zipIdx_cons,List.zipIdx_nil,List.forIn_cons,List.forIn_nil]
 apply bg5
 apply bg5
 apply wpAny_onRaise
 change wpAny _ _ (Builtin.SmallTypes.nextOf (.ref i1) >>= _) _ _ _
 apply bg5
 refine D1.item i { s with heap:=g1 } _ _ l1 (D1.frame _ _ _ h1 fun c hc o e=>k1 c o (fun y=>ap.z1 (y ▸ hc)) e) fun x g2 tk2 px st1 sb2=>bg9 ?_
 have k2:∀ c o,c ≠ z->c ≠ i1->s.heap.get? c=some o->g2.get? c=some o:=fun c o c1 c2 e=>sb2.extBut c o c2 (k1 c o c1 e)
 have to2:IsPair g2 TO a b:=k2 _ _ ap.TOz (m7 ap ap.o1) hto
 apply bg5
 apply bv4 to2 rfl
 apply bg5
 refine wpAny_updateSeq_pair to2 fun g3 to3 sb3=>?_
 have to3:IsPair g3 TO x b:=to3
 apply bg5
 apply wpAny_letGo
 apply bg9
 apply bg5
 apply bg5
 apply wpAny_onRaise
 change wpAny _ _ (Builtin.SmallTypes.nextOf (.ref i2) >>= _) _ _ _
 apply bg5
 have k3:∀ c o,c ≠ z->c ≠ i1->c ≠ TO->s.heap.get? c=some o->g3.get? c=some o:=fun c o c1 c2 c3 e=>sb3.extBut c o c3 (k2 c o c1 c2 e)
 refine D2.item i { s with heap:=g3,toks:=tk2 } _ _ l2 (D2.frame _ _ _ h2 fun c hc o e=>k3 c o (fun y=>ap.z2 (y ▸ hc)) (fun y=>ap.n1 (y ▸ hc)) (fun y=>ap.o2 (y ▸ hc)) e) fun y g4 tk4 py st2 sb4=>bg9 ?_
 have to4:IsPair g4 TO x b:=sb4.extBut _ _ (qO ap ap.o2) to3
 apply bg5
 apply bv4 to4 rfl
 apply bg5
 refine wpAny_updateSeq_pair to4 fun g5 to5 sb5=>?_
 have to5:IsPair g5 TO x y:=to5
 apply bg5
 apply wpAny_letGo
 apply bg9
 apply bg9
 apply bg5
 apply bv4 to5 rfl
 apply bg5
 refine wpAny_newTuple ?_ (by show 2<=sizeLine; decide)
 have size:g5.objs.size=s.heap.objs.size:=by rw [sb5.1,sb4.1,sb3.1,sb2.1,sb1.1]
 have k5:∀ c o,c ≠ z->c ≠ TO->c ≠ i1->c ≠ i2->s.heap.get? c=some o->g5.get? c=some o:=fun c o c1 c2 c3 c4 e=>sb5.extBut c o c2 (sb4.extBut c o c4 (k3 c o c1 c3 c2 e))
 have z5:IsZip g5 z TI TO .ellipsis:=sb5.extBut _ _ (Ne.symm ap.TOz) (sb4.extBut _ _ (qO ap ap.z2) (sb3.extBut _ _ (Ne.symm ap.TOz) (sb2.extBut _ _ (m7 ap ap.z1) hz1)))
 change wpAny _ _ (Builtin.SmallTypes.ownedTupleHandOut (.ref z) (.ref g5.objs.size) >>= _) _ _ _
 apply bg5
 unfold Builtin.SmallTypes.ownedTupleHandOut
 apply bg5
 have z6:IsZip (g5.push { cls:=.type "tuple",data:=.seq #[x,y] }) z TI TO .ellipsis:=bg6 _ z5
 refine bo3 z6 (by simp) fun g7 z7 sb7=>?_
 have z7:IsZip g7 z TI TO (rawInt g5.objs.size):=z7
 refine bo3 z7 (by simp) fun g8 z8 sb8=>?_
 have z8:IsZip g8 z TI TO (rawInt g5.objs.size):=z8
 have zlt:z < g5.objs.size:=bi1 z5
 have up:∀ c o,c ≠ z->g5.get? c=some o->g8.get? c=some o:=fun c o c1 e=>sb8.extBut c o c1 (sb7.extBut c o c1 (bg6 _ e))
 have p8:IsPair g8 g5.objs.size x y:=sb8.extBut _ _ (bp6 zlt) (sb7.extBut _ _ (bp6 zlt) (bi0 _ rfl))
 have s8:g8.objs.size=g5.objs.size+1:=by rw [sb8.1,sb7.1,bq4]
 have f1:St1 (i+1) g8:=D1.frame _ _ _ st1 fun c hc o e=>up c o (fun y=>ap.z1 (y ▸ hc)) (sb5.extBut c o (fun y=>ap.o1 (y ▸ hc)) (sb4.extBut c o (fun y=>ap.n2 (y ▸ hc)) (sb3.extBut c o (fun y=>ap.o1 (y ▸ hc)) e)))
 have f2:St2 (i+1) g8:=D2.frame _ _ _ st2 fun c hc o e=>up c o (fun y=>ap.z2 (y ▸ hc)) (sb5.extBut c o (fun y=>ap.o2 (y ▸ hc)) e)
 have ti8:IsPair g8 TI (.ref i1) (.ref i2):=up _ _ ap.TIz (k5 _ _ ap.TIz ap.TITO (m7 ap ap.t1) (qO ap ap.t2) hti)
 rw [size] at z8 p8 s8
 apply bg9
 refine⟨_,rfl,bg9 ?_⟩
 change Q (some (.ref g5.objs.size)) _
 rw [size]
 exact q x y g8 tk4 px py ⟨z8,ti8,⟨x,y,up _ _ ap.TOz to5⟩,f1,f2⟩ p8 (fun c o c1 c2 c3 c4 e=>up c o c1 (k5 c o c1 c2 c3 c4 e)) s8
theorem fin (D1:Draws prog w A.in1 i1 fp1 n1 P1 St1) (D2:Draws prog w A.in1 i2 fp2 n2 P2 St2) (ap:Ap z TI TO i1 i2 fp1 fp2) {i:Nat} (le:i=n1 ∨ (i < n1/\i=n2)) (st:vC z TI TO i1 i2 St1 St2 .none i i s.heap) {Q:Option Value->Shared->Prop}
  (q:∀ h' tk,(∀ c o,c ≠ z->c ≠ TO->c ≠ i1->c ≠ i2->s.heap.get? c=some o->h'.get? c=some o)->Q none { s with heap:=h',toks:=tk }):wpAny (model prog w) A (pyNext (.ref z)) Q E s:=by
 obtain ⟨hz,hti,⟨a,b,hto⟩,h1,h2⟩:=st
 have T:s.TypeIs (.ref z) "zip":=⟨_,hz,rfl⟩
 have slot:=PySem.F.slot_zip_next
 unfold pyNext
 apply bg5
 apply wpAny_attempt
 apply bn4 (name:=Str.ofString "__next__") T slot
 apply bn0 slot T PySem.F.entry_zip_next _ (PySem.F.args_zip_next_1 _)
 change wpAny _ _ (field (.ref z) 2 >>= _) _ _ _
 apply bg5
 refine bn3 hz rfl (x:=.bool false) rfl ?_
 change wpAny _ _ (field (.ref z) 3 >>= _) _ _ _
 apply bg5
 refine bn3 hz rfl (x:=.ref TI) rfl ?_
 apply bg5
 apply bv4 hti rfl
 change wpAny _ _ (Builtin.SmallTypes.ownedTupleIsFree (.ref z) >>= _) _ _ _
 apply bg5
 unfold Builtin.SmallTypes.ownedTupleIsFree
 apply bg5
 refine bn3 hz rfl (x:=.none) rfl (bg9 ?_)
 simp only [if_true]
 apply bg5
 apply bu6
 apply bg5
 refine bn3 hz rfl (x:=.ref TO) rfl ?_
 apply bg5
 refine bo3 hz (by simp) fun g1 hz1 sb1=>?_
 have k1:∀ c o,c ≠ z->s.heap.get? c=some o->g1.get? c=some o:=fun c o c1 e=>sb1.extBut c o c1 e
 apply bg5
 simp only [List.zipIdx_cons,List.zipIdx_nil,List.forIn_cons,List.forIn_nil]
 apply bg5
 apply bg5
 apply wpAny_onRaise
 change wpAny _ _ (Builtin.SmallTypes.nextOf (.ref i1) >>= _) _ _ _
 apply bg5
 have z1:IsZip g1 z TI TO .ellipsis:=hz1
 rcases le with rfl | ⟨lt,rfl⟩
 ·refine D1.done { s with heap:=g1 } _ _ (D1.frame _ _ _ h1 fun c hc o e=>k1 c o (fun y=>ap.z1 (y ▸ hc)) e) fun g2 e eb ex=>?_
  have z2:IsZip g2 z TI TO .ellipsis:=eb _ _ (m7 ap ap.z1) z1
  refine bo3 z2 (by simp) fun g3 z3 sb3=>?_
  obtain ⟨oe,eo,co⟩:=ex
  have ne:e ≠ z:=fun y=>by
   rw [y,z2] at eo
   have:=bj9 eo
   rw [<- this] at co; exact absurd (show Value.type "zip" = Value.type "StopIteration" from co) (by decide)
  apply bg5
  refine wpAny_isInstance (T:="StopIteration") (b:=true) ⟨oe,sb3.extBut _ _ ne eo,co⟩ isSubtype_stop ?_
  exact bg9 (q g3 s.toks fun c o c1 _ c3 _ e=>sb3.extBut c o c1 (eb c o c3 (k1 c o c1 e)))
 ·refine D1.item i { s with heap:=g1 } _ _ lt (D1.frame _ _ _ h1 fun c hc o e=>k1 c o (fun y=>ap.z1 (y ▸ hc)) e) fun x g2 tk2 px st1 sb2=>bg9 ?_
  have k2:∀ c o,c ≠ z->c ≠ i1->s.heap.get? c=some o->g2.get? c=some o:=fun c o c1 c2 e=>sb2.extBut c o c2 (k1 c o c1 e)
  have to2:IsPair g2 TO a b:=k2 _ _ ap.TOz (m7 ap ap.o1) hto
  apply bg5
  apply bv4 to2 rfl
  apply bg5
  refine wpAny_updateSeq_pair to2 fun g3 to3 sb3=>?_
  apply bg5
  apply wpAny_letGo
  apply bg9
  apply bg5
  apply bg5
  apply wpAny_onRaise
  change wpAny _ _ (Builtin.SmallTypes.nextOf (.ref i2) >>= _) _ _ _
  apply bg5
  have k3:∀ c o,c ≠ z->c ≠ i1->c ≠ TO->s.heap.get? c=some o->g3.get? c=some o:=fun c o c1 c2 c3 e=>sb3.extBut c o c3 (k2 c o c1 c2 e)
  refine D2.done { s with heap:=g3,toks:=tk2 } _ _ (D2.frame _ _ _ h2 fun c hc o e=>k3 c o (fun y=>ap.z2 (y ▸ hc)) (fun y=>ap.n1 (y ▸ hc)) (fun y=>ap.o2 (y ▸ hc)) e) fun g4 e eb ex=>?_
  have z4:IsZip g4 z TI TO .ellipsis:=eb _ _ (qO ap ap.z2) (sb3.extBut _ _ (Ne.symm ap.TOz) (sb2.extBut _ _ (m7 ap ap.z1) z1))
  refine bo3 z4 (by simp) fun g5 z5 sb5=>?_
  obtain ⟨oe,eo,co⟩:=ex
  have ne:e ≠ z:=fun y=>by
   rw [y,z4] at eo
   have:=bj9 eo
   rw [<- this] at co; exact absurd (show Value.type "zip" = Value.type "StopIteration" from co) (by decide)
  apply bg5
  refine wpAny_isInstance (T:="StopIteration") (b:=true) ⟨oe,sb5.extBut _ _ ne eo,co⟩ isSubtype_stop ?_
  exact bg9 (q g5 tk2 fun c o c1 c2 c3 c4 e=>sb5.extBut c o c1 (eb c o c4 (k3 c o c1 c3 c2 e)))
end
def fM (h:Heap) (t u:Addr):Heap:=
 ((((h.push { cls:=.type "tuple_iterator",data:=.fields #[.ref t,.int 0 0] }).push { cls:=.type "tuple_iterator",data:=.fields #[.ref u,.int 0 0] }).push { cls:=.type "tuple",data:=.seq #[.ref h.objs.size,.ref (h.objs.size+1)] }).push
  { cls:=.type "tuple",data:=.seq #[.none,.none] }).push { cls:=.type "zip",data:=.fields #[.none,.bool false,.bool false,.ref (h.objs.size+2),.ref (h.objs.size+3)] }
theorem av2 (t u:Addr) (xs ys:Array Value):Meets (Builtin.«zip.__new__» ⟨[.type "zip",.ref t,.ref u],[]⟩) (fun _ R s=>s.heap.IsTuple t xs/\s.heap.IsTuple u ys/\R (.ok (.ret (.ref (s.heap.objs.size+4)))) { s with heap:=fM s.heap t u }):=
 .of_wp fun prog w A R s h=>by
  obtain ⟨hp,g,d,tk,os⟩:=s
  obtain ⟨ht,hu,h⟩:=h
  have sub:=sub_zip
  have a1:Heap.IsTuple (Shared.heap ⟨hp,g,d,tk,os⟩) t xs:=ht
  have a2:Heap.IsTuple (Shared.heap ⟨hp.push { cls:=.type "tuple_iterator",data:=.fields #[.ref t,.int 0 0] },g,d,tk,os⟩) u ys:=hu.elim fun o y=>⟨o,bg6 _ y.1,y.2⟩
  wp_walk using bs6 a1,bs6 a2
  have e:∀ (o:Obj) (k:Heap),(k.push o).objs.size=k.objs.size+1:=fun o k=>bq4 ..
  refine⟨_,rfl,?_⟩
  simp only [fM,e] at h ⊢
  exact h
section
variable {prog : Program} {w : World} {A : Around} {E : Value → Shared → Prop} {s : Shared}
theorem G6 {t u:Addr}{xs ys:Array Value}{Q:Value->Shared->Prop} (ht:s.heap.IsTuple t xs) (hu:s.heap.IsTuple u ys)
  (q:∀ h',IsZip h' (s.heap.objs.size+4) (s.heap.objs.size+2) (s.heap.objs.size+3) .none->IsPair h' (s.heap.objs.size+2) (.ref s.heap.objs.size) (.ref (s.heap.objs.size+1))->
   IsPair h' (s.heap.objs.size+3) .none .none->h'.IsTupleIter s.heap.objs.size t 0->h'.IsTupleIter (s.heap.objs.size+1) u 0->(∀ c o,s.heap.get? c=some o->h'.get? c=some o)->Q (.ref (s.heap.objs.size+4)) { s with heap:=h' }) :
  wpAny (model prog w) A (call (.type "zip") [.ref t,.ref u]) Q E s:=by
 refine callType_new PySem.F.called_zip (by decide) (PySem.F.typeCall_zip_2 _ _) (PySem.F.newCall_zip_2 _ _) (fun obj=>PySem.F.args_object_init_3 obj _ _) PySem.F.entry_zip_new (av2 t u xs ys) ⟨ht,hu,?_⟩
 have e:∀ (o:Obj) (k:Heap),(k.push o).objs.size=k.objs.size+1:=fun o k=>bq4 ..
 have p0:∀ (k:Heap) (o:Obj) (m:Nat),o.isFreed=false->m=k.objs.size->(k.push o).get? m=some o:=fun k o m f z=>by rw [z]; exact bi0 _ f
 have g0:(fM s.heap t u).get? s.heap.objs.size=some { cls:=.type "tuple_iterator",data:=.fields #[.ref t,.int 0 0] }:=by
  unfold fM
  exact bg6 _ (bg6 _ (bg6 _ (bg6 _ (p0 _ _ _ rfl rfl))))
 have g1:(fM s.heap t u).get? (s.heap.objs.size+1)=some { cls:=.type "tuple_iterator",data:=.fields #[.ref u,.int 0 0] }:=by
  unfold fM
  exact bg6 _ (bg6 _ (bg6 _ (p0 _ _ _ rfl (by simp only [e]))))
 have g2:(fM s.heap t u).get? (s.heap.objs.size+2)=some { cls:=.type "tuple",data:=.seq #[.ref s.heap.objs.size,.ref (s.heap.objs.size+1)] }:=by
  unfold fM
  exact bg6 _ (bg6 _ (p0 _ _ _ rfl (by simp only [e])))
 have g3:(fM s.heap t u).get? (s.heap.objs.size+3)=some { cls:=.type "tuple",data:=.seq #[.none,.none] }:=by
  unfold fM
  exact bg6 _ (p0 _ _ _ rfl (by simp only [e]))
 have g4:(fM s.heap t u).get? (s.heap.objs.size+4)=some { cls:=.type "zip",data:=.fields #[.none,.bool false,.bool false,.ref (s.heap.objs.size+2),.ref (s.heap.objs.size+3)] }:=by
  unfold fM
  exact p0 _ _ _ rfl (by simp only [e])
 refine⟨⟨_,g4,rfl⟩,q _ g4 g2 g3 ⟨_,g0,rfl,rfl⟩ ⟨_,g1,rfl,rfl⟩ fun c o z=>?_⟩
 unfold fM
 exact bg6 _ (bg6 _ (bg6 _ (bg6 _ (bg6 _ z))))
end
end Zp
namespace L2
open PySem PySem.Spec PyProof.Rows
def o4 (K:PySem.W.Frag) (a b:Addr):It:=
  ⟨fun i H=>∃ xs ys x y,aF K H a xs/\aF K H b ys/\xs[i]? = some x/\ys[i]? = some y,
   fun i H v H'=>∃ T x y,H T=none/\v = .ref T/\H'=upd H T (.tup [x,y])/\∀ xs ys,aF K H a xs->aF K H b ys->xs[i]? = some x/\ys[i]? = some y,
   fun i H=>∃ xs ys,aF K H a xs/\aF K H b ys/\(i=xs.length ∨ (i < xs.length/\i=ys.length))⟩
def Sq (t:Bool) (K:PySem.W.Frag) (H:Hp) (a:Addr) (xs:List V):Prop:=match t with
 | true=>aF K H a xs
 | false=>aH K H a xs
def fN (t:Bool) (h:Heap) (i a:Addr) (n:Nat):Prop:=match t with
 | true=>h.IsTupleIter i a n
 | false=>h.IsListIter i a n
def G7 (t:Bool) (h:Heap) (a:Addr) (xs:Array Value):Prop:=match t with
 | true=>h.IsTuple a xs
 | false=>h.IsList a xs
theorem fN.at {h h':Heap}{i a:Addr}{n:Nat}:∀ {t:Bool},fN t h i a n->(∀ o,h.get? i=some o->h'.get? i=some o)->fN t h' i a n
 | true,x,k=>Heap.IsTupleIter.at x k
 | false,x,k=>Heap.IsListIter.at x k
theorem fN.ob {h:Heap}{i a:Addr}{n:Nat}:∀ {t:Bool},fN t h i a n->∃ o,h.get? i=some o/\∀ v,o.data ≠ .cell v
 | true,⟨o,f,_,d⟩=>⟨o,f,fun v q=>by rw [d] at q; cases q⟩
 | false,⟨o,f,_,d⟩=>⟨o,f,fun v q=>by rw [d] at q; cases q⟩
theorem fN.draws {prog:Program}{w:World}{A:Around}:∀ (t:Bool) (hh:A.handled=none) (it a:Addr) (ne:a ≠ it) (items:Array Value),Draws prog w A it [it,a] items.size (fun i v=>items[i]? = some v) (fun i h=>fN t h it a i/\G7 t h a items)
 | true,hh,it,a,ne,items=>Zp.av1 hh it a ne items
 | false,hh,it,a,ne,items=>Draws.list hh it a ne items
section
variable {X : Cx} {pins : List (Addr × Obj)} {σ : St} {H : Hp} {s : Shared} {a : Addr} {xs ys : List V}
theorem Sq.get (I:a8 X pins σ H s):∀ {t:Bool},Sq t X.K H a xs->∃ us,aN xs us/\G7 t s.heap a us.toArray
 | true,h=>by obtain ⟨us,r,p,_⟩:=I.tuple h; exact⟨us,r,p⟩
 | false,h=>by obtain ⟨us,r,p,_⟩:=I.list h; exact⟨us,r,p.isList⟩
theorem Sq.inj (I:a8 X pins σ H s):∀ {t:Bool},Sq t X.K H a xs->Sq t X.K H a ys->xs=ys
 | true,h,g=>I.tuple_inj h g
 | false,h,g=>I.list_inj h g
theorem Sq.off (I:a8 X pins σ H s) (he:H a=none) (hb:X.base.get? a=none):∀ {t:Bool},Sq t X.K H a xs->False
 | true,h=>by
  rcases h with (h | ⟨_,h⟩) | ⟨o,_,_,h,_⟩
  ·rw [he] at h; cases h
  ·rw [he] at h; cases h
  ·have:=I.ok.mod.kin a o h
   rw [hb] at this; cases this
 | false,h=>by
  rcases h with (h | ⟨_,h⟩) | ⟨o,_,_,h,_⟩
  ·rw [he] at h; cases h
  ·rw [he] at h; cases h
  ·have:=I.ok.mod.kin a o h
   rw [hb] at this; cases this
end
def av3 (t1 t2:Bool) (K:PySem.W.Frag) (a b:Addr):It:=
  ⟨fun i H=>∃ xs ys x y,Sq t1 K H a xs/\Sq t2 K H b ys/\xs[i]? = some x/\ys[i]? = some y,
   fun i H v H'=>∃ T x y,H T=none/\v = .ref T/\H'=upd H T (.tup [x,y])/\∀ xs ys,Sq t1 K H a xs->Sq t2 K H b ys->xs[i]? = some x/\ys[i]? = some y,
   fun i H=>∃ xs ys,Sq t1 K H a xs/\Sq t2 K H b ys/\(i=xs.length ∨ (i < xs.length/\i=ys.length))⟩
structure qP (t1 t2:Bool) (z TI TO i1 i2 a b:Addr) (i:Nat) (h:Heap):Prop where
 zz:IsZip h z TI TO .none
 ti:IsPair h TI (.ref i1) (.ref i2)
 to_:∃ x y,IsPair h TO x y
 s1:fN t1 h i1 a i
 s2:fN t2 h i2 b i
theorem vD (t1 t2:Bool) {P:Program}{w:World}{K:PySem.W.Frag}{elts:List Expr}{k:Nat}{pos:Pos} (a b z TI TO i1 i2:Addr) (d : [z,TI,TO,i1,i2].Nodup) :
  gW P w K (.Tuple elts k pos) (av3 t1 t2 K a b) [z,TI,TO,i1,i2] z (qP t1 t2 z TI TO i1 i2 a b):=by
 have nd:z ≠ TI/\z ≠ TO/\z ≠ i1/\z ≠ i2/\TI ≠ TO/\TI ≠ i1/\TI ≠ i2/\TO ≠ i1/\TO ≠ i2/\i1 ≠ i2:=by
  simp only [bu5,bh1,bh5,bl0,not_or] at d
  obtain ⟨⟨a1,a2,a3,a4⟩,⟨b1,b2,b3⟩,⟨c1,c2⟩,e1,_⟩:=d
  exact⟨a1,a2,a3,a4,b1,b2,b3,c1,c2,e1⟩
 obtain ⟨n1,n2,n3,n4,n5,n6,n7,n8,n9,n10⟩:=nd
 have offBase:∀ {X:Cx}{pins:List (Addr × Obj)}{σ:St}{H:Hp}{s:Shared},a8 X pins σ H s->(∀ c ∈ [z,TI,TO,i1,i2],gA X pins H c)->∀ c ∈ [z,TI,TO,i1,i2],X.base.get? c=none:=by
  intro X pins σ H s I hf c hc
  cases q:X.base.get? c with
  | none=>rfl
  | some o=>
   rcases (hf c hc).2.2.2.1 with h | h
   ·exact absurd h (I.ok.noex c o q)
   ·exact absurd (bi2 (bi1 q) (bk3 I.ok.bsz h)) (bo2 _)
 have off:∀ {t:Bool}{X:Cx}{pins:List (Addr × Obj)}{σ:St}{H:Hp}{s:Shared}{c:Addr}{zs:List V},a8 X pins σ H s->(∀ c ∈ [z,TI,TO,i1,i2],gA X pins H c)->Sq t X.K H c zs->c ∉ [z,TI,TO,i1,i2]:=by
  intro t X pins σ H s c zs I hf hc hm
  exact Sq.off I (hf c hm).1 (offBase I hf c hm) hc
 have ap:∀ {c e:Addr},c ∉ [z,TI,TO,i1,i2]->e ∉ [z,TI,TO,i1,i2]->Zp.Ap z TI TO i1 i2 [i1,c] [i2,e]:=fun {c e} hc he=>by
  simp only [bh1,bh5,bl0,not_or] at hc he
  obtain ⟨c1,c2,c3,c4,c5⟩:=hc
  obtain ⟨e1,e2,e3,e4,e5⟩:=he
  have two:∀ {q u v:Addr},q ≠ u->q ≠ v->q ∉ [u,v]:=fun {q u v} h1 h2 hm=>by
   simp only [bh1,bh5,bl0] at hm
   exact hm.elim h1 h2
  exact⟨n1.symm,n2.symm,n5,two n3 (Ne.symm c1),two n4 (Ne.symm e1),two n8 (Ne.symm c3),two n9 (Ne.symm e3),two n6 (Ne.symm c2),two n7 (Ne.symm e2),bi4,bi4,two n10 (Ne.symm e4),two n10.symm (Ne.symm c5)⟩
 refine⟨by simp,fun i h st c hc=>?_,fun i h h' st kp=>?_,?_,?_,fun A i s Q E st q=>wpAny_pyIter_zip st.zz q⟩
 ·simp only [bh1,bh5,bl0] at hc
  obtain ⟨x,y,to⟩:=st.to_
  rcases hc with rfl | rfl | rfl | rfl | rfl
  ·exact⟨_,st.zz,fun v q=>by cases q⟩
  ·exact⟨_,st.ti,fun v q=>by cases q⟩
  ·exact⟨_,to,fun v q=>by cases q⟩
  ·exact st.s1.ob
  ·exact st.s2.ob
 ·obtain ⟨x,y,to⟩:=st.to_
  exact⟨kp z (by simp) _ st.zz,kp TI (by simp) _ st.ti,⟨x,y,kp TO (by simp) _ to⟩,st.s1.at fun o e=>kp i1 (by simp) o e,st.s2.at fun o e=>kp i2 (by simp) o e⟩
 ·
  intro X hP hw hK hc i pins s σ H E I hf st hg
  subst hP hw hK
  obtain ⟨xs,ys,x,y,ha,hb,hx,hy⟩:=hg
  obtain ⟨us,ru,pu⟩:=Sq.get I ha
  obtain ⟨vs,rv,pv'⟩:=Sq.get I hb
  obtain ⟨ux,eux,rux⟩:=ru.get hx
  obtain ⟨vy,evy,rvy⟩:=rv.get hy
  have fa:=off I hf ha
  have fb:=off I hf hb
  have hh:X.A.in1.handled=none:=I.ok.hd hc
  have l1:i < us.toArray.size:=by simpa using (bh7.mp eux).1
  have l2:i < vs.toArray.size:=by simpa using (bh7.mp evy).1
  have fa':a ≠ i1:=fun q=>fa (by rw [q]; simp)
  have fb':b ≠ i2:=fun q=>fb (by rw [q]; simp)
  have D1:=fN.draws t1 (prog:=X.prog) (w:=X.w) hh i1 a fa' us.toArray
  have D2:=fN.draws t2 (prog:=X.prog) (w:=X.w) hh i2 b fb' vs.toArray
  refine Zp.item D1 D2 (ap fa fb) l1 l2 ⟨st.zz,st.ti,st.to_,⟨st.s1,pu⟩,⟨st.s2,pv'⟩⟩ fun p q h' tk hp hq st' pr kp sz=>⟨_,rfl,?_⟩
  obtain rfl:p=ux:=by
   have:us.toArray[i]? = some ux:=by simpa using eux
   rw [this] at hp; exact (bj9 hp).symm
  obtain rfl:q=vy:=by
   have:vs.toArray[i]? = some vy:=by simpa using evy
   rw [this] at hq; exact (bj9 hq).symm
  refine wpAny_letOwnedTupleGo_zip (s:={ s with heap:=h',toks:=tk }) st'.zz fun g zz sb=>?_
  have hzl:z < s.heap.objs.size:=bi1 st.zz
  have up:∀ c o,c ≠ z->c ≠ TO->c ≠ i1->c ≠ i2->s.heap.get? c=some o->g.get? c=some o:=fun c o c1 c2 c3 c4 e=>sb.extBut c o c1 (kp c o c1 c2 c3 c4 e)
  have hT:H s.heap.objs.size=none:=I.hok.fresh (bh0 _)
  have prG:IsPair g s.heap.objs.size p q:=sb.extBut _ _ (bp6 hzl) pr
  have fpn:∀ c u,H c=some u->c ∉ [z,TI,TO,i1,i2]:=fun c u e hm=>by rw [(hf c hm).1] at e; cases e
  have upH:∀ c o u,H c=some u->s.heap.get? c=some o->g.get? c=some o:=fun c o u e z=>by
   have:=fpn c u e
   simp only [bh1,bh5,bl0,not_or] at this
   exact up c o this.1 this.2.2.1 this.2.2.2.1 this.2.2.2.2 z
  have ns:∀ m,s.heap.Ns X.env.locals m->g.Ns X.env.locals m:=fun m hm=>by
   obtain ⟨o,es,ep,e1,e2⟩:=hm
   exact⟨o,es,ep,up _ o (Ne.symm (hf z (by simp)).2.1) (Ne.symm (hf TO (by simp)).2.1) (Ne.symm (hf i1 (by simp)).2.1) (Ne.symm (hf i2 (by simp)).2.1) e1,e2⟩
  have I2:a8 X pins σ (upd H s.heap.objs.size (.tup [x,y])) { s with heap:=g,toks:=tk }:=by
   refine I.step (g':=s.gens) (d':=s.drawn) (ch:=[z,TO,i1,i2]) (fun c hc'=>?_) (fun c o _ _ hc' e _=>?_) (fun c o _ _ hc' e _=>⟨o.slots,?_⟩) (fun c o _ e n=>?_) (fun c o hc' e=>⟨o,?_⟩)
    (fun c zs e=>by rw [aR (cH e hT)]; exact e) (fun c u zs e=>by rw [aR (cH e hT)]; exact e) (fun c ps e=>⟨#[],by rw [aR (cH e hT),e]; simp⟩) ns (fun c u e=>?_) I.bare
   ·have hm:c ∈ [z,TI,TO,i1,i2]:=by
     simp only [bh1,bh5,bl0] at hc' ⊢
     rcases hc' with h | h | h | h <;> simp [h]
    exact⟨(hf c hm).2.2.2.1,(hf c hm).2.1,(hf c hm).2.2.2.2.1,(hf c hm).2.2.2.2.2⟩
   ·simp only [bh1,bh5,bl0,not_or] at hc'
    exact up c o hc'.1 hc'.2.1 hc'.2.2.1 hc'.2.2.2 e
   ·simp only [bh1,bh5,bl0,not_or] at hc'
    exact up c o hc'.1 hc'.2.1 hc'.2.2.1 hc'.2.2.2 e
   ·rw [aR (bk4 (bi1 e))]; exact n
   ·simp only [bh1,bh5,bl0,not_or] at hc'
    exact up c o hc'.1 hc'.2.1 hc'.2.2.1 hc'.2.2.2 e
   ·by_cases hcT:c=s.heap.objs.size
    ·subst hcT
     rw [bE] at e; cases e
     exact⟨by show 2<=sizeLine; decide,[p,q],.cons rux (.cons rvy .nil),⟨_,prG,rfl,_,rfl⟩,fun u e=>by rw [prG] at e; cases e; rfl⟩
    ·rw [aR hcT] at e
     refine (I.hok c u e).stay (fun c' o' hc2 q'=>?_) (fun c' q'=>by rw [aR (cH q' hT)]; exact q') fun c' zs q'=>by rw [aR (cH q' hT)]; exact q'
     rcases hc2 with rfl | hc2
     ·exact upH _ _ _ e q'
     ·exact upH _ _ _ hc2 q'
  obtain ⟨x',y',to'⟩:=st'.to_
  refine⟨.ref s.heap.objs.size,_,I2,rfl,⟨_,x,y,hT,rfl,rfl,fun xs' ys' ha' hb'=>?_⟩,⟨zz,sb.extBut _ _ n1.symm st'.ti,⟨x',y',sb.extBut _ _ n2.symm to'⟩,st'.s1.1.at fun o e=>sb.extBut _ o n3.symm e,st'.s2.1.at fun o e=>sb.extBut _ o n4.symm e⟩,fun c hc'=>?_⟩
  ·rw [Sq.inj I ha' ha,Sq.inj I hb' hb]; exact⟨hx,hy⟩
  ·obtain ⟨o,e,_⟩:∃ o,s.heap.get? c=some o/\True:=by
    simp only [bh1,bh5,bl0] at hc'
    obtain ⟨x2,y2,to2⟩:=st.to_
    obtain ⟨o1,f1,_⟩:=st.s1.ob
    obtain ⟨o2,f2,_⟩:=st.s2.ob
    rcases hc' with rfl | rfl | rfl | rfl | rfl
    ·exact⟨_,st.zz,trivial⟩
    ·exact⟨_,st.ti,trivial⟩
    ·exact⟨_,to2,trivial⟩
    ·exact⟨_,f1,trivial⟩
    ·exact⟨_,f2,trivial⟩
   rw [aR (bk4 (bi1 e))]; exact (hf c hc').1
 ·
  intro X hP hw hK hc i pins s σ H E I hf st hg
  subst hP hw hK
  obtain ⟨xs,ys,ha,hb,hi⟩:=hg
  obtain ⟨us,ru,pu⟩:=Sq.get I ha
  obtain ⟨vs,rv,pv'⟩:=Sq.get I hb
  have fa:=off I hf ha
  have fb:=off I hf hb
  have hh:X.A.in1.handled=none:=I.ok.hd hc
  have fa':a ≠ i1:=fun q=>fa (by rw [q]; simp)
  have fb':b ≠ i2:=fun q=>fb (by rw [q]; simp)
  have D1:=fN.draws t1 (prog:=X.prog) (w:=X.w) hh i1 a fa' us.toArray
  have D2:=fN.draws t2 (prog:=X.prog) (w:=X.w) hh i2 b fb' vs.toArray
  have e1:=ru.length
  have e2:=rv.length
  refine Zp.fin D1 D2 (ap fa fb) (by simp only [bg7]; omega) ⟨st.zz,st.ti,st.to_,⟨st.s1,pu⟩,⟨st.s2,pv'⟩⟩ fun g tk kp=>⟨rfl,?_⟩
  have fpn:∀ c u,H c=some u->c ∉ [z,TI,TO,i1,i2]:=fun c u e hm=>by rw [(hf c hm).1] at e; cases e
  have upH:∀ c o u,H c=some u->s.heap.get? c=some o->g.get? c=some o:=fun c o u e z=>by
   have:=fpn c u e
   simp only [bh1,bh5,bl0,not_or] at this
   exact kp c o this.1 this.2.2.1 this.2.2.2.1 this.2.2.2.2 z
  have ns:∀ m,s.heap.Ns X.env.locals m->g.Ns X.env.locals m:=fun m hm=>by
   obtain ⟨o,es,ep,e1,e2⟩:=hm
   exact⟨o,es,ep,kp _ o (Ne.symm (hf z (by simp)).2.1) (Ne.symm (hf TO (by simp)).2.1) (Ne.symm (hf i1 (by simp)).2.1) (Ne.symm (hf i2 (by simp)).2.1) e1,e2⟩
  refine I.step (g':=s.gens) (d':=s.drawn) (ch:=[z,TO,i1,i2]) (fun c hc'=>?_) (fun c o _ _ hc' e _=>?_) (fun c o _ _ hc' e _=>⟨o.slots,?_⟩) (fun c o _ e n=>n) (fun c o hc' e=>⟨o,?_⟩)
   (fun c zs e=>e) (fun c u zs e=>e) (fun c ps e=>⟨#[],by rw [e]; simp⟩) ns (fun c u e=>?_) I.bare
  ·have hm:c ∈ [z,TI,TO,i1,i2]:=by
    simp only [bh1,bh5,bl0] at hc' ⊢
    rcases hc' with h | h | h | h <;> simp [h]
   exact⟨(hf c hm).2.2.2.1,(hf c hm).2.1,(hf c hm).2.2.2.2.1,(hf c hm).2.2.2.2.2⟩
  ·simp only [bh1,bh5,bl0,not_or] at hc'
   exact kp c o hc'.1 hc'.2.1 hc'.2.2.1 hc'.2.2.2 e
  ·simp only [bh1,bh5,bl0,not_or] at hc'
   exact kp c o hc'.1 hc'.2.1 hc'.2.2.1 hc'.2.2.2 e
  ·simp only [bh1,bh5,bl0,not_or] at hc'
   exact kp c o hc'.1 hc'.2.1 hc'.2.2.1 hc'.2.2.2 e
  ·refine (I.hok c u e).stay (fun c' o' hc2 q'=>?_) (fun _ q'=>q') fun _ _ q'=>q'
   rcases hc2 with rfl | hc2
   ·exact upH _ _ _ e q'
   ·exact upH _ _ _ hc2 q'
abbrev av4:=qP true true
theorem G8 {P:Program}{w:World}{K:PySem.W.Frag}{elts:List Expr}{k:Nat}{pos:Pos} (a b z TI TO i1 i2:Addr) (d : [z,TI,TO,i1,i2].Nodup) :
  gW P w K (.Tuple elts k pos) (o4 K a b) [z,TI,TO,i1,i2] z (av4 z TI TO i1 i2 a b):=vD true true a b z TI TO i1 i2 d
section
variable {X : Cx}
def av5 (K:PySem.W.Frag) (ta:TA):TI:=fun σ H R=>ta σ H fun vs H1=>∃ a b xs ys,vs = [.ref a,.ref b]/\aF K H1 a xs/\aF K H1 b ys/\R (o4 K a b) H1
theorem av6 {elts:List Expr}{kt:Nat}{pt:Pos}{a b:Expr}{ta:TA}{p pos:Pos} (hg:Gl X "zip") (hm:X.mg "zip" = none) (ha:PA X [a,b] ta) (hs:starEach [a,b] X.env = [(false,eval a X.env),(false,eval b X.env)]:=by rfl) (hs2:starEach [b] X.env = [(false,eval b X.env)]:=by rfl) :
  PI X (.Tuple elts kt pt) (.Call (.Name "zip" p) [a,b] [] pos) (av5 X.K ta):=by
 intro pins s σ H R I h
 refine Call_ (gV I hg hm PyProof.Rows.boot_zip (bl5 (aO (ha pos pins s σ H _ I h) fun us s1 ⟨vs,H1,I1,r1,q1⟩=>?_) (by rw [hs,hs2]) (by rw [hs2]; rfl)))
 obtain ⟨a',b',xs,ys,e,h1,h2,q⟩:=q1
 subst e
 cases r1 with
 | cons r rr=>
  cases rr with
  | cons r' rr=>
   cases rr
   cases r
   cases r'
   obtain ⟨us,_,p1,_⟩:=I1.tuple h1
   obtain ⟨ws,_,p2,_⟩:=I1.tuple h2
   refine Zp.G6 p1 p2 fun h' z ti to s1' s2' kp=>wpAny_pyIter_zip z ?_
   have fresh:∀ k,H1 (s1.heap.objs.size+k)=none:=fun k=>I1.hok.fresh (bj2 _ _)
   refine⟨s1.heap.objs.size+4,[s1.heap.objs.size+4,s1.heap.objs.size+2,s1.heap.objs.size+3,s1.heap.objs.size,s1.heap.objs.size+1],_,_,H1,rfl,I1.kept (t':=s1.toks) kp,
    G8 a' b' _ _ _ _ _ (by simp),⟨z,ti,⟨_,_,to⟩,s1',s2'⟩,fun c hc=>?_,q⟩
   simp only [bh1,bh5,bl0] at hc
   rcases hc with rfl | rfl | rfl | rfl | rfl
   ·exact I1.fpOk (bj2 _ _) (fresh 4)
   ·exact I1.fpOk (bj2 _ _) (fresh 2)
   ·exact I1.fpOk (bj2 _ _) (fresh 3)
   ·exact I1.fpOk (bh0 _) (fresh 0)
   ·exact I1.fpOk (bj2 _ _) (fresh 1)
theorem vE (hc:X.calm=true):cN X (.builtin "all") (fun xs H Q=>∃ (a:Addr) (bs:List Bool),xs = [.ref a]/\aH X.K H a (bs.map V.bl)/\Q (.bl (bs.all id)) H):=by
 intro pins s σ H xs us Q I r h
 obtain ⟨a,bs,rfl,hq,q⟩:=h
 obtain ⟨u,rfl,ru⟩:=gX r
 cases ru
 obtain ⟨its,rv,p,hz⟩:=I.list hq
 have hl:=rv.length
 rw [bh4] at hl
 have hlt:a < s.heap.objs.size:=by obtain ⟨o,e,_⟩:=p.isList; exact bi1 e
 refine call_all_walk (wpAny_pyIter_list p.isList ?_)
 have hh:X.A.in1.handled=none:=I.ok.hd hc
 refine⟨s.heap.objs.size,_,_,_,_,_,fun i=>bs.getD i false,rfl,Walks.list hh s.heap.objs.size a (bk4 hlt) its.toArray,⟨⟨_,bi0 _ rfl,rfl,rfl⟩,p.isList.push _⟩,?_,fun h' tk kp=>?_⟩
 ·intro i v s' Q' E' hP hQ'
  have hi:its[i]? = some v:=by simpa using hP
  have hil:i < bs.length:=by rw [hl]; exact (bh7.mp hi).1
  obtain ⟨u,e1,e2⟩:=rv.get (i:=i) (x:=.bl bs[i]) (by simp [hil])
  rw [hi] at e1; cases e1
  cases e2
  have:bs.getD i false=bs[i]:=by rw [bi7,bg8 hil]; rfl
  have hQ2:Q' (bs.getD i false) s':=hQ'
  rw [this] at hQ2
  exact bt8 hQ2
 ·have all_eq:(List.range its.toArray.size).all (fun i=>bs.getD i false)=bs.all id:=by
   rw [bg7,<- hl]
   clear q rv hz hl hq hlt p hh kp
   induction bs with
   | nil=>rfl
   | cons b r ih=>
    rw [bk2,List.range_succ_eq_map,br7,List.all_map,br7,<- ih]
    rfl
  rw [all_eq]
  refine⟨.bl (bs.all id),H,I.kept (t':=tk) (h':=h') fun b o e=>kp b o (fun z=>?_) (bg6 _ e),rfl,q⟩
  rw [bh8.mp z] at e
  exact absurd (bi1 e) (bo2 _)
end
structure vF (H:Hp) (J:It) (n:Nat) (R:Nat->V->Hp->Prop):Prop where
 go:∀ i H',aB H H'->i < n->J.go i H'
 yld:∀ i H' x H2,aB H H'->J.yld i H' x H2->i < n->aB H' H2/\R i x H2
 stop:∀ H',aB H H'->J.stop n H'
theorem vG {H1:Hp}{J:It}{n:Nat}{R:Nat->V->Hp->Prop}{g:TG}{tc:TT}{te:TE}{σ0:St}{Q:VK} (O:vF H1 J n R) (Pv:Nat->List V->Hp->Prop) (hn:n<=sizeLine)
  (h0:∀ D,H1 D=none->Pv 0 [] (upd H1 D (.lst [])))
  (mono:∀ i acc H' H2,aB H' H2->Pv i acc H'->Pv i acc H2)
  (hs:∀ i x acc D H',i < n->R i x H'->qL H1 D n i acc H'->Pv i acc H'->g x σ0 H' fun σ2 H3=>Wk σ0 σ2/\tc σ2 H3 fun b H4=>
   if b=true then te σ2 H4 fun v H5=>vA H1 D n Pv i acc v H5 else F4 H1 D n Pv i acc H4)
  (hd:∀ D acc H',H1 D=none->aB H1 H'->H' D=some (.lst acc)->acc.length<=n->Pv n acc H'->Q (.ref D) H') :
  ∀ D,H1 D=none->∃ W:Nat->Nat->List V->Hp->Prop,(∃ m,W 0 m [] (upd H1 D (.lst [])))/\nY g tc te σ0 J D Q W:=by
 intro D hD
 refine⟨CW H1 D n Pv,⟨n,rfl,bl6 _,bh0 _,bB hD _,bE,h0 D hD⟩,?_⟩
 rintro i m acc H' ⟨rfl,hi,ha,sm,hDa,p⟩
 refine⟨hDa,?_⟩
 by_cases hlt:i < n
 ·refine .inr ⟨O.go i H' sm hlt,fun x H2 y=>?_⟩
  obtain ⟨s2,r2⟩:=O.yld i H' x H2 sm y hlt
  exact hs i x acc D H2 hlt r2 ⟨hlt,ha,hn,sm.trans s2,hD,s2 _ _ hDa⟩ (mono i acc H' H2 s2 p)
 ·have e:i=n:=by omega
  subst e
  exact .inl ⟨O.stop H' sm,hd D acc H' hD sm hDa ha p⟩
theorem G9 {K:PySem.W.Frag}{H:Hp}{a b:Addr}{xs ys:List V} (ha:aF K H a xs) (hb:aF K H b ys) (hl:ys.length<=xs.length) :
  vF H (o4 K a b) ys.length (fun i v H2=>∃ T x y,v = .ref T/\H2 T=some (.tup [x,y])/\xs[i]? = some x/\ys[i]? = some y):=by
 refine⟨fun i H' sm hi=>⟨xs,ys,xs[i]'(by omega),ys[i],sm.tup ha,sm.tup hb,by simp,by simp⟩,fun i H' v H2 sm y hi=>?_,fun H' sm=>⟨xs,ys,sm.tup ha,sm.tup hb,by omega⟩⟩
 obtain ⟨T,x,y',hT,hv,e,hxy⟩:=y
 subst e
 obtain ⟨h1,h2⟩:=hxy xs ys (sm.tup ha) (sm.tup hb)
 exact⟨bB hT _,T,x,y',hv,bE,h1,h2⟩
end L2
namespace HT
open PySem PyProof.Rows
section
variable {prog : Program} {w : World} {A : Around} {E : Value → Shared → Prop} {s : Shared}
theorem av7 {t sl:Addr}{items:Array Value}{vl vu:Value}{lo hi:Option Int}{Q:Value->Shared->Prop} (ht:IsTup s.heap t items) (hs:s.heap.IsSliceOf sl vl vu .none) (pl:IsPart vl lo) (pu:IsPart vu hi)
  (h1:aT items.size 0 lo=0) (h2:aT items.size items.size hi=items.size) (h:Q (.ref t) s):wpAny (model prog w) A (getItem (.ref t) (.ref sl)) Q E s:=by
 obtain ⟨o,e1,e2,e3⟩:=id hs
 have T:s.TypeIs (.ref sl) "slice":=⟨o,e1,e2⟩
 unfold getItem
 try with_reducible refine bp0 ?_
 first | refine bg5 (bg9 ?_) | skip
 apply bg5
 apply wpAny_sequenceKey ht.typeIs (by decide)
 apply bg5
 apply bn4 (name:=Str.ofString "__getitem__") ht.typeIs bs2
 apply bn0 bs2 ht.typeIs entry_tuple_getitem _ (args_tuple_getitem _ _)
 change wpAny _ _ (Builtin.Tuple.tupleItemsOf (.ref t) >>= _) _ _ s
 apply bg5
 apply tupleItemsOf_ ht
 apply bg5
 apply wpAny_typeOf T
 rw [if_pos (by decide)]
 apply bg5
 apply A5 hs pl pu
 rw [h1,h2]
 have yes:((((0:Nat):Int) == 0 && (1:Int) == 1 && (items.size - 0) == items.size)=true):=by simp
 change wpAny _ _ (if ((((0:Nat):Int) == 0 && (1:Int) == 1 && (items.size - 0) == items.size)=true) then _ else _) _ _ s
 rw [if_pos yes]
 apply bg5
 unfold Builtin.Tuple.tupleIsExact
 apply bg5
 apply wpAny_typeOf ht.typeIs
 apply bg9
 change wpAny _ _ (rule "tuple.getitem.whole" >>= fun _=>ret (Value.ref t)) _ _ s
 apply bg5
 apply bu6
 exact bg9 ⟨_,rfl,bg9 h⟩
end
end HT
namespace L2
open PySem PySem.Spec PyProof.Rows
section
variable {X : Cx}
def av8 (K:PySem.W.Frag):V->Option Int->Option Int->Hp->VK->Prop:=fun x lo hi H Q=>∃ a xs,x = .ref a/\aF K H a xs/\(∀ p,H p=none->Q (.ref p) (upd H p (.tup (dI xs lo hi))))/\(dI xs lo hi=xs->Q (.ref a) H)
theorem J0:jU X (av8 X.K):=by
 intro pins s σ H x v vl vu lo hi sl Q I rx hs pl pu h
 obtain ⟨a,xs,ex,hx,q1,q2⟩:=h
 by_cases hw:HT.aT xs.length 0 lo=0/\HT.aT xs.length xs.length hi=xs.length
 ·subst ex
  cases rx
  obtain ⟨its,r,ht,hz⟩:=I.tuple hx
  have hlen:its.toArray.size=xs.length:=by rw [bg7]; exact r.length.symm
  refine⟨"tuple",_,PyProof.Rows.slot_tuple_getitem.lookup,ht.typeIs,?_⟩
  refine HT.av7 ht hs pl pu (by rw [hlen]; exact hw.1) (by rw [hlen]; exact hw.2) ⟨.ref a,H,I,rfl,q2 ?_⟩
  unfold dI
  rw [hw.1,hw.2]
  simp
 ·exact ap4 pins s σ H x v vl vu lo hi sl Q I rx hs pl pu ⟨a,xs,ex,hx,hw,q1⟩
end
theorem vH (xs:List V):dI xs (some 1) none=xs.drop 1:=by
 unfold dI
 have e1:HT.aT xs.length 0 (some 1)=min 1 xs.length:=HT.A2 xs.length 0 1
 have e2:HT.aT xs.length xs.length none=xs.length:=rfl
 rw [e1,e2]
 cases xs with
 | nil=>rfl
 | cons x r=>
  have:min 1 (x :: r).length=1:=by simp
  rw [this]
  simp
def vI (K:PySem.W.Frag) (a b:Addr):It:=
  ⟨fun i H=>∃ xs ys x y,aH K H a xs/\aH K H b ys/\xs[i]? = some x/\ys[i]? = some y,
   fun i H v H'=>∃ T x y,H T=none/\v = .ref T/\H'=upd H T (.tup [x,y])/\∀ xs ys,aH K H a xs->aH K H b ys->xs[i]? = some x/\ys[i]? = some y,
   fun i H=>∃ xs ys,aH K H a xs/\aH K H b ys/\(i=xs.length ∨ (i < xs.length/\i=ys.length))⟩
abbrev av9:=qP false false
theorem aw0 {P:Program}{w:World}{K:PySem.W.Frag}{elts:List Expr}{k:Nat}{pos:Pos} (a b z TI TO i1 i2:Addr) (d : [z,TI,TO,i1,i2].Nodup) :
  gW P w K (.Tuple elts k pos) (vI K a b) [z,TI,TO,i1,i2] z (av9 z TI TO i1 i2 a b):=vD false false a b z TI TO i1 i2 d
section
variable {X : Cx}
def aw1 (K:PySem.W.Frag) (ta:TA):TI:=fun σ H R=>ta σ H fun vs H1=>∃ a b xs ys,vs = [.ref a,.ref b]/\aH K H1 a xs/\aH K H1 b ys/\R (vI K a b) H1
theorem aw2 {elts:List Expr}{kt:Nat}{pt:Pos}{a b:Expr}{ta:TA}{p pos:Pos} (hg:Gl X "zip") (hm:X.mg "zip" = none) (ha:PA X [a,b] ta) (hs:starEach [a,b] X.env = [(false,eval a X.env),(false,eval b X.env)]:=by rfl) (hs2:starEach [b] X.env = [(false,eval b X.env)]:=by rfl) :
  PI X (.Tuple elts kt pt) (.Call (.Name "zip" p) [a,b] [] pos) (aw1 X.K ta):=by
 intro pins s σ H R I h
 refine Call_ (gV I hg hm PyProof.Rows.boot_zip (bl5 (aO (ha pos pins s σ H _ I h) fun us s1 ⟨vs,H1,I1,r1,q1⟩=>?_) (by rw [hs,hs2]) (by rw [hs2]; rfl)))
 obtain ⟨a',b',xs,ys,e,h1,h2,q⟩:=q1
 subst e
 cases r1 with
 | cons r rr=>
  cases rr with
  | cons r' rr=>
   cases rr
   cases r
   cases r'
   obtain ⟨us,_,p1,_⟩:=I1.list h1
   obtain ⟨ws,_,p2,_⟩:=I1.list h2
   refine call_zip_2 p1.isList p2.isList fun h' z ti to s1' s2' _ kp=>wpAny_pyIter_zip z ?_
   have fresh:∀ k,H1 (s1.heap.objs.size+k)=none:=fun k=>I1.hok.fresh (bj2 _ _)
   refine⟨s1.heap.objs.size+4,[s1.heap.objs.size+4,s1.heap.objs.size+2,s1.heap.objs.size+3,s1.heap.objs.size,s1.heap.objs.size+1],_,_,H1,rfl,I1.kept (t':=s1.toks) kp,
    aw0 a' b' _ _ _ _ _ (by simp),⟨z,ti,⟨_,_,to⟩,s1',s2'⟩,fun c hc=>?_,q⟩
   simp only [bh1,bh5,bl0] at hc
   rcases hc with rfl | rfl | rfl | rfl | rfl
   ·exact I1.fpOk (bj2 _ _) (fresh 4)
   ·exact I1.fpOk (bj2 _ _) (fresh 2)
   ·exact I1.fpOk (bj2 _ _) (fresh 3)
   ·exact I1.fpOk (bh0 _) (fresh 0)
   ·exact I1.fpOk (bj2 _ _) (fresh 1)
end
theorem aw3 {K:PySem.W.Frag}{H:Hp}{a b:Addr}{xs ys:List V} (ha:aH K H a xs) (hb:aH K H b ys) (hl:ys.length<=xs.length) :
  vF H (vI K a b) ys.length (fun i v H2=>∃ T x y,v = .ref T/\H2 T=some (.tup [x,y])/\xs[i]? = some x/\ys[i]? = some y):=by
 refine⟨fun i H' sm hi=>⟨xs,ys,xs[i]'(by omega),ys[i],sm.seq ha,sm.seq hb,by simp,by simp⟩,fun i H' v H2 sm y hi=>?_,fun H' sm=>⟨xs,ys,sm.seq ha,sm.seq hb,by omega⟩⟩
 obtain ⟨T,x,y',hT,hv,e,hxy⟩:=y
 subst e
 obtain ⟨h1,h2⟩:=hxy xs ys (sm.seq ha) (sm.seq hb)
 exact⟨bB hT _,T,x,y',hv,bE,h1,h2⟩
section
variable {X : Cx} {pins : List (Addr × Obj)} {σ : St} {H : Hp} {s : Shared} {a b : Addr} {A : Around} {E : Value → Shared → Prop}
theorem aw4 {kvs more:List (aE × V)}{Q:Value->Shared->Prop} (I:a8 X pins σ H s) (ea:H a=some (.dK kvs)) (eb:H b=some (.dK more)) (hne:a ≠ b) (hl:kvs.length+more.length<=sizeLine)
  (h:∀ s',a8 X pins σ (upd H a (.dK (kQ kvs more))) s'->Q .none s'):wpAny (model X.prog X.w) A (call (.builtin "dict.update") [.ref a,.ref b]) Q E s:=by
 obtain ⟨z,hd,vs,rel,dd⟩:=uW I.hok ea
 obtain ⟨z2,hd2,rs,rel2,dd2⟩:=uW I.hok eb
 have l1:=rel.length
 have l2:=rel2.length
 refine call_meetsIn PySem.F.slot_dict_update dd.typeIs PySem.F.entry_dict_update (PySem.F.args_dict_update_2 _ _) (meets_dict_update (eG X.prog X.w) a b hne hd2) ⟨vs,rs,dd,dd2,by omega,fun h' dd' _ hs=>h _ ?_⟩
 have he:∃ q,h'.get? a=some q:=let ⟨q,_,_,hq,_⟩:=dd'; ⟨q,hq⟩
 refine uX I (by rw [ea]; exact bx4) hs he (C6 ?_ hd (rel2.merge rel) dd')
 have:=E3 more kvs
 omega
end
def J1 (td ty:TE):TE:=fun σ H Q=>td σ H fun x H1=>∃ a,x = .ref a/\E4 H1 a/\ty σ H1 fun y H2=>∃ (b:Addr) (kvs more:List (aE × V)),y = .ref b/\a ≠ b/\H2 a=some (.dK kvs)/\H2 b=some (.dK more)/\kvs.length+more.length<=sizeLine/\Q .non (upd H2 a (.dK (kQ kvs more)))
section
variable {X : Cx} {o e : Expr} {apos cpos : Pos} {td ty : TE}
theorem aw5 (ho:PE X o td) (he:PE X e ty) (m:M1 X o "update" apos e cpos):PE X (.Call (.Attribute o "update" apos) [e] [] cpos) (J1 td ty):=by
 intro pins s σ H Q I h
 refine wpAny_Call_method m.base m.few m.line PySem.F.plainAttrs_dict PySem.F.slot_dict_update PySem.F.type_dict_update (aO (ho pins s σ H _ I h) fun u s1 ⟨x,H1,I1,rx,a,ex,d,q1⟩=>?_)
 subst ex
 obtain rfl:u=Value.ref a:=rx
 obtain ⟨t1,t2,_⟩:=as3 I1 d
 refine⟨t1,t2,?_⟩
 rw [m.trees]
 refine Calls.callWith_builtin rfl (Calls.evalArgs_plain (Calls.spliced_cons (aO (he pins s1 σ H1 _ I1 q1) fun iv s2 ⟨y,H2,I2,ry,b,kvs,more,ey,ne,ea,eb,l,q2⟩=>Calls.spliced_nil ?_)))
 subst ey
 obtain rfl:iv=Value.ref b:=ry
 exact aw4 I2 ea eb ne l fun s3 I3=>⟨.non,_,I3,rfl,q2⟩
end
end L2
namespace PP
open PySem L2
inductive PV where
 | non | bl (b:Bool) | int (i:Int) | str (x:Str) | tup (xs:List PV) | lst (xs:List PV)
 | dK (kvs:List (aE × PV)) | dT (kvs:List (List aE × PV)) | scr (ns:List Int) | kt (xs:List PV) | exc (c:Str) | fK (kvs:List (aE × PV)) | fT (kvs:List (List aE × PV))
mutual
def flat:PV->Bool
 | .tup xs=>flats xs
 | .lst _=>false
 | .dK _=>false
 | .dT _=>false
 | .non=>true
 | .bl _=>true
 | .int _=>true
 | .str _=>true
 | .scr _=>true
 | .kt xs=>flats xs
 | .exc _=>true
 | .fK _=>false
 | .fT _=>false
def flats:List PV->Bool
 | []=>true
 | x :: r=>flat x && flats r
end
def jA (K:PySem.W.Frag) (H:Hp) (a:Addr) (ns:List Int):Prop:=(∃ o,H a=some (.frz o (.lst (ns.map V.int)))) ∨
  ∃ (o:Obj) (its:Array Value) (n:Nat),K.lookup a=some o/\o.cls = .type "list"/\o.dict=none/\o.data = .seq its n/\its.size<=sizeLine/\aN (ns.map V.int) its.toList
def m8 (K:PySem.W.Frag) (a:Addr) (us:List V):Prop:=∃ (o:Obj) (its:Array Value) (n:Nat),K.lookup a=some o/\o.cls = .type "tuple"/\o.data = .seq its n/\its.size<=sizeLine/\aN us its.toList
mutual
inductive aG (K:PySem.W.Frag) (M:Addr->Prop) (H:Hp):V->PV->Prop
 | non:aG K M H .non .non
 | bl (b:Bool):aG K M H (.bl b) (.bl b)
 | int (i:Int):aG K M H (.int i) (.int i)
 | str (x:Str):aG K M H (.str x) (.str x)
 | tup {a:Addr}{us:List V}{xs:List PV}:H a=some (.tup us)->Reps K M H us xs->aG K M H (.ref a) (.tup xs)
 | lst {a:Addr}{us:List V}{xs:List PV}:M a->H a=some (.lst us)->Reps K M H us xs->aG K M H (.ref a) (.lst xs)
 | dK {a:Addr}{kvs:List (aE × V)}{ps:List (aE × PV)}:M a->H a=some (.dK kvs)->kvs.map (·.1)=ps.map (·.1)->Reps K M H (kvs.map (·.2)) (ps.map (·.2))->aG K M H (.ref a) (.dK ps)
 | dT {a:Addr}{kvs:List (List aE × V)}{ps:List (List aE × PV)}:M a->H a=some (.dT kvs)->kvs.map (·.1)=ps.map (·.1)->Reps K M H (kvs.map (·.2)) (ps.map (·.2))->aG K M H (.ref a) (.dT ps)
 | scr {a:Addr}{ns:List Int}:jA K H a ns->aG K M H (.ref a) (.scr ns)
 | kt {a:Addr}{us:List V}{xs:List PV}:m8 K a us->Reps K M H us xs->aG K M H (.ref a) (.kt xs)
 | exc {a C:Addr}{o:Obj}{c:Str}:H a=some (.frz o (.own a))->PySem.W.nsIn K mainGlobals c=some (some (.ref C))->o.cls = .ref C->aG K M H (.ref a) (.exc c)
 | fK {a:Addr}{o:Obj}{kvs:List (aE × V)}{ps:List (aE × PV)}:H a=some (.frz o (.dK kvs))->kvs.map (·.1)=ps.map (·.1)->Reps K M H (kvs.map (·.2)) (ps.map (·.2))->aG K M H (.ref a) (.fK ps)
 | fT {a:Addr}{o:Obj}{kvs:List (List aE × V)}{ps:List (List aE × PV)}:H a=some (.frz o (.dT kvs))->kvs.map (·.1)=ps.map (·.1)->Reps K M H (kvs.map (·.2)) (ps.map (·.2))->aG K M H (.ref a) (.fT ps)
inductive Reps (K:PySem.W.Frag) (M:Addr->Prop) (H:Hp):List V->List PV->Prop
 | nil:Reps K M H [] []
 | cons {v:V}{x:PV}{vs:List V}{xs:List PV}:aG K M H v x->Reps K M H vs xs->Reps K M H (v :: vs) (x :: xs)
end
structure iK (M M':Addr->Prop) (H H':Hp):Prop where
 lst:∀ a us,M a->H a=some (.lst us)->M' a/\H' a=some (.lst us)
 dK:∀ a kvs,M a->H a=some (.dK kvs)->M' a/\H' a=some (.dK kvs)
 dT:∀ a kvs,M a->H a=some (.dT kvs)->M' a/\H' a=some (.dT kvs)
 tup:∀ a us,H a=some (.tup us)->H' a=some (.tup us)
 frz:∀ a o u,H a=some (.frz o u)->H' a=some (.frz o u)
theorem jA.keep {K:PySem.W.Frag}{H H':Hp}{a:Addr}{ns:List Int} (k:∀ a o u,H a=some (.frz o u)->H' a=some (.frz o u)) (h:jA K H a ns):jA K H' a ns:=
 h.elim (fun ⟨o,e⟩=>.inl ⟨o,k _ _ _ e⟩) .inr
mutual
theorem aG.keep {K:PySem.W.Frag}{M M':Addr->Prop}{H H':Hp} (k:iK M M' H H'):∀ {v:V}{x:PV},aG K M H v x->aG K M' H' v x
 | _,_,.non=>.non
 | _,_,.bl b=>.bl b
 | _,_,.int i=>.int i
 | _,_,.str x=>.str x
 | _,_,.tup h r=>.tup (k.tup _ _ h) (Reps.keep k r)
 | _,_,.lst m h r=>.lst (k.lst _ _ m h).1 (k.lst _ _ m h).2 (Reps.keep k r)
 | _,_,.dK m h e r=>.dK (k.dK _ _ m h).1 (k.dK _ _ m h).2 e (Reps.keep k r)
 | _,_,.dT m h e r=>.dT (k.dT _ _ m h).1 (k.dT _ _ m h).2 e (Reps.keep k r)
 | _,_,.scr h=>.scr (h.keep k.frz)
 | _,_,.kt h r=>.kt h (Reps.keep k r)
 | _,_,.exc h e c=>.exc (k.frz _ _ _ h) e c
 | _,_,.fK h e r=>.fK (k.frz _ _ _ h) e (Reps.keep k r)
 | _,_,.fT h e r=>.fT (k.frz _ _ _ h) e (Reps.keep k r)
theorem Reps.keep {K:PySem.W.Frag}{M M':Addr->Prop}{H H':Hp} (k:iK M M' H H'):∀ {vs:List V}{xs:List PV},Reps K M H vs xs->Reps K M' H' vs xs
 | _,_,.nil=>.nil
 | _,_,.cons r t=>.cons (aG.keep k r) (Reps.keep k t)
end
mutual
theorem aG.flat {K:PySem.W.Frag}{M M':Addr->Prop}{H:Hp}{v:V}{x:PV} (f:flat x=true) (r:aG K M H v x):aG K M' H v x:=by
 cases r with
 | non=>exact .non
 | bl b=>exact .bl b
 | int i=>exact .int i
 | str x=>exact .str x
 | tup h r=>exact .tup h (Reps.flat (by unfold PP.flat at f; exact f) r)
 | lst m h r=>unfold PP.flat at f; cases f
 | dK m h e r=>unfold PP.flat at f; cases f
 | dT m h e r=>unfold PP.flat at f; cases f
 | scr h=>exact .scr h
 | kt h r=>exact .kt h (Reps.flat (by unfold PP.flat at f; exact f) r)
 | exc h e c=>exact .exc h e c
 | fK h e r=>unfold PP.flat at f; cases f
 | fT h e r=>unfold PP.flat at f; cases f
theorem Reps.flat {K:PySem.W.Frag}{M M':Addr->Prop}{H:Hp}{vs:List V}{xs:List PV} (f:flats xs=true) (r:Reps K M H vs xs):Reps K M' H vs xs:=by
 cases r with
 | nil=>exact .nil
 | cons r t=>
  unfold PP.flats at f
  rw [bl7] at f
  exact .cons (aG.flat f.1 r) (Reps.flat f.2 t)
end
theorem iK.same {M M':Addr->Prop}{H H':Hp} (s:aB H H') (m:∀ a,M a->M' a):iK M M' H H':=
 ⟨fun a _ h e=>⟨m a h,s _ _ e⟩,fun a _ h e=>⟨m a h,s _ _ e⟩,fun a _ h e=>⟨m a h,s _ _ e⟩,fun _ _ e=>s _ _ e,fun _ _ _ e=>s _ _ e⟩
theorem aG.same {K:PySem.W.Frag}{M M':Addr->Prop}{H H':Hp}{v:V}{x:PV} (r:aG K M H v x) (s:aB H H') (m:∀ a,M a->M' a):aG K M' H' v x:=r.keep (.same s m)
theorem Reps.same {K:PySem.W.Frag}{M M':Addr->Prop}{H H':Hp}{v:List V}{x:List PV} (r:Reps K M H v x) (s:aB H H') (m:∀ a,M a->M' a):Reps K M' H' v x:=r.keep (.same s m)
def fA:HO->Bool
 | .lst _=>true
 | .dK _=>true
 | .dT _=>true
 | _=>false
theorem iK.upd {M M':Addr->Prop}{H:Hp}{a:Addr}{o o':HO} (h:H a=some o') (mu:fA o'=true) (m:∀ b,M b->b ≠ a/\M' b):iK M M' H (upd H a o):=
 ⟨fun b _ hb e=>⟨(m b hb).2,by rw [aR (m b hb).1]; exact e⟩,fun b _ hb e=>⟨(m b hb).2,by rw [aR (m b hb).1]; exact e⟩,fun b _ hb e=>⟨(m b hb).2,by rw [aR (m b hb).1]; exact e⟩,
  fun b _ e=>by rw [aR (fun z=>by rw [z,h] at e; cases e; cases mu)]; exact e,
  fun b _ _ e=>by rw [aR (fun z=>by rw [z,h] at e; cases e; cases mu)]; exact e⟩
theorem Reps.length {K:PySem.W.Frag}{M:Addr->Prop}{H:Hp}:∀ {vs:List V}{xs:List PV},Reps K M H vs xs->vs.length=xs.length
 | _,_,.nil=>rfl
 | _,_,.cons _ t=>congrArg (· + 1) t.length
theorem Reps.get {K:PySem.W.Frag}{M:Addr->Prop}{H:Hp}:∀ {vs:List V}{xs:List PV}{i:Nat}{v:V},Reps K M H vs xs->vs[i]? = some v->∃ x,xs[i]? = some x/\aG K M H v x
 | _,_,_,_,.nil,e=>by simp at e
 | _,_,0,_,.cons r _,e=>by simp at e; subst e; exact⟨_,rfl,r⟩
 | _,_,i+1,v,.cons _ t,e=>by
  rw [bq2] at e
  obtain ⟨x,h1,h2⟩:=t.get e
  exact⟨x,by rw [bq2]; exact h1,h2⟩
theorem Reps.at {K:PySem.W.Frag}{M:Addr->Prop}{H:Hp}:∀ {vs:List V}{xs:List PV}{i:Nat}{x:PV},Reps K M H vs xs->xs[i]? = some x->∃ v,vs[i]? = some v/\aG K M H v x
 | _,_,_,_,.nil,e=>by simp at e
 | _,_,0,_,.cons r _,e=>by simp at e; subst e; exact⟨_,rfl,r⟩
 | _,_,i+1,v,.cons _ t,e=>by
  rw [bq2] at e
  obtain ⟨x,h1,h2⟩:=t.at e
  exact⟨x,by rw [bq2]; exact h1,h2⟩
theorem Reps.append {K:PySem.W.Frag}{M:Addr->Prop}{H:Hp}:∀ {vs:List V}{xs:List PV}{us:List V}{ys:List PV},Reps K M H vs xs->Reps K M H us ys->Reps K M H (vs ++ us) (xs ++ ys)
 | _,_,_,_,.nil,s=>s
 | _,_,_,_,.cons r t,s=>.cons r (t.append s)
theorem Reps.set {K:PySem.W.Frag}{M:Addr->Prop}{H:Hp}{v:V}{x:PV} (q:aG K M H v x):∀ (i:Nat) {vs:List V}{xs:List PV},Reps K M H vs xs->Reps K M H (vs.set i v) (xs.set i x)
 | _,_,_,.nil=>.nil
 | 0,_,_,.cons r t=>.cons q t
 | i+1,_,_,.cons r t=>.cons r (Reps.set q i t)
theorem Reps.take {K:PySem.W.Frag}{M:Addr->Prop}{H:Hp}:∀ (n:Nat) {vs:List V}{xs:List PV},Reps K M H vs xs->Reps K M H (vs.take n) (xs.take n)
 | 0,_,_,_=>by simp; exact .nil
 | _+1,_,_,.nil=>.nil
 | n+1,_,_,.cons r t=>.cons r (Reps.take n t)
theorem Reps.drop {K:PySem.W.Frag}{M:Addr->Prop}{H:Hp}:∀ (n:Nat) {vs:List V}{xs:List PV},Reps K M H vs xs->Reps K M H (vs.drop n) (xs.drop n)
 | 0,_,_,r=>r
 | _+1,_,_,.nil=>.nil
 | n+1,_,_,.cons _ t=>Reps.drop n t
theorem Reps.eraseIdx {K:PySem.W.Frag}{M:Addr->Prop}{H:Hp}:∀ (n:Nat) {vs:List V}{xs:List PV},Reps K M H vs xs->Reps K M H (vs.eraseIdx n) (xs.eraseIdx n)
 | _,_,_,.nil=>.nil
 | 0,_,_,.cons _ t=>t
 | n+1,_,_,.cons r t=>.cons r (Reps.eraseIdx n t)
abbrev intz (ns:List Int):List PV:=ns.map PV.int
theorem Reps.intz {K:PySem.W.Frag}{M:Addr->Prop}{H:Hp}:∀ (ns:List Int),Reps K M H (ns.map V.int) (intz ns)
 | []=>.nil
 | n :: r=>.cons (.int n) (Reps.intz r)
theorem Reps.ofInts {K:PySem.W.Frag}{M:Addr->Prop}{H:Hp}:∀ {ns:List Int}{us:List V},Reps K M H us (PP.intz ns)->us=ns.map V.int
 | [],_,.nil=>rfl
 | n :: r,_,.cons q t=>by
  cases q
  rw [Reps.ofInts t]; rfl
theorem cW:∀ (ns:List Int),flats (intz ns)=true
 | []=>rfl
 | n :: r=>by show (flat (.int n) && flats (intz r))=true; rw [cW r]; rfl
inductive Tg | rd | sh | nw | fr
inductive Slot | sh (g:Bool) (x:PV) | own (x:PV)
def Slot.val:Slot->PV
 | .sh _ x=>x
 | .own x=>x
def Slot.tag:Slot->Tg
 | .sh true _=>.nw
 | .sh false _=>.sh
 | .own _=>.rd
abbrev bJ:=List (Option Slot)
def Ms (H0:Hp) (W:Addr->Prop):Bool->Addr->Prop
 | false,a=>¬ W a
 | true,a=>¬ W a/\H0 a=none
def Mg (H0:Hp) (W:Addr->Prop) (Hs:Hp):Tg->Addr->Prop
 | .rd,_=>True
 | .sh,a=>¬ W a
 | .nw,a=>¬ W a/\H0 a=none
 | .fr,a=>Hs a=none
def i5 (K:PySem.W.Frag) (M:Addr->Prop) (H:Hp) (a:Addr):PV->Prop
 | .lst xs=>∃ us,H a=some (.lst us)/\Reps K M H us xs
 | .dK ps=>∃ kvs,H a=some (.dK kvs)/\kvs.map (·.1)=ps.map (·.1)/\Reps K M H (kvs.map (·.2)) (ps.map (·.2))
 | .dT ps=>∃ kvs,H a=some (.dT kvs)/\kvs.map (·.1)=ps.map (·.1)/\Reps K M H (kvs.map (·.2)) (ps.map (·.2))
 | _=>False
def J2 (K:PySem.W.Frag) (H0:Hp) (W:Addr->Prop) (H:Hp) (v:V):Slot->Prop
 | .sh g x=>aG K (Ms H0 W g) H v x
 | .own x=>∃ a,v = .ref a/\W a/\i5 K (Ms H0 W true) H a x
structure PX (K:PySem.W.Frag) (H0:Hp) (W:Addr->Prop) (σ:St) (ρ:bJ) (H:Hp):Prop where
 len:ρ.length=σ.length
 same:aB H0 H
 wm:∀ a,W a->H0 a=none/\∃ o,H a=some o/\fA o=true
 sl:∀ (i:Nat) (m:Slot),ρ[i]? = some (some m)->∃ v,σ[i]? = some (some v)/\J2 K H0 W H v m
 dis:∀ (i j:Nat) (x y:PV) (a:Addr),ρ[i]? = some (some (.own x))->ρ[j]? = some (some (.own y))->σ[i]? = some (some (.ref a))->σ[j]? = some (some (.ref a))->i=j
theorem i5.keep {K:PySem.W.Frag}{M M':Addr->Prop}{H H':Hp}{a:Addr} (k:iK M M' H H') (ha:∀ o,H a=some o->H' a=some o):∀ {x:PV},i5 K M H a x->i5 K M' H' a x
 | .lst _,⟨us,e,r⟩=>⟨us,ha _ e,r.keep k⟩
 | .dK _,⟨us,e,q,r⟩=>⟨us,ha _ e,q,r.keep k⟩
 | .dT _,⟨us,e,q,r⟩=>⟨us,ha _ e,q,r.keep k⟩
theorem i5.at {K:PySem.W.Frag}{M:Addr->Prop}{H:Hp}{a:Addr}:∀ {x:PV},i5 K M H a x->∃ o,H a=some o/\fA o=true
 | .lst _,⟨us,e,r⟩=>⟨_,e,rfl⟩
 | .dK _,⟨us,e,q,r⟩=>⟨_,e,rfl⟩
 | .dT _,⟨us,e,q,r⟩=>⟨_,e,rfl⟩
theorem i5.rep {K:PySem.W.Frag}{M M':Addr->Prop}{H:Hp}{a:Addr} (m:∀ b,M b->M' b) (ha:M' a):∀ {x:PV},i5 K M H a x->aG K M' H (.ref a) x
 | .lst _,⟨us,e,r⟩=>.lst ha e (r.same (aB.refl _) m)
 | .dK _,⟨us,e,q,r⟩=>.dK ha e q (r.same (aB.refl _) m)
 | .dT _,⟨us,e,q,r⟩=>.dT ha e q (r.same (aB.refl _) m)
section
variable {K : PySem.W.Frag} {H0 : Hp} {W W' : Addr → Prop} {σ : St} {ρ : bJ} {H H' : Hp}
theorem PX.mono (p:PX K H0 W σ ρ H) (s:aB H H'):PX K H0 W σ ρ H':=by
 refine⟨p.len,p.same.trans s,fun a h=>⟨(p.wm a h).1,let ⟨o,e,m⟩:=(p.wm a h).2; ⟨o,s _ _ e,m⟩⟩,fun i m h=>?_,p.dis⟩
 obtain ⟨v,e,r⟩:=p.sl i m h
 refine⟨v,e,?_⟩
 cases m with
 | sh g x=>exact aG.same r s fun _ z=>z
 | own x=>
  obtain ⟨a,e1,e2,r⟩:=r
  exact⟨a,e1,e2,r.keep (.same s fun _ z=>z) fun _ z=>s _ _ z⟩
theorem PX.new (p:PX K H0 W σ ρ H) {a:Addr} (h:H a=none) : ¬ W a/\H0 a=none:=
 ⟨fun z=>(by obtain ⟨_,o,e,_⟩:=p.wm a z; rw [h] at e; cases e),p.same.free h⟩
theorem Mg.back {g:Tg}{H1:Hp} (s:aB H H1) {a:Addr} (h:Mg H0 W H1 g a):Mg H0 W H g a:=by
 cases g with
 | fr=>exact s.free h
 | rd=>exact h
 | sh=>exact h
 | nw=>exact h
end
abbrev PK:=PV->Tg->Prop
abbrev aD:=bJ->PK->Prop
abbrev cJ:=bJ->(Bool->Prop)->Prop
abbrev cE:=bJ->(List (PV × Tg)->Prop)->Prop
inductive gH (K:PySem.W.Frag) (H0:Hp) (W:Addr->Prop) (Hs H:Hp):List V->List (PV × Tg)->Prop
 | nil:gH K H0 W Hs H [] []
 | cons {v:V}{x:PV}{g:Tg}{vs:List V}{xs:List (PV × Tg)}:aG K (Mg H0 W Hs g) H v x->gH K H0 W Hs H vs xs->gH K H0 W Hs H (v :: vs) ((x,g) :: xs)
def qQ (K:PySem.W.Frag) (H0:Hp) (W:Addr->Prop) (H:Hp) (Q:PK) (Q':VK):Prop:=∀ v H' x g,aB H H'->aG K (Mg H0 W H g) H' v x->Q x g->Q' v H'
def LE (X:Cx) (t:aD):TE:=fun σ H Q'=>∃ (W:Addr->Prop) (ρ:bJ) (Q:PK),PX X.K X.H₀ W σ ρ H/\t ρ Q/\qQ X.K X.H₀ W H Q Q'
def LT (X:Cx) (t:cJ):TT:=fun σ H Q'=>∃ (W:Addr->Prop) (ρ:bJ) (Q:Bool->Prop),PX X.K X.H₀ W σ ρ H/\t ρ Q/\∀ b H',aB H H'->Q b->Q' b H'
def LA (X:Cx) (t:cE):TA:=fun σ H Q'=>∃ (W:Addr->Prop) (ρ:bJ) (Q:List (PV × Tg)->Prop),PX X.K X.H₀ W σ ρ H/\t ρ Q/\∀ vs H' xs,aB H H'->gH X.K X.H₀ W H H' vs xs->Q xs->Q' vs H'
theorem gH.same {K:PySem.W.Frag}{H0:Hp}{W:Addr->Prop}{Hs Hs' H H':Hp} (s:aB H H') (b:aB Hs' Hs):∀ {vs:List V}{xs:List (PV × Tg)},gH K H0 W Hs H vs xs->gH K H0 W Hs' H' vs xs
 | _,_,.nil=>.nil
 | _,_,.cons r t=>.cons (r.same s fun _ z=>Mg.back b z) (t.same s b)
theorem gH.any {K:PySem.W.Frag}{H0:Hp}{W:Addr->Prop}{Hs H:Hp}:∀ {vs:List V}{xs:List (PV × Tg)},gH K H0 W Hs H vs xs->Reps K (fun _=>True) H vs (xs.map (·.1))
 | _,_,.nil=>.nil
 | _,_,.cons r t=>.cons (r.same (aB.refl _) fun _ _=>trivial) t.any
def Nw:Tg->PV->Prop
 | .fr,_=>True
 | .nw,_=>True
 | _,x=>flat x=true
def jW (xs:List (PV × Tg)):Prop:=∀ p ∈ xs,Nw p.2 p.1
section
variable {K : PySem.W.Frag} {H0 Hs H : Hp} {W : Addr → Prop} {σ : St} {ρ : bJ}
theorem Nw.rep {g:Tg}{x:PV}{v:V} (px:PX K H0 W σ ρ Hs) (n:Nw g x) (r:aG K (Mg H0 W Hs g) H v x):aG K (Ms H0 W true) H v x:=by
 cases g with
 | fr=>exact r.same (aB.refl _) fun a z=>px.new z
 | nw=>exact r.same (aB.refl _) fun a z=>z
 | sh=>exact r.flat n
 | rd=>exact r.flat n
theorem jW.reps {vs:List V}:∀ {xs:List (PV × Tg)}{vs:List V},PX K H0 W σ ρ Hs->jW xs->gH K H0 W Hs H vs xs->Reps K (Ms H0 W true) H vs (xs.map (·.1))
 | _,_,px,n,.nil=>.nil
 | _,_,px,n,.cons r t=>.cons (Nw.rep px (n _ bi4) r) (jW.reps (vs:=vs) px (fun p hp=>n p (bi9 _ hp)) t)
theorem J3 {v:V}{m:Slot} (r:J2 K H0 W H v m):aG K (Mg H0 W Hs m.tag) H v m.val:=by
 cases m with
 | sh g x=>
  cases g with
  | true=>exact aG.same r (aB.refl _) fun _ z=>z
  | false=>exact aG.same r (aB.refl _) fun _ z=>z
 | own x=>
  obtain ⟨a,rfl,_,r⟩:=r
  exact r.rep (fun _ _=>trivial) trivial
end
section
variable {X : Cx} {σ : St} {H : Hp} {Q' : VK} {ta tb : aD}
def a5 (i:Nat):aD:=fun ρ Q=>∃ m,ρ[i]? = some (some m)/\Q m.val m.tag
def qC (x:PV):aD:=fun _ Q=>Q x .fr
theorem aw6 {i:Nat} (h:LE X (a5 i) σ H Q'):gU i σ H Q':=by
 obtain ⟨W,ρ,Q,px,⟨m,e,q⟩,k⟩:=h
 obtain ⟨v,ev,r⟩:=px.sl i m e
 exact⟨v,ev,k v H _ _ (aB.refl _) (J3 r) q⟩
theorem qR {x:PV}{v:V} (hr:∀ M,aG X.K M H v x) (h:LE X (qC x) σ H Q'):tC v σ H Q':=by
 obtain ⟨W,ρ,Q,px,q,k⟩:=h
 exact k v H _ _ (aB.refl _) (hr _) q
def eB (X:Cx) (R:PV->Tg->PV->Tg->PK->Prop) (r:R2):Prop:=∀ (W:Addr->Prop) (Hs H:Hp) (u v:V) (x y:PV) (g g':Tg) (Q:PK) (Q':VK),aB Hs H->
 (∀ a,Hs a=none->¬ W a/\X.H₀ a=none)->aG X.K (Mg X.H₀ W Hs g) H u x->aG X.K (Mg X.H₀ W Hs g') H v y->R x g y g' Q->(∀ w H' z gz,aB H H'->aG X.K (Mg X.H₀ W Hs gz) H' w z->Q z gz->Q' w H')->r u v H Q'
def q2 (R:PV->Tg->PV->Tg->PK->Prop) (ta tb:aD):aD:=fun ρ Q=>ta ρ fun x g=>tb ρ fun y g'=>R x g y g' Q
theorem qS {R:PV->Tg->PV->Tg->PK->Prop}{r:R2} (c:eB X R r) (h:LE X (q2 R ta tb) σ H Q'):nH r (LE X ta) (LE X tb) σ H Q':=by
 obtain ⟨W,ρ,Q,px,q,k⟩:=h
 refine⟨W,ρ,_,px,q,fun u H1 x g s1 r1 q1=>⟨W,ρ,_,px.mono s1,q1,fun v H2 y g' s2 r2 q2=>?_⟩⟩
 exact c W H H2 u v x y g g' Q Q' (s1.trans s2) (fun a z=>px.new z) (r1.same s2 fun _ z=>z) (r2.same (aB.refl _) fun _ z=>Mg.back s1 z) q2 fun w H' z gz s3 r3 q3=>k w H' z gz ((s1.trans s2).trans s3) r3 q3
def RI (C:Int->Int->Prop) (f:Int->Int->PV):PV->Tg->PV->Tg->PK->Prop:=fun x _ y _ Q=>∃ i j,x = .int i/\y = .int j/\C i j/\Q (f i j) .fr
def eL (f:Int->Int->PV):PV->Tg->PV->Tg->PK->Prop:=fun x _ y _ Q=>∃ i j,x = .int i/\y = .int j/\Q (f i j) .fr
theorem qT {C:Int->Int->Prop}{f:Int->Int->Int}:eB X (RI C fun i j=>.int (f i j)) (rI C fun i j=>.int (f i j)):=by
 rintro W Hs H u v x y g g' Q Q' s n r1 r2 ⟨i,j,rfl,rfl,c,q⟩ k
 cases r1; cases r2
 exact⟨i,j,rfl,rfl,c,k _ _ _ _ (aB.refl _) (.int _) q⟩
theorem J4 {f:Int->Int->Int}:eB X (eL fun i j=>.int (f i j)) (j4 fun i j=>.int (f i j)):=by
 rintro W Hs H u v x y g g' Q Q' s n r1 r2 ⟨i,j,rfl,rfl,q⟩ k
 cases r1; cases r2
 exact⟨i,j,rfl,rfl,k _ _ _ _ (aB.refl _) (.int _) q⟩
theorem o7 {f:Int->Int->Bool}:eB X (eL fun i j=>.bl (f i j)) (j4 fun i j=>.bl (f i j)):=by
 rintro W Hs H u v x y g g' Q Q' s n r1 r2 ⟨i,j,rfl,rfl,q⟩ k
 cases r1; cases r2
 exact⟨i,j,rfl,rfl,k _ _ _ _ (aB.refl _) (.bl _) q⟩
def kU (neg:Bool):PV->Tg->PV->Tg->PK->Prop:=fun x _ y _ Q=>(∃ i j,x = .int i/\y = .int j/\Q (.bl (if neg=true then !decide (i=j) else decide (i=j))) .fr) ∨ (∃ i j,x = .bl i/\y = .bl j/\Q (.bl (if neg=true then !decide (i=j) else decide (i=j))) .fr)
theorem J5 (i j:Int):decide (V.int i=V.int j)=decide (i=j):=by
 rw [bl1,bi5,bi5]; exact⟨fun z=>V.int.inj z,fun z=>congrArg V.int z⟩
theorem J6 (i j:Bool):decide (V.bl i=V.bl j)=decide (i=j):=by
 rw [bl1,bi5,bi5]; exact⟨fun z=>V.bl.inj z,fun z=>congrArg V.bl z⟩
theorem J7:eB X (kU false) zM:=by
 rintro W Hs H u v x y g g' Q Q' s n r1 r2 (⟨i,j,rfl,rfl,q⟩ | ⟨i,j,rfl,rfl,q⟩) k
 ·cases r1; cases r2
  exact⟨rfl,by rw [J5]; exact k _ _ _ _ (aB.refl _) (.bl _) q⟩
 ·cases r1; cases r2
  exact⟨rfl,by rw [J6]; exact k _ _ _ _ (aB.refl _) (.bl _) q⟩
theorem aw7:eB X (kU true) zN:=by
 rintro W Hs H u v x y g g' Q Q' s n r1 r2 (⟨i,j,rfl,rfl,q⟩ | ⟨i,j,rfl,rfl,q⟩) k
 ·cases r1; cases r2
  exact⟨rfl,by rw [J5]; exact k _ _ _ _ (aB.refl _) (.bl _) q⟩
 ·cases r1; cases r2
  exact⟨rfl,by rw [J6]; exact k _ _ _ _ (aB.refl _) (.bl _) q⟩
def aU (t:aD):cJ:=fun ρ Q=>t ρ fun x _=>∃ b,x = .bl b/\Q b
theorem qU {t:aD}{Q':Bool->Hp->Prop} (h:LT X (aU t) σ H Q'):LE X t σ H fun x H'=>∃ k,x = .bl k/\Q' k H':=by
 obtain ⟨W,ρ,Q,px,q,k⟩:=h
 refine⟨W,ρ,_,px,q,?_⟩
 rintro v H1 x g s r ⟨b,rfl,q⟩
 cases r
 exact⟨b,rfl,k _ _ s q⟩
def kW (t u:cJ):cJ:=fun ρ Q=>t ρ fun c=>if c=true then u ρ Q else Q false
def jB (t u:cJ):cJ:=fun ρ Q=>t ρ fun c=>if c=true then Q true else u ρ Q
def eM (t:cJ):cJ:=fun ρ Q=>t ρ fun c=>Q (!c)
variable {t u : cJ} {Qb : Bool → Hp → Prop}
theorem aw8 (h:LT X (kW t u) σ H Qb):yS (LT X t) (LT X u) σ H Qb:=by
 obtain ⟨W,ρ,Q,px,q,k⟩:=h
 refine⟨W,ρ,_,px,q,fun b H1 s1 q1=>?_⟩
 cases b with
 | true=>exact aZ ⟨W,ρ,Q,px.mono s1,by simpa using q1,fun b H2 s2 q2=>k _ _ (s1.trans s2) q2⟩
 | false=>exact aW (k _ _ s1 (by simpa using q1))
theorem aw9 (h:LT X (jB t u) σ H Qb):yT (LT X t) (LT X u) σ H Qb:=by
 obtain ⟨W,ρ,Q,px,q,k⟩:=h
 refine⟨W,ρ,_,px,q,fun b H1 s1 q1=>?_⟩
 cases b with
 | false=>exact aW ⟨W,ρ,Q,px.mono s1,by simpa using q1,fun b H2 s2 q2=>k _ _ (s1.trans s2) q2⟩
 | true=>exact aZ (k _ _ s1 (by simpa using q1))
theorem ax0 (h:LT X (eM t) σ H Qb):yU (LT X t) σ H Qb:=by
 obtain ⟨W,ρ,Q,px,q,k⟩:=h
 exact⟨W,ρ,_,px,q,fun b H1 s1 q1=>k _ _ s1 q1⟩
def jC (ta tb:aD):aD:=fun ρ Q=>ta ρ fun x _=>∃ c,x = .bl c/\if c=true then tb ρ Q else Q (.bl false) .fr
def vJ (ta:aD):aD:=fun ρ Q=>ta ρ fun x _=>∃ c,x = .bl c/\Q (.bl (!c)) .fr
theorem qQ.back {K:PySem.W.Frag}{H0:Hp}{W:Addr->Prop}{H H1:Hp}{Q:PK} (k:qQ K H0 W H Q Q') (s:aB H H1):qQ K H0 W H1 Q Q':=fun v H' x g s' r q=>k v H' x g (s.trans s') (r.same (aB.refl _) fun _ z=>Mg.back s z) q
theorem ax1 (h:LE X (jC ta tb) σ H Q'):yV (LE X ta) (LE X tb) σ H Q':=by
 obtain ⟨W,ρ,Q,px,q,k⟩:=h
 refine⟨W,ρ,_,px,q,?_⟩
 rintro v H1 x g s1 r ⟨c,rfl,q⟩
 cases r
 refine⟨c,rfl,?_⟩
 cases c with
 | true=>exact aZ ⟨W,ρ,Q,px.mono s1,by simpa using q,k.back s1⟩
 | false=>exact aW (k _ _ _ _ s1 (.bl _) (by simpa using q))
theorem ax2 (h:LE X (vJ ta) σ H Q'):yW (LE X ta) σ H Q':=by
 obtain ⟨W,ρ,Q,px,q,k⟩:=h
 refine⟨W,ρ,_,px,q,?_⟩
 rintro v H1 x g s1 r ⟨c,rfl,q⟩
 cases r
 exact⟨c,rfl,k _ _ _ _ s1 (.bl _) q⟩
def a9:cE:=fun _ Q=>Q []
def a6 (te:aD) (tr:cE):cE:=fun ρ Q=>te ρ fun x g=>tr ρ fun xs=>Q ((x,g) :: xs)
variable {Qa : List V → Hp → Prop} {tr : cE}
theorem ax3 (h:LA X a9 σ H Qa):jT σ H Qa:=by
 obtain ⟨W,ρ,Q,px,q,k⟩:=h
 exact k _ _ _ (aB.refl _) .nil q
theorem ax4 (h:LA X (a6 ta tr) σ H Qa):iJ (LE X ta) (LA X tr) σ H Qa:=by
 obtain ⟨W,ρ,Q,px,q,k⟩:=h
 refine⟨W,ρ,_,px,q,fun v H1 x g s1 r1 q1=>⟨W,ρ,_,px.mono s1,q1,fun vs H2 xs s2 r2 q2=>?_⟩⟩
 exact k _ _ _ (s1.trans s2) (.cons (r1.same s2 fun _ z=>z) (r2.same (aB.refl _) s1)) q2
def kX (t:cE):aD:=fun ρ Q=>t ρ fun xs=>xs.length<=1000/\jW xs/\Q (.tup (xs.map (·.1))) .nw
def cX (t:cE):aD:=fun ρ Q=>t ρ fun xs=>xs.length<=1000/\flats (xs.map (·.1))=true/\Q (.tup (xs.map (·.1))) .fr
def eN (t:cE):aD:=fun ρ Q=>t ρ fun xs=>xs.length<=1000/\flats (xs.map (·.1))=true/\Q (.lst (xs.map (·.1))) .fr
theorem gH.length {K:PySem.W.Frag}{H0:Hp}{W:Addr->Prop}{Hs H:Hp}:∀ {vs:List V}{xs:List (PV × Tg)},gH K H0 W Hs H vs xs->vs.length=xs.length
 | _,_,.nil=>rfl
 | _,_,.cons _ t=>congrArg (· + 1) t.length
theorem o8 {n:Nat} (h:n<=1000):n<=sizeLine:=bm2 (m3 h)
theorem ax5 (h:LE X (kX tr) σ H Q'):uE (LA X tr) σ H Q':=by
 obtain ⟨W,ρ,Q,px,q,k⟩:=h
 refine⟨W,ρ,_,px,q,?_⟩
 rintro vs H1 xs s1 r ⟨hl,n,q⟩
 refine⟨by rw [r.length]; exact o8 hl,fun p hp=>k _ _ _ .nw (s1.trans (bB hp _)) (.tup bE ?_) q⟩
 exact (jW.reps (vs:=vs) px n r).same (bB hp _) fun _ z=>z
theorem ax6 (h:LE X (cX tr) σ H Q'):uE (LA X tr) σ H Q':=by
 obtain ⟨W,ρ,Q,px,q,k⟩:=h
 refine⟨W,ρ,_,px,q,?_⟩
 rintro vs H1 xs s1 r ⟨hl,n,q⟩
 refine⟨by rw [r.length]; exact o8 hl,fun p hp=>k _ _ _ .fr (s1.trans (bB hp _)) (.tup bE ?_) q⟩
 exact (r.any.flat n).same (bB hp _) fun _ z=>z
theorem ax7 (h:LE X (eN tr) σ H Q'):uF (LA X tr) σ H Q':=by
 obtain ⟨W,ρ,Q,px,q,k⟩:=h
 refine⟨W,ρ,_,px,q,?_⟩
 rintro vs H1 xs s1 r ⟨hl,n,q⟩
 refine⟨by rw [r.length]; exact o8 hl,fun p hp=>k _ _ _ .fr (s1.trans (bB hp _)) (.lst (s1.free hp) bE ?_) q⟩
 exact (r.any.flat n).same (bB hp _) fun _ z=>z
def gI (X:Cx) (R:List PV->(PV->Prop)->Prop) (r:List V->Hp->VK->Prop):Prop:=∀ (H:Hp) (vs:List V) (xs:List PV) (Q:PV->Prop) (Q':VK),Reps X.K (fun _=>True) H vs xs->R xs Q->
 (∀ w H' z,aB H H'->aG X.K (fun a=>H a=none) H' w z->Q z->Q' w H')->r vs H Q'
def aC (R:List PV->(PV->Prop)->Prop) (t:cE):aD:=fun ρ Q=>t ρ fun xs=>R (xs.map (·.1)) fun z=>Q z .fr
theorem J8 {R:List PV->(PV->Prop)->Prop}{r:List V->Hp->VK->Prop} (c:gI X R r) (h:LE X (aC R tr) σ H Q'):uI r (LA X tr) σ H Q':=by
 obtain ⟨W,ρ,Q,px,q,k⟩:=h
 refine⟨W,ρ,_,px,q,fun vs H1 xs s1 r1 q1=>c H1 vs _ _ Q' r1.any q1 fun w H' z s2 r2 q2=>k w H' z .fr (s1.trans s2) (r2.same (aB.refl _) fun _ z=>s1.free z) q2⟩
end
structure i6 where
 nx:bJ->Prop
 rt:PV->Prop
 bk:bJ->Prop:=fun _=>False
 ct:bJ->Prop:=fun _=>False
abbrev aL:=i6->bJ->Prop
def Ev (W:Addr->Prop) (H:Hp) (W':Addr->Prop) (H':Hp):Prop:=∀ b o,H b=some o->¬ W b->H' b=some o/\¬ W' b
theorem Ev.trans {W W1 W2:Addr->Prop}{H H1 H2:Hp} (a:Ev W H W1 H1) (b:Ev W1 H1 W2 H2):Ev W H W2 H2:=fun c o h n=>let ⟨h1,n1⟩:=a c o h n; b c o h1 n1
theorem Ev.same {W:Addr->Prop}{H H':Hp} (s:aB H H'):Ev W H W H':=fun c o h n=>⟨s _ _ h,n⟩
theorem Ev.refl (W:Addr->Prop) (H:Hp):Ev W H W H:=Ev.same (aB.refl _)
structure o9 (X:Cx) (W:Addr->Prop) (H:Hp) (D':i6) (D:bP):Prop where
 nx:∀ W' σ' H' ρ',Ev W H W' H'->PX X.K X.H₀ W' σ' ρ' H'->D'.nx ρ'->D.nx σ' H'
 rt:∀ v H' x,aB X.H₀ H'->aG X.K (fun a=>X.H₀ a=none) H' v x->D'.rt x->D.rt v H'
 bk:∀ W' σ' H' ρ',Ev W H W' H'->PX X.K X.H₀ W' σ' ρ' H'->D'.bk ρ'->D.bk σ' H'
 ct:∀ W' σ' H' ρ',Ev W H W' H'->PX X.K X.H₀ W' σ' ρ' H'->D'.ct ρ'->D.ct σ' H'
theorem o9.step {X:Cx}{W W1:Addr->Prop}{H H1:Hp}{D':i6}{D:bP} (k:o9 X W H D' D) (e:Ev W H W1 H1):o9 X W1 H1 D' D:=
 ⟨fun W' σ' H' ρ' e'=>k.nx W' σ' H' ρ' (e.trans e'),k.rt,fun W' σ' H' ρ' e'=>k.bk W' σ' H' ρ' (e.trans e'),fun W' σ' H' ρ' e'=>k.ct W' σ' H' ρ' (e.trans e')⟩
def LS (X:Cx) (t:aL):TS:=fun D σ H=>∃ (W:Addr->Prop) (ρ:bJ) (D':i6),PX X.K X.H₀ W σ ρ H/\t D' ρ/\o9 X W H D' D
theorem fO {α:Type}{l:List α}{i j:Nat}{a b:α} (h:(l.set i a)[j]? = some b):(j=i/\i < l.length/\b=a) ∨ (j ≠ i/\l[j]? = some b):=by
 by_cases e:j=i
 ·subst e
  have hl:j < (l.set j a).length:=(bh7.mp h).1
  rw [bk9] at hl
  rw [bm8 hl] at h
  exact .inl ⟨rfl,hl,(bj9 h).symm⟩
 ·rw [bj6 (Ne.symm e)] at h
  exact .inr ⟨e,h⟩
section
variable {K : PySem.W.Frag} {H0 : Hp} {W W' : Addr → Prop} {σ : St} {ρ : bJ} {H H' Hs : Hp}
theorem PX.setSh {i:Nat}{v:V}{g:Bool}{x:PV} (p:PX K H0 W σ ρ H) (r:aG K (Ms H0 W g) H v x):PX K H0 W (σ.set i (some v)) (ρ.set i (some (.sh g x))) H:=by
 refine⟨by rw [bk9,bk9]; exact p.len,p.same,p.wm,fun j m h=>?_,fun j k y z a h1 h2 h3 h4=>?_⟩
 ·rcases fO h with ⟨rfl,hl,e⟩ | ⟨hne,h⟩
  ·cases e
   rw [p.len] at hl
   exact⟨v,bm8 hl,r⟩
  ·obtain ⟨u,e,q⟩:=p.sl j m h
   exact⟨u,by rw [bj6 (Ne.symm hne)]; exact e,q⟩
 ·rcases fO h1 with ⟨_,_,e⟩ | ⟨n1,h1⟩
  ·cases e
  ·rcases fO h2 with ⟨_,_,e⟩ | ⟨n2,h2⟩
   ·cases e
   ·rw [bj6 (Ne.symm n1)] at h3
    rw [bj6 (Ne.symm n2)] at h4
    exact p.dis j k y z a h1 h2 h3 h4
theorem PX.setNone {i:Nat}{o:Option V} (p:PX K H0 W σ ρ H):PX K H0 W (σ.set i o) (ρ.set i none) H:=by
 refine⟨by rw [bk9,bk9]; exact p.len,p.same,p.wm,fun j m h=>?_,fun j k y z a h1 h2 h3 h4=>?_⟩
 ·rcases fO h with ⟨rfl,hl,e⟩ | ⟨hne,h⟩
  ·cases e
  ·obtain ⟨u,e,q⟩:=p.sl j m h
   exact⟨u,by rw [bj6 (Ne.symm hne)]; exact e,q⟩
 ·rcases fO h1 with ⟨_,_,e⟩ | ⟨n1,h1⟩
  ·cases e
  ·rcases fO h2 with ⟨_,_,e⟩ | ⟨n2,h2⟩
   ·cases e
   ·rw [bj6 (Ne.symm n1)] at h3
    rw [bj6 (Ne.symm n2)] at h4
    exact p.dis j k y z a h1 h2 h3 h4
def m9 (W:Addr->Prop) (a:Addr):Addr->Prop:=fun b=>W b ∨ b=a
theorem vK {g:Bool}{a b:Addr} (n:b ≠ a) (h:Ms H0 W g b):Ms H0 (m9 W a) g b:=by
 cases g with
 | true=>exact⟨fun z=>z.elim h.1 n,h.2⟩
 | false=>exact fun z=>z.elim h n
theorem PX.setOwn {i:Nat}{a:Addr}{x:PV} (p:PX K H0 W σ ρ Hs) (s:aB Hs H) (ha:Hs a=none) (r:i5 K (Ms H0 (m9 W a) true) H a x):PX K H0 (m9 W a) (σ.set i (some (.ref a))) (ρ.set i (some (.own x))) H:=by
 have old:∀ b o,Hs b=some o->b ≠ a:=fun b o e z=>by rw [z,ha] at e; cases e
 have kp:∀ g,iK (Ms H0 W g) (Ms H0 (m9 W a) g) Hs H:=fun g=>⟨fun b _ m e=>⟨vK (old _ _ e) m,s _ _ e⟩,fun b _ m e=>⟨vK (old _ _ e) m,s _ _ e⟩,fun b _ m e=>⟨vK (old _ _ e) m,s _ _ e⟩,fun _ _ e=>s _ _ e,fun _ _ _ e=>s _ _ e⟩
 have wa : ¬ W a:=(p.new ha).1
 refine⟨by rw [bk9,bk9]; exact p.len,p.same.trans s,fun b z=>?_,fun j m h=>?_,fun j k y z b h1 h2 h3 h4=>?_⟩
 ·rcases z with z | rfl
  ·obtain ⟨h1,o,h2,h3⟩:=p.wm b z
   exact⟨h1,o,s _ _ h2,h3⟩
  ·exact⟨(p.new ha).2,r.at⟩
 ·rcases fO h with ⟨rfl,hl,e⟩ | ⟨hne,h⟩
  ·cases e
   rw [p.len] at hl
   exact⟨_,bm8 hl,a,rfl,.inr rfl,r⟩
  ·obtain ⟨u,e,q⟩:=p.sl j m h
   refine⟨u,by rw [bj6 (Ne.symm hne)]; exact e,?_⟩
   cases m with
   | sh g y=>exact aG.keep (kp g) q
   | own y=>
    obtain ⟨b,e1,e2,q⟩:=q
    exact⟨b,e1,.inl e2,q.keep (kp true) fun o z=>s _ _ z⟩
 ·have ne:∀ {j:Nat}{y:PV},ρ[j]? = some (some (.own y))->σ[j]? ≠ some (some (.ref a)):=fun {j y} h1 h2=>by
   obtain ⟨u,e,c,e1,e2,_⟩:=p.sl j _ h1
   rw [h2] at e
   cases e
   cases e1
   exact wa e2
  rcases fO h1 with ⟨e1,l1,_⟩ | ⟨n1,h1⟩
  ·rcases fO h2 with ⟨e2,_,_⟩ | ⟨n2,h2⟩
   ·rw [e1,e2]
   ·rw [e1,bm8 (by rw [<- p.len]; exact l1)] at h3
    rw [bj6 (Ne.symm n2)] at h4
    cases h3
    exact absurd h4 (ne h2)
  ·rw [bj6 (Ne.symm n1)] at h3
   rcases fO h2 with ⟨e2,l2,_⟩ | ⟨n2,h2⟩
   ·rw [e2,bm8 (by rw [<- p.len]; exact l2)] at h4
    cases h4
    exact absurd h3 (ne h1)
   ·rw [bj6 (Ne.symm n2)] at h4
    exact p.dis j k y z b h1 h2 h3 h4
theorem Ev.own {a:Addr} (s:aB Hs H) (ha:Hs a=none):Ev W Hs (m9 W a) H:=fun b o e n=>⟨s _ _ e,fun z=>z.elim n fun z=>by rw [z,ha] at e; cases e⟩
theorem iL {g:Bool}{a b:Addr} (wa:W a) (h:Ms H0 W g b):b ≠ a:=by
 cases g with
 | true=>exact fun z=>h.1 (by rw [z]; exact wa)
 | false=>exact fun z=>h (by rw [z]; exact wa)
theorem PX.updOwn {i:Nat}{a:Addr}{x y:PV}{o:HO} (p:PX K H0 W σ ρ H) (hi:ρ[i]? = some (some (.own x))) (ha:σ[i]? = some (some (.ref a))) (wa:W a) (mu:fA o=true) (r:i5 K (Ms H0 W true) (upd H a o) a y) :
  PX K H0 W σ (ρ.set i (some (.own y))) (upd H a o):=by
 obtain ⟨w0,o',e',mu'⟩:=p.wm a wa
 have kp:∀ g,iK (Ms H0 W g) (Ms H0 W g) H (upd H a o):=fun g=>.upd e' mu' fun b m=>⟨iL wa m,m⟩
 refine⟨by rw [bk9]; exact p.len,fun b u e=>by rw [aR (fun z=>by rw [z,w0] at e; cases e)]; exact p.same _ _ e,fun b z=>?_,fun j m h=>?_,fun j k y' z b h1 h2 h3 h4=>?_⟩
 ·by_cases e:b=a
  ·subst e; exact⟨w0,o,bE,mu⟩
  ·obtain ⟨h1,o2,h2,h3⟩:=p.wm b z
   exact⟨h1,o2,by rw [aR e]; exact h2,h3⟩
 ·rcases fO h with ⟨rfl,hl,e⟩ | ⟨hne,h⟩
  ·cases e
   exact⟨_,ha,a,rfl,wa,r⟩
  ·obtain ⟨u,e,q⟩:=p.sl j m h
   refine⟨u,e,?_⟩
   cases m with
   | sh g y=>exact aG.keep (kp g) q
   | own y=>
    obtain ⟨b,e1,e2,q⟩:=q
    have hb:b ≠ a:=fun z=>by
     subst e1
     rw [z] at e
     exact hne (p.dis j i _ _ a h hi e ha)
    exact⟨b,e1,e2,q.keep (kp true) fun o z=>by rw [aR hb]; exact z⟩
 ·have g1:∃ y,ρ[j]? = some (some (.own y)):=by
   rcases fO h1 with ⟨e,_,_⟩ | ⟨_,h⟩
   ·exact⟨x,by rw [e]; exact hi⟩
   ·exact⟨_,h⟩
  have g2:∃ y,ρ[k]? = some (some (.own y)):=by
   rcases fO h2 with ⟨e,_,_⟩ | ⟨_,h⟩
   ·exact⟨x,by rw [e]; exact hi⟩
   ·exact⟨_,h⟩
  obtain ⟨y1,g1⟩:=g1
  obtain ⟨y2,g2⟩:=g2
  exact p.dis j k y1 y2 b g1 g2 h3 h4
theorem Ev.upd {a:Addr}{o:HO} (wa:W a):Ev W H W (upd H a o):=fun b u e n=>⟨by rw [aR (fun z=>n (by rw [z]; exact wa))]; exact e,n⟩
end
section
variable {X : Cx} {σ : St} {H : Hp} {D : bP} {te : aD} {t u : aL}
def cC:aL:=fun D ρ=>D.nx ρ
def aJ (t u:aL):aL:=fun D ρ=>t { D with nx:=u D } ρ
theorem ax8 (h:LS X cC D σ H):yX D σ H:=by
 obtain ⟨W,ρ,D',px,q,k⟩:=h
 exact k.nx W σ H ρ (Ev.refl _ _) px q
theorem ax9 (h:LS X (aJ t u) D σ H):yY (LS X t) (LS X u) D σ H:=by
 obtain ⟨W,ρ,D',px,q,k⟩:=h
 exact⟨W,ρ,_,px,q,fun W' σ' H' ρ' e px' q'=>⟨W',ρ',D',px',q',k.step e⟩,k.rt,k.bk,k.ct⟩
def K0:Tg->PV->Bool
 | .fr,_=>true
 | .nw,_=>true
 | _,x=>flat x
def K1:Tg->PV->Prop
 | .rd,x=>flat x=true
 | _,_=>True
theorem ay0 {K:PySem.W.Frag}{H0 Hs H:Hp}{W:Addr->Prop}{σ:St}{ρ:bJ}{g:Tg}{x:PV}{v:V} (px:PX K H0 W σ ρ Hs) (n:K1 g x) (r:aG K (Mg H0 W Hs g) H v x):aG K (Ms H0 W (K0 g x)) H v x:=by
 cases g with
 | fr=>exact Nw.rep (g:=.fr) px trivial r
 | nw=>exact Nw.rep (g:=.nw) px trivial r
 | sh=>
  show aG K (Ms H0 W (flat x)) H v x
  cases e:flat x with
  | true=>exact r.flat e
  | false=>exact r.same (aB.refl _) fun _ z=>z
 | rd=>exact r.flat n
def b6 (i:Nat) (te:aD):aL:=fun D ρ=>te ρ fun x g=>K1 g x/\D.nx (ρ.set i (some (.sh (K0 g x) x)))
theorem K2 {i:Nat} (h:LS X (b6 i te) D σ H):jR (LE X te) (dS i) D σ H:=by
 obtain ⟨W,ρ,D',px,q,k⟩:=h
 refine⟨W,ρ,_,px,q,?_⟩
 rintro v H1 x g s r ⟨n,q⟩
 exact k.nx W _ H1 _ (Ev.same s) ((px.mono s).setSh (ay0 px n r)) q
def K3:PV->Bool
 | .lst xs=>flats xs
 | .dK ps=>flats (ps.map (·.2))
 | .dT ps=>flats (ps.map (·.2))
 | _=>false
theorem ay1 {K:PySem.W.Frag}{M:Addr->Prop}{H:Hp}{v:V}{x:PV} (r:aG K M H v x) (o:K3 x=true):∃ a,v = .ref a/\M a/\∀ M',i5 K M' H a x:=by
 cases r with
 | lst m e r=>exact⟨_,rfl,m,fun _=>⟨_,e,r.flat o⟩⟩
 | dK m e q r=>exact⟨_,rfl,m,fun _=>⟨_,e,q,r.flat o⟩⟩
 | dT m e q r=>exact⟨_,rfl,m,fun _=>⟨_,e,q,r.flat o⟩⟩
 | _=>cases o
def i7 (i:Nat) (te:aD):aL:=fun D ρ=>te ρ fun x g=>g = .fr/\K3 x=true/\D.nx (ρ.set i (some (.own x)))
theorem ay2 {i:Nat} (h:LS X (i7 i te) D σ H):jR (LE X te) (dS i) D σ H:=by
 obtain ⟨W,ρ,D',px,q,k⟩:=h
 refine⟨W,ρ,_,px,q,?_⟩
 rintro v H1 x g s r ⟨rfl,o,q⟩
 obtain ⟨a,rfl,m,w⟩:=ay1 r o
 exact k.nx _ _ H1 _ (Ev.own s m) (px.setOwn s m (w _)) q
def bF (te:aD):aL:=fun D ρ=>te ρ fun x g=>Nw g x/\D.rt x
theorem ay3 (h:LS X (bF te) D σ H):tV (LE X te) D σ H:=by
 obtain ⟨W,ρ,D',px,q,k⟩:=h
 refine⟨W,ρ,_,px,q,?_⟩
 rintro v H1 x g s r ⟨n,q⟩
 exact k.rt v H1 x (px.same.trans s) ((Nw.rep px n r).same (aB.refl _) fun _ z=>z.2) q
def Slot.nw:Slot->Prop
 | .own _=>True
 | .sh true _=>True
 | .sh false x=>flat x=true
def iM (i:Nat):aL:=fun D ρ=>∃ m,ρ[i]? = some (some m)/\m.nw/\D.rt m.val
theorem ay4 {i:Nat} (h:LS X (iM i) D σ H):tV (gU i) D σ H:=by
 obtain ⟨W,ρ,D',px,⟨m,hi,n,q⟩,k⟩:=h
 obtain ⟨v,ev,r⟩:=px.sl i _ hi
 refine⟨v,ev,k.rt v H _ px.same ?_ q⟩
 cases m with
 | own x=>
  obtain ⟨a,rfl,wa,r⟩:=r
  exact r.rep (fun _ z=>z.2) (px.wm a wa).1
 | sh g x=>
  cases g with
  | true=>exact aG.same r (aB.refl _) fun _ z=>z.2
  | false=>exact aG.flat n r
def bK (c:cJ) (t u:aL):aL:=fun D ρ=>c ρ fun b=>if b=true then t D ρ else u D ρ
theorem ay5 {c:cJ} (h:LS X (bK c t u) D σ H):yZ (LT X c) (LS X t) (LS X u) D σ H:=by
 obtain ⟨W,ρ,D',px,q,k⟩:=h
 refine⟨W,ρ,_,px,q,fun b H1 s q1=>?_⟩
 cases b with
 | true=>exact aZ ⟨W,ρ,D',px.mono s,by simpa using q1,k.step (Ev.same s)⟩
 | false=>exact aW ⟨W,ρ,D',px.mono s,by simpa using q1,k.step (Ev.same s)⟩
def qV (c:cJ) (tb:aL):aL:=fun D ρ=>∃ I:Nat->bJ->Prop,(∃ m,I m ρ)/\∀ m ρ',I m ρ'->c ρ' fun b=>if b=true then tb { D with nx:=fun ρ2=>∃ m',m' < m/\I m' ρ2,ct:=fun ρ2=>∃ m',m' < m/\I m' ρ2,bk:=D.nx } ρ' else D.nx ρ'
theorem ay6 {c:cJ}{tb:aL} (h:LS X (qV c tb) D σ H):zC (LT X c) (LS X tb) D σ H:=by
 obtain ⟨W,ρ,D',px,⟨I,⟨m0,i0⟩,turn⟩,k⟩:=h
 refine⟨fun m σ2 H2=>∃ W2 ρ2,PX X.K X.H₀ W2 σ2 ρ2 H2/\Ev W H W2 H2/\I m ρ2,⟨m0,W,ρ,px,Ev.refl _ _,i0⟩,?_⟩
 rintro m σ2 H2 ⟨W2,ρ2,px2,e2,i2⟩
 refine⟨W2,ρ2,_,px2,turn m ρ2 i2,fun b H3 s3 q3=>?_⟩
 cases b with
 | true=>
  refine aZ ⟨fun σ4 H4=>∃ W4 ρ4,PX X.K X.H₀ W4 σ4 ρ4 H4/\Ev W H W4 H4/\∃ m',m' < m/\I m' ρ4,fun σ4 H4 ⟨W4,ρ4,a,b,m',c,d⟩=>⟨m',c,W4,ρ4,a,b,d⟩,W2,ρ2,_,px2.mono s3,by simpa using q3,?_⟩
  have e3:Ev W H W2 H3:=e2.trans (Ev.same s3)
  exact⟨fun W' σ' H' ρ' e p q=>⟨W',ρ',p,e3.trans e,q⟩,k.rt,fun W' σ' H' ρ' e p q=>k.nx W' σ' H' ρ' (e3.trans e) p q,fun W' σ' H' ρ' e p q=>⟨W',ρ',p,e3.trans e,q⟩⟩
 | false=>exact aW (k.nx W2 σ2 H3 ρ2 (e2.trans (Ev.same s3)) (px2.mono s3) (by simpa using q3))
end
theorem lim {n:Nat} (h:n<=16000000):n<=sizeLine:=bm2 (i4 h)
theorem aG.sqT {K:PySem.W.Frag}{M:Addr->Prop}{H:Hp}{v:V}{xs:List PV} (r:aG K M H v (.tup xs)):∃ a us,v = .ref a/\H a=some (.tup us)/\Reps K M H us xs:=by
 cases r with
 | tup e r=>exact⟨_,_,rfl,e,r⟩
theorem aG.sqL {K:PySem.W.Frag}{M:Addr->Prop}{H:Hp}{v:V}{xs:List PV} (r:aG K M H v (.lst xs)):∃ a us,v = .ref a/\M a/\H a=some (.lst us)/\Reps K M H us xs:=by
 cases r with
 | lst m e r=>exact⟨_,_,rfl,m,e,r⟩
theorem jA.sqL {K:PySem.W.Frag}{H:Hp}{a:Addr}{ns:List Int} (h:jA K H a ns):aH K H a (ns.map V.int):=h.elim (fun z=>.inl (.inr z)) .inr
def iN:PV->Option (List PV)
 | .tup xs=>some xs
 | .lst xs=>some xs
 | .scr ns=>some (intz ns)
 | .kt xs=>some xs
 | _=>none
theorem aG.seq {K:PySem.W.Frag}{M:Addr->Prop}{H:Hp}{v:V}{x:PV}{xs:List PV} (r:aG K M H v x) (e:iN x=some xs):∃ a us,v = .ref a/\(aH K H a us ∨ aF K H a us)/\Reps K M H us xs:=by
 cases r with
 | tup h r=>cases e; exact⟨_,_,rfl,.inr (aF.of h),r⟩
 | lst m h r=>cases e; exact⟨_,_,rfl,.inl (aH.of h),r⟩
 | scr h=>cases e; exact⟨_,_,rfl,.inl h.sqL,Reps.intz _⟩
 | kt h r=>cases e; exact⟨_,_,rfl,.inr (.inr h),r⟩
 | _=>cases e
section
variable {X : Cx} {σ : St} {H : Hp} {D : bP} {te ti to : aD} {t u : aL} {Q' : VK}
theorem _root_.PP.PX.updL {K:PySem.W.Frag}{H0:Hp}{W:Addr->Prop}{σ:St}{ρ:bJ}{H:Hp}{i:Nat}{a:Addr}{x:PV}{us:List V}{ys:List PV} (p:PX K H0 W σ ρ H) (hi:ρ[i]? = some (some (.own x))) (ha:σ[i]? = some (some (.ref a))) (wa:W a) (r:Reps K (Ms H0 W true) (upd H a (.lst us)) us ys) :
  PX K H0 W σ (ρ.set i (some (.own (.lst ys)))) (upd H a (.lst us)):=p.updOwn hi ha wa rfl (y:=.lst ys) ⟨us,bE,r⟩
def mB (i:Nat) (te:aD):aL:=fun D ρ=>∃ xs,ρ[i]? = some (some (.own (.lst xs)))/\te ρ fun x g=>Nw g x/\xs.length < 16000000/\D.nx (ρ.set i (some (.own (.lst (xs ++ [x])))))
theorem ay7 {i:Nat} (h:LS X (mB i te) D σ H):pP (uQ X.K "list" B9 (gU i) (iJ (LE X te) jT)) D σ H:=by
 obtain ⟨W,ρ,D',px,⟨xs,hi,q⟩,k⟩:=h
 obtain ⟨v,ev,a,rfl,wa,us,ea,r⟩:=px.sl i _ hi
 refine⟨_,ev,m6 (aH.of ea),W,ρ,_,px,q,?_⟩
 rintro w H1 x g s rx ⟨n,hl,q⟩
 have ea1:=s _ _ ea
 refine⟨a,us,w,rfl,rfl,ea1,i4 (by rw [r.length]; omega),?_⟩
 refine k.nx W σ _ _ ((Ev.same s).trans (Ev.upd wa)) ((px.mono s).updL hi ev wa ?_) q
 exact ((r.same s fun _ z=>z).append (.cons (Nw.rep px n rx) .nil)).keep (.upd ea1 rfl fun b m=>⟨iL wa m,m⟩)
def gJ (i:Nat) (tk te:aD):aL:=fun D ρ=>te ρ fun x g=>∃ xs,ρ[i]? = some (some (.own (.lst xs)))/\tk ρ fun y _=>∃ n j,y = .int n/\dC xs.length n=some j/\Nw g x/\D.nx (ρ.set i (some (.own (.lst (xs.set j x)))))
theorem ay8 {i:Nat}{tk:aD} (h:LS X (gJ i tk te) D σ H):jR (LE X te) (kN (gU i) (LE X tk) kO) D σ H:=by
 obtain ⟨W,ρ,D',px,q,k⟩:=h
 refine⟨W,ρ,_,px,q,?_⟩
 rintro w H1 x g s rx ⟨xs,hi,q1⟩
 obtain ⟨v,ev,a,rfl,wa,us,ea,r⟩:=(px.mono s).sl i _ hi
 refine⟨_,ev,W,ρ,_,px.mono s,q1,?_⟩
 rintro kv H2 y gy s2 ry ⟨n,j,rfl,hj,nw,q2⟩
 cases ry
 have ea2:=s2 _ _ ea
 refine⟨a,us,n,j,rfl,rfl,ea2,by rw [r.length]; exact hj,?_⟩
 refine k.nx W σ _ _ ((Ev.same (s.trans s2)).trans (Ev.upd wa)) ((px.mono (s.trans s2)).updL hi ev wa ?_) q2
 exact (Reps.set ((Nw.rep px nw rx).same s2 fun _ z=>z) j (r.same s2 fun _ z=>z)).keep (.upd ea2 rfl fun b m=>⟨iL wa m,m⟩)
theorem ay9 {m n:Nat} (h:m < n):seqIndex? (m:Int) n=some m:=by
 have:=seqIndex_of (k:=(m:Int)) (n:=n) (by omega) (by omega)
 rw [this]; rfl
end
theorem Reps.atI {K:PySem.W.Frag}{M:Addr->Prop}{H:Hp}{us:List V}{xs:List PV}{i:Int}{z:PV} (r:Reps K M H us xs) (h:L2.atI xs i=some z):∃ v,L2.atI us i=some v/\aG K M H v z:=by
 unfold L2.atI at h ⊢
 rw [r.length]
 cases e:dC xs.length i with
 | none=>rw [e] at h; cases h
 | some j=>rw [e] at h; exact r.at h
section
variable {X : Cx} {σ : St} {H : Hp} {Q' : VK} {ta tb te : aD} {tr : cE}
def vL:PV->Tg->PV->Tg->PK->Prop:=fun x g y _ Q=>∃ xs i z,iN x=some xs/\y = .int i/\L2.atI xs i=some z/\Q z g
theorem az0:eB X vL (B3 X.K):=by
 rintro W Hs H u v x y g g' Q Q' s n r1 r2 ⟨xs,i,z,e,rfl,hz,q⟩ k
 cases r2
 obtain ⟨a,us,rfl,hs,r⟩:=r1.seq e
 obtain ⟨v,hv,rv⟩:=r.atI hz
 rcases hs with hs | hs
 ·exact .inl ⟨a,us,i,v,rfl,rfl,hs,hv,k v H z g (aB.refl _) rv q⟩
 ·exact .inr (.inl ⟨a,us,i,v,rfl,rfl,hs,hv,k v H z g (aB.refl _) rv q⟩)
def qW:PV->Option Nat
 | .tup xs=>some xs.length
 | .lst xs=>some xs.length
 | .scr ns=>some ns.length
 | .dK ps=>some ps.length
 | .kt xs=>some xs.length
 | _=>none
def bT:List PV->(PV->Prop)->Prop:=fun xs Q=>∃ x n,xs = [x]/\qW x=some n/\Q (.int n)
theorem Reps.one {K:PySem.W.Frag}{M:Addr->Prop}{H:Hp}{vs:List V}{x:PV} (r:Reps K M H vs [x]):∃ v,vs = [v]/\aG K M H v x:=by
 cases r with
 | cons r t=>cases t; exact⟨_,rfl,r⟩
theorem Reps.two {K:PySem.W.Frag}{M:Addr->Prop}{H:Hp}{vs:List V}{x y:PV} (r:Reps K M H vs [x,y]):∃ v w,vs = [v,w]/\aG K M H v x/\aG K M H w y:=by
 cases r with
 | cons r t=>
  obtain ⟨w,rfl,q⟩:=t.one
  exact⟨_,_,rfl,r,q⟩
theorem az1:gI X bT (fun xs H Q=>(∃ p ys,xs = [.ref p]/\(aH X.K H p ys ∨ aF X.K H p ys)/\Q (.int ys.length) H) ∨ ∃ a kvs,xs = [V.ref a]/\H a=some (.dK kvs)/\Q (.int kvs.length) H):=by
 rintro H vs xs Q Q' r ⟨x,n,rfl,e,q⟩ k
 obtain ⟨v,rfl,r1⟩:=r.one
 have fin:∀ {m:Nat},m=n->Q' (.int m) H:=fun {m} z=>by rw [z]; exact k _ _ _ (aB.refl _) (.int _) q
 cases r1 with
 | tup h r2=>cases e; exact .inl ⟨_,_,rfl,.inr (aF.of h),fin r2.length⟩
 | lst m h r2=>cases e; exact .inl ⟨_,_,rfl,.inl (aH.of h),fin r2.length⟩
 | scr h=>cases e; exact .inl ⟨_,_,rfl,.inl h.sqL,fin (by rw [bh4])⟩
 | kt h r2=>cases e; exact .inl ⟨_,_,rfl,.inr (.inr h),fin r2.length⟩
 | dK m h e' r=>
  cases e
  refine .inr ⟨_,_,rfl,h,fin ?_⟩
  have:=congrArg List.length e'
  rw [bh4,bh4] at this
  exact this
 | _=>cases e
def seqT:PV->Option (List PV)
 | .kt _=>none
 | x=>iN x
def K4:List PV->(PV->Prop)->Prop:=fun xs Q=>∃ x ys,xs = [x]/\seqT x=some ys/\flats ys=true/\Q (.tup ys)
def oA:List PV->(PV->Prop)->Prop:=fun xs Q=>∃ x ys,xs = [x]/\iN x=some ys/\flats ys=true/\Q (.lst ys)
theorem az2:gI X (fun xs Q=>K4 xs Q/\∀ ns,xs ≠ [.scr ns]) (fun xs H Q=>∃ p ys,xs = [.ref p]/\((aH X.K H p ys/\∀ l,H l=none->Q (.ref l) (upd H l (.tup ys))) ∨ (aF X.K H p ys/\Q (.ref p) H))):=by
 rintro H vs xs Q Q' r ⟨⟨x,ys,rfl,e,f,q⟩,nsc⟩ k
 obtain ⟨v,rfl,r1⟩:=r.one
 cases r1 with
 | tup h r2=>cases e; exact⟨_,_,rfl,.inr ⟨aF.of h,k _ _ _ (aB.refl _) (.tup h (r2.flat f)) q⟩⟩
 | lst m h r2=>cases e; exact⟨_,_,rfl,.inl ⟨aH.of h,fun l hl=>k _ _ _ (bB hl _) (.tup bE ((r2.flat f).same (bB hl _) fun _ z=>z)) q⟩⟩
 | scr h=>exact absurd rfl (nsc _)
 | _=>cases e
theorem az3:gI X oA (fun xs H Q=>∃ p ys,xs = [.ref p]/\(aH X.K H p ys ∨ aF X.K H p ys)/\∀ l,H l=none->Q (.ref l) (upd H l (.lst ys))):=by
 rintro H vs xs Q Q' r ⟨x,ys,rfl,e,f,q⟩ k
 obtain ⟨v,rfl,r1⟩:=r.one
 obtain ⟨a,us,rfl,hs,r2⟩:=r1.seq e
 exact⟨_,_,rfl,hs,fun l hl=>k _ _ _ (bB hl _) (.lst hl bE ((r2.flat f).same (bB hl _) fun _ z=>z)) q⟩
def vM:List PV->(PV->Prop)->Prop:=fun xs Q=>∃ bs:List Bool,xs = [.lst (bs.map PV.bl)]/\Q (.bl (bs.all id))
theorem Reps.ofBls {K:PySem.W.Frag}{M:Addr->Prop}{H:Hp}:∀ {ns:List Bool}{us:List V},Reps K M H us (ns.map PV.bl)->us=ns.map V.bl
 | [],_,.nil=>rfl
 | n :: r,_,.cons q t=>by
  cases q
  rw [Reps.ofBls t]; rfl
theorem az4:gI X vM (fun xs H Q=>∃ (a:Addr) (bs:List Bool),xs = [.ref a]/\aH X.K H a (bs.map V.bl)/\Q (.bl (bs.all id)) H):=by
 rintro H vs xs Q Q' r ⟨bs,rfl,q⟩ k
 obtain ⟨v,rfl,r1⟩:=r.one
 obtain ⟨a,us,rfl,_,h,r2⟩:=r1.sqL
 obtain rfl:=r2.ofBls
 exact⟨a,bs,rfl,aH.of h,k _ _ _ (aB.refl _) (.bl _) q⟩
def qX:List PV->(PV->Prop)->Prop:=fun xs Q=>∃ i j,xs = [.int i,.int j]/\Q (.int (if j < i then j else i))
def vN:List PV->(PV->Prop)->Prop:=fun xs Q=>∃ i j,xs = [.int i,.int j]/\Q (.int (if j > i then j else i))
theorem az5:gI X qX (fun xs H Q=>∃ i j,xs = [.int i,.int j]/\Q (.int (if j < i then j else i)) H):=by
 rintro H vs xs Q Q' r ⟨i,j,rfl,q⟩ k
 obtain ⟨v,w,rfl,r1,r2⟩:=r.two
 cases r1; cases r2
 exact⟨i,j,rfl,k _ _ _ (aB.refl _) (.int _) q⟩
theorem az6:gI X vN (fun xs H Q=>∃ i j,xs = [.int i,.int j]/\Q (.int (if j > i then j else i)) H):=by
 rintro H vs xs Q Q' r ⟨i,j,rfl,q⟩ k
 obtain ⟨v,w,rfl,r1,r2⟩:=r.two
 cases r1; cases r2
 exact⟨i,j,rfl,k _ _ _ (aB.refl _) (.int _) q⟩
abbrev bH:=List PV->(PV->Prop)->Prop
def oB (K:PySem.W.Frag) (p:bH):Sp:=fun vs H Q _=>∃ xs Qp,Reps K (fun _=>True) H vs xs/\p xs Qp/\∀ v H' x,aB H H'->aG K (fun a=>H a=none) H' v x->Qp x->Q v H'
theorem az7 {p:bH}{E:XK} (h:LE X (aC p tr) σ H Q'):uG (oB X.K p) [] E (LA X tr) σ H Q':=by
 obtain ⟨W,ρ,Q,px,q,k⟩:=h
 refine⟨W,ρ,_,px,q,fun vs H1 xs s1 r1 q1=>⟨_,_,by rw [bk1]; exact r1.any,q1,fun v H' x s2 r2 q2=>k v H' x .fr (s1.trans s2) (r2.same (aB.refl _) fun _ z=>s1.free z) q2⟩⟩
def az8:PV->Option Bool
 | .non=>some false
 | .bl b=>some b
 | .int i=>some (i != 0)
 | .tup xs=>some (!xs.isEmpty)
 | .lst xs=>some (!xs.isEmpty)
 | .dK ps=>some (!ps.isEmpty)
 | _=>none
def kY (t:aD):cJ:=fun ρ Q=>t ρ fun x _=>∃ b,az8 x=some b/\Q b
theorem vO {α β:Type}:∀ {l:List α}{m:List β},l.length=m.length->l.isEmpty=m.isEmpty
 | [],[],_=>rfl
 | _ :: _,_ :: _,_=>rfl
theorem az9 {t:aD}{Qb:Bool->Hp->Prop} (h:LT X (kY t) σ H Qb):LE X t σ H fun x H'=>∃ k,uB X.K x H' k/\Qb k H':=by
 obtain ⟨W,ρ,Q,px,q,k⟩:=h
 refine⟨W,ρ,_,px,q,?_⟩
 rintro v H1 x g s r ⟨b,e,q⟩
 refine⟨b,?_,k _ _ s q⟩
 cases r with
 | non=>cases e; rfl
 | bl b=>cases e; rfl
 | int i=>cases e; rfl
 | str x=>cases e
 | tup h r=>cases e; exact .inr (.inl ⟨_,aF.of h,by rw [vO r.length]⟩)
 | lst m h r=>cases e; exact .inl ⟨_,aH.of h,by rw [vO r.length]⟩
 | dK m h e' r=>
  cases e
  refine .inr (.inr ⟨_,h,?_⟩)
  have:=congrArg List.length e'
  rw [bh4,bh4] at this
  rw [vO this]
 | dT m h e' r=>cases e
 | scr h=>cases e
 | kt h r=>cases e
 | exc h e' c=>cases e
 | fK h e' r=>cases e
 | fT h e' r=>cases e
end
structure jX (K:PySem.W.Frag) (H0:Hp) (W:Addr->Prop) (g:Bool) (H1:Hp) (J:It) (xs:List PV):Prop where
 go:∀ W' H' i,Ev W H1 W' H'->i < xs.length->J.go i H'
 yld:∀ W' H' i v H2,Ev W H1 W' H'->J.yld i H' v H2->i < xs.length->aB H' H2/\∃ x,xs[i]? = some x/\aG K (Ms H0 W' g) H2 v x
 stop:∀ W' H',Ev W H1 W' H'->J.stop xs.length H'
abbrev eO:=bJ->(List PV->Bool->Prop)->Prop
def LI (X:Cx) (t:eO):TI:=fun σ H R=>∃ (W:Addr->Prop) (ρ:bJ) (Q:List PV->Bool->Prop),PX X.K X.H₀ W σ ρ H/\t ρ Q/\∀ J H1 xs g,aB H H1->jX X.K X.H₀ W g H1 J xs->Q xs g->R J H1
theorem Ev.keep {H0:Hp}{W W':Addr->Prop}{H H':Hp}{g:Bool} (e:Ev W H W' H') (tw:∀ a,W a->∃ o,H a=some o/\fA o=true):iK (Ms H0 W g) (Ms H0 W' g) H H':=by
 have m:∀ {a:Addr}{o:HO},Ms H0 W g a->H a=some o->Ms H0 W' g a/\H' a=some o:=fun {a o} z h=>by
  cases g with
  | true=>
   obtain ⟨h1,h2⟩:=e a _ h z.1
   exact⟨⟨h2,z.2⟩,h1⟩
  | false=>
   obtain ⟨h1,h2⟩:=e a _ h z
   exact⟨h2,h1⟩
 refine⟨fun a _ z h=>m z h,fun a _ z h=>m z h,fun a _ z h=>m z h,fun a _ h=>(e a _ h fun z=>?_).1,fun a _ _ h=>(e a _ h fun z=>?_).1⟩
 ·obtain ⟨o,h',mu⟩:=tw a z; rw [h] at h'; cases h'; cases mu
 ·obtain ⟨o,h',mu⟩:=tw a z; rw [h] at h'; cases h'; cases mu
section
variable {X : Cx} {σ : St} {H : Hp} {te : aD} {tr : cE} {R : It → Hp → Prop}
def K5 (K:PySem.W.Frag) (tl:TE):TI:=fun σ H R=>tl σ H fun x H1=>∃ a,x = .ref a/\((∃ xs,aH K H1 a xs/\R (lW K a) H1) ∨ (∃ xs,aF K H1 a xs/\R (jS K a) H1))
def oC:Tg->List PV->Bool
 | .fr,_=>true
 | .nw,_=>true
 | _,xs=>flats xs
def dM (te:aD):eO:=fun ρ Q=>te ρ fun x g=>∃ xs,iN x=some xs/\(g = .rd->flat x=true)/\Q xs (oC g xs)
theorem K6 {K:PySem.W.Frag}{H0:Hp}{W:Addr->Prop}{g:Bool}{H1:Hp}{a:Addr}{us:List V}{xs:List PV} (tw:∀ a,W a->∃ o,H1 a=some o/\fA o=true) (ha:∀ W' H',Ev W H1 W' H'->aH K H' a us) (r:Reps K (Ms H0 W g) H1 us xs):jX K H0 W g H1 (lW K a) xs:=by
 have lr:=r.length
 refine⟨fun W' H' i e hi=>⟨us,us[i]'(by omega),ha W' H' e,by simp⟩,fun W' H' i v H2 e y hi=>?_,fun W' H' e=>⟨us,ha W' H' e,by omega⟩⟩
 obtain ⟨rfl,y⟩:=y
 obtain ⟨x,hx,rx⟩:=r.get (y us (ha W' _ e))
 exact⟨aB.refl _,x,hx,rx.keep (e.keep tw)⟩
theorem K7 {K:PySem.W.Frag}{H0:Hp}{W:Addr->Prop}{g:Bool}{H1:Hp}{a:Addr}{us:List V}{xs:List PV} (tw:∀ a,W a->∃ o,H1 a=some o/\fA o=true) (ha:∀ W' H',Ev W H1 W' H'->aF K H' a us) (r:Reps K (Ms H0 W g) H1 us xs):jX K H0 W g H1 (jS K a) xs:=by
 have lr:=r.length
 refine⟨fun W' H' i e hi=>⟨us,us[i]'(by omega),ha W' H' e,by simp⟩,fun W' H' i v H2 e y hi=>?_,fun W' H' e=>⟨us,ha W' H' e,by omega⟩⟩
 obtain ⟨rfl,y⟩:=y
 obtain ⟨x,hx,rx⟩:=r.get (y us (ha W' _ e))
 exact⟨aB.refl _,x,hx,rx.keep (e.keep tw)⟩
theorem jY {K:PySem.W.Frag}{H0 Hs H:Hp}{W:Addr->Prop}{σ:St}{ρ:bJ}{g:Tg}{us:List V}{xs:List PV} (px:PX K H0 W σ ρ Hs) (hg:g = .rd->flats xs=true) (r:Reps K (Mg H0 W Hs g) H us xs):Reps K (Ms H0 W (oC g xs)) H us xs:=by
 cases g with
 | fr=>exact r.same (aB.refl _) fun _ z=>px.new z
 | nw=>exact r.same (aB.refl _) fun _ z=>z
 | sh=>
  show Reps K (Ms H0 W (flats xs)) H us xs
  cases e:flats xs with
  | true=>exact r.flat e
  | false=>exact r.same (aB.refl _) fun _ z=>z
 | rd=>exact r.flat (hg rfl)
theorem aA0 (h:LI X (dM te) σ H R):K5 X.K (LE X te) σ H R:=by
 obtain ⟨W,ρ,Q,px,q,k⟩:=h
 refine⟨W,ρ,_,px,q,?_⟩
 rintro v H1 x g s r ⟨xs,e,hg,q⟩
 have px1:=px.mono s
 have tw:∀ a,W a->∃ o,H1 a=some o/\fA o=true:=fun a z=>(px1.wm a z).2
 cases r with
 | tup h r=>
  cases e
  refine⟨_,rfl,.inr ⟨_,aF.of h,k _ _ _ _ s (K7 tw (fun W' H' e=>aF.of (e _ _ h fun z=>?_).1) (jY px (fun z=>by have:=hg z; unfold flat at this; exact this) r)) q⟩⟩
  obtain ⟨o,h',mu⟩:=tw _ z; rw [h] at h'; cases h'; cases mu
 | @lst a us xs' m h r=>
  cases e
  have wa : ¬ W a:=by
   cases g with
   | fr=>exact (px.new m).1
   | nw=>exact m.1
   | sh=>exact m
   | rd=>have:=hg rfl; unfold flat at this; cases this
  exact⟨_,rfl,.inl ⟨_,aH.of h,k _ _ _ _ s (K6 tw (fun W' H' e=>aH.of (e _ _ h wa).1) (jY px (fun z=>by have:=hg z; unfold flat at this; cases this) r)) q⟩⟩
 | scr h=>
  cases e
  refine⟨_,rfl,.inl ⟨_,h.sqL,k _ _ _ _ s (K6 tw (fun W' H' e=>(jA.keep (fun a o u hz=>(e _ _ hz fun z=>?_).1) h).sqL) (jY (g:=g) px (fun z=>cW _) (Reps.intz _))) q⟩⟩
  obtain ⟨o,h',mu⟩:=tw _ z; rw [hz] at h'; cases h'; cases mu
 | kt h r=>
  cases e
  exact⟨_,rfl,.inr ⟨_,.inr h,k _ _ _ _ s (K7 tw (fun W' H' e=>.inr h) (jY px (fun z=>by have:=hg z; unfold flat at this; exact this) r)) q⟩⟩
 | _=>cases e
def eQ (lo:Int) (n:Nat):List PV:=(List.range n).map fun (i:Nat)=>PV.int (lo+(i:Int))
theorem eR (lo:Int) (n:Nat):(eQ lo n).length=n:=by unfold eQ; rw [bh4,bu0]
theorem K8 {lo:Int}{n i:Nat} (h:i < n):(eQ lo n)[i]? = some (.int (lo+i)):=by unfold eQ; rw [bh9,List.getElem?_range h]; rfl
def jD (te:aD):eO:=fun ρ Q=>te ρ fun x _=>∃ j:Int,x = .int j/\-1000000<=j/\j<=1000000/\Q (eQ 0 j.toNat) true
def vP (ta tb:aD):eO:=fun ρ Q=>ta ρ fun x _=>tb ρ fun y _=>∃ i j:Int,x = .int i/\y = .int j/\(-1000000<=i/\i<=1000000/\-1000000<=j/\j<=1000000)/\Q (eQ i (j - i).toNat) true
theorem K9 {K:PySem.W.Frag}{H0:Hp}{W:Addr->Prop}{H1:Hp} (lo:Int) (n:Nat):jX K H0 W true H1 (nF lo n) (eQ lo n):=by
 refine⟨fun W' H' i e hi=>by rw [eR] at hi; exact hi,fun W' H' i v H2 e y hi=>?_,fun W' H' e=>by show n<=(eQ lo n).length; rw [eR]; exact bh0 _⟩
 rw [eR] at hi
 obtain ⟨rfl,rfl⟩:=y
 exact⟨aB.refl _,_,K8 hi,.int _⟩
theorem aA1 (h:LI X (jD te) σ H R):zG (iJ (LE X te) jT) σ H R:=by
 obtain ⟨W,ρ,Q,px,q,k⟩:=h
 refine⟨W,ρ,_,px,q,?_⟩
 rintro v H1 x g s r ⟨j,rfl,h1,h2,q⟩
 cases r
 exact⟨j,rfl,by omega,by omega,k _ _ _ _ s (K9 0 j.toNat) q⟩
theorem aA2 {ta tb:aD} (h:LI X (vP ta tb) σ H R):zH (iJ (LE X ta) (iJ (LE X tb) jT)) σ H R:=by
 obtain ⟨W,ρ,Q,px,q,k⟩:=h
 refine⟨W,ρ,_,px,q,fun v H1 x g s r q=>⟨W,ρ,_,px.mono s,q,?_⟩⟩
 rintro w H2 y g' s2 r2 ⟨i,j,rfl,rfl,h,q⟩
 cases r; cases r2
 exact⟨i,j,rfl,by omega,k _ _ _ _ (s.trans s2) (K9 i (j - i).toNat) q⟩
end
abbrev jZ:=PV->Bool->bJ->(bJ->Prop)->Prop
def oD (K:PySem.W.Frag) (own:Nat->Prop) (p:jZ) (t:TG):Prop:=∀ (H0:Hp) (W:Addr->Prop) (σ:St) (ρ:bJ) (H:Hp) (v:V) (x:PV) (g:Bool) (Q:bJ->Prop) (Q':St->Hp->Prop),
 PX K H0 W σ ρ H->aG K (Ms H0 W g) H v x->p x g ρ Q->(∀ σ' ρ',PX K H0 W σ' ρ' H->(∀ i,¬ own i->σ'[i]? = σ[i]?)->σ'.length=σ.length->Q ρ'->Q' σ' H)->t v σ H Q'
def cA (i:Nat):jZ:=fun x g ρ Q=>Q (ρ.set i (some (.sh (g || flat x) x)))
theorem qY {K:PySem.W.Frag}{H0 H:Hp}{W:Addr->Prop}{v:V}{x:PV}{g:Bool} (r:aG K (Ms H0 W g) H v x):aG K (Ms H0 W (g || flat x)) H v x:=by
 cases g with
 | true=>exact r
 | false=>
  show aG K (Ms H0 W (flat x)) H v x
  cases e:flat x with
  | true=>exact r.flat e
  | false=>exact r
theorem qZ (K:PySem.W.Frag) (i:Nat):oD K (· = i) (cA i) (dS i):=by
 intro H0 W σ ρ H v x g Q Q' px r q k
 exact k _ _ (px.setSh (qY r)) (fun j hj=>by rw [bj6 (Ne.symm hj)]) (bk9 ..) q
def oE (i j:Nat):jZ:=fun x g ρ Q=>∃ y z,x = .tup [y,z]/\Q ((ρ.set i (some (.sh (g || flat y) y))).set j (some (.sh (g || flat z) z)))
theorem aA3 (K:PySem.W.Frag) (i j:Nat):oD K (fun k=>k=i ∨ k=j) (oE i j) (nE K 2 (iZ (dS i) (iZ (dS j) nD))):=by
 intro H0 W σ ρ H v x g Q Q' px r q k
 obtain ⟨y,z,rfl,q⟩:=q
 obtain ⟨a,us,rfl,h,r⟩:=r.sqT
 obtain ⟨u1,u2,rfl,r1,r2⟩:=r.two
 refine⟨a,_,rfl,aF.of h,rfl,u1,_,rfl,u2,_,rfl,rfl,k _ _ ((px.setSh (qY r1)).setSh (qY r2)) (fun k hk=>?_) (by rw [bk9,bk9]) q⟩
 rw [bj6 (fun e=>hk (.inr e.symm)),bj6 (fun e=>hk (.inl e.symm))]
section
variable {X : Cx} {σ : St} {H : Hp} {D : bP}
def dW (ti:eO) (p:jZ) (tb:aL):aL:=fun D ρ=>ti ρ fun xs g=>∃ I:Nat->bJ->Prop,I 0 ρ/\(∀ i x ρ',xs[i]? = some x->I i ρ'->p x g ρ' fun ρ2=>tb { D with nx:=I (i+1),ct:=I (i+1),bk:=D.nx } ρ2)/\∀ ρ',I xs.length ρ'->D.nx ρ'
theorem aA4 {ti:eO}{p:jZ}{g:TG}{tb:aL}{own:Nat->Prop} (hg:oD X.K own p g) (h:LS X (dW ti p tb) D σ H):zI (LI X ti) g (LS X tb) D σ H:=by
 obtain ⟨W,ρ,D',px,q,k⟩:=h
 refine⟨W,ρ,_,px,q,?_⟩
 rintro J H1 xs gb s it ⟨I,i0,turn,fin⟩
 refine⟨fun i m σ2 H2=>m=xs.length - i/\i<=xs.length/\∃ W2 ρ2,PX X.K X.H₀ W2 σ2 ρ2 H2/\Ev W H1 W2 H2/\I i ρ2,⟨xs.length,by omega,bl6 _,W,ρ,px.mono s,Ev.refl _ _,i0⟩,?_⟩
 rintro i m σ2 H2 ⟨rfl,hi,W2,ρ2,px2,e2,i2⟩
 have e0:Ev W H W2 H2:=(Ev.same s).trans e2
 by_cases hlt:i < xs.length
 ·refine .inr ⟨it.go W2 H2 i e2 hlt,fun σ3 H3=>∃ W3 ρ3,PX X.K X.H₀ W3 σ3 ρ3 H3/\Ev W H1 W3 H3/\I (i+1) ρ3,fun σ3 H3 ⟨W3,ρ3,a,b,c⟩=>⟨xs.length - (i+1),by omega,rfl,hlt,W3,ρ3,a,b,c⟩,fun v H3 y=>?_⟩
  obtain ⟨s3,x,hx,rx⟩:=it.yld W2 H2 i v H3 e2 y hlt
  refine hg X.H₀ W2 σ2 ρ2 H3 v x gb _ _ (px2.mono s3) rx (turn i x ρ2 hx i2) fun σ4 ρ4 px4 _ _ q4=>?_
  have e3:Ev W H1 W2 H3:=e2.trans (Ev.same s3)
  have e3':Ev W H W2 H3:=e0.trans (Ev.same s3)
  exact⟨W2,ρ4,_,px4,q4,fun W' σ' H' ρ' e p q=>⟨W',ρ',p,e3.trans e,q⟩,k.rt,fun W' σ' H' ρ' e p q=>k.nx W' σ' H' ρ' (e3'.trans e) p q,fun W' σ' H' ρ' e p q=>⟨W',ρ',p,e3.trans e,q⟩⟩
 ·have e:i=xs.length:=by omega
  subst e
  exact .inl ⟨it.stop W2 H2 e2,k.nx W2 σ2 H2 ρ2 e0 px2 (fin ρ2 i2)⟩
end
def mC (fr:List (Option Nat)) (ρ:bJ):bJ:=fr.map fun o=>o.bind fun j=>(ρ[j]?).join.map fun m=>Slot.sh false m.val
def kZ (D:Addr):Addr->Prop:=fun a=>a=D
theorem aA5 {K:PySem.W.Frag}{H0:Hp}{W:Addr->Prop}{σ:St}{ρ:bJ}{H1 H':Hp}{D:Addr}{acc:List V}{fr:List (Option Nat)} (px:PX K H0 W σ ρ H1) (hD:H1 D=none) (s:aB H1 H') (ha:H' D=some (.lst acc)) :
  PX K H1 (kZ D) (eZ fr σ) (mC fr ρ) H':=by
 have old:∀ {a:Addr}{o:HO},H1 a=some o->a ≠ D:=fun {a o} e z=>by rw [z,hD] at e; cases e
 refine⟨by unfold eZ mC; rw [bh4,bh4],s,fun a z=>by cases z; exact⟨hD,_,ha,rfl⟩,fun i m h=>?_,fun i j x y a h1=>?_⟩
 ·unfold mC at h
  rw [bh9] at h
  cases ef:fr[i]? with
  | none=>rw [ef] at h; cases h
  | some o=>
   rw [ef] at h
   cases o with
   | none=>cases h
   | some j=>
    have h:some ((ρ[j]?).join.map fun m=>Slot.sh false m.val)=some (some m):=h
    cases er:ρ[j]? with
    | none=>rw [er] at h; cases h
    | some o=>
     rw [er] at h
     cases o with
     | none=>cases h
     | some m0=>
      cases h
      obtain ⟨v,ev,r⟩:=px.sl j m0 er
      refine⟨v,?_,?_⟩
      ·unfold eZ
       rw [bh9,ef]
       show some ((σ[j]?).join)=_
       rw [ev]; rfl
      ·have r':aG K (fun _=>True) H1 v m0.val:=(J3 (Hs:=H1) r).same (aB.refl _) fun _ _=>trivial
       exact r'.keep ⟨fun a _ _ e=>⟨old e,s _ _ e⟩,fun a _ _ e=>⟨old e,s _ _ e⟩,fun a _ _ e=>⟨old e,s _ _ e⟩,fun _ _ e=>s _ _ e,fun _ _ _ e=>s _ _ e⟩
 ·unfold mC at h1
  rw [bh9] at h1
  cases ef:fr[i]? with
  | none=>rw [ef] at h1; cases h1
  | some o=>
   rw [ef] at h1
   cases o with
   | none=>cases h1
   | some j=>
    have h1:some ((ρ[j]?).join.map fun m=>Slot.sh false m.val)=some (some (Slot.own x)):=h1
    cases er:ρ[j]? with
    | none=>rw [er] at h1; cases h1
    | some o=>
     rw [er] at h1
     cases o with
     | none=>cases h1
     | some m0=>cases h1
section
variable {X : Cx} {σ : St} {H : Hp} {Q' : VK}
abbrev _root_.L2.Cx.frm (X:Cx) (H1:Hp):Cx:={ X with H₀:=H1 }
def dX (ti:eO) (fr:List (Option Nat)) (p:jZ) (tc:cJ) (te:aD):aD:=fun ρ Q=>ti ρ fun xs g=>xs.length<=16000000/\∃ I:Nat->List PV->Prop,I 0 []/\
 (∀ i x acc,xs[i]? = some x->I i acc->p x false (mC fr ρ) fun ρ2=>tc ρ2 fun b=>if b=true then te ρ2 fun y gy=>Nw gy y/\I (i+1) (acc ++ [y]) else I (i+1) acc)/\∀ acc,I xs.length acc->Q (.lst acc) .fr
theorem vQ {ti:eO}{fr:List (Option Nat)}{p:jZ}{g:TG}{tc:cJ}{te:aD}{own:Nat->Prop} (hg:oD X.K own p g) (ho:∀ i,own i->fr[i]? = some none) (h:LE X (dX ti fr p tc te) σ H Q') :
  v9 (LI X ti) fr (fun _=>g) (fun H1=>LT (X.frm H1) tc) (fun H1=>LE (X.frm H1) te) σ H Q':=by
 obtain ⟨W,ρ,Q,px,q,k⟩:=h
 refine⟨W,ρ,_,px,q,?_⟩
 rintro J H1 xs gb s it ⟨hl,I,i0,turn,fin⟩ D hD
 have px1:=px.mono s
 refine⟨fun i m acc H'=>m=xs.length - i/\i<=xs.length/\aB H1 H'/\H' D=some (.lst acc)/\∃ ys,Reps X.K (Ms H1 (kZ D) true) H' acc ys/\ys.length<=i/\I i ys,⟨xs.length,by omega,bl6 _,bB hD _,bE,[],.nil,bh0 _,i0⟩,?_⟩
 rintro i m acc H' ⟨rfl,hi,sm,ha,ys,ry,hy,iy⟩
 refine⟨ha,?_⟩
 have ev:Ev W H1 (m9 W D) H':=Ev.own sm hD
 by_cases hlt:i < xs.length
 ·refine .inr ⟨it.go _ H' i ev hlt,fun v H2 y=>?_⟩
  obtain ⟨s2,x,hx,rx⟩:=it.yld _ H' i v H2 ev y hlt
  have ha2:=s2 _ _ ha
  have pxb:PX X.K H1 (kZ D) (eZ fr σ) (mC fr ρ) H2:=aA5 px1 hD (sm.trans s2) ha2
  have rx':aG X.K (Ms H1 (kZ D) false) H2 v x:=rx.same (aB.refl _) fun a z=>by
   cases gb with
   | true=>exact fun e=>z.1 (.inr e)
   | false=>exact fun e=>z (.inr e)
  refine hg H1 (kZ D) _ _ H2 v x false _ _ pxb rx' (turn i x ys hx iy) fun σ2 ρ2 px2 hown hlen q2=>⟨⟨hlen.symm,fun j w e=>?_⟩,?_⟩
  ·by_cases oj:own j
   ·have:=ho j oj
    unfold eZ at e
    rw [bh9,this] at e
    cases e
   ·rw [hown j oj]; exact e
  ·refine⟨kZ D,ρ2,_,px2,q2,fun b H4 s4 q4=>?_⟩
   have ha4:=s4 _ _ ha2
   have sm4:=(sm.trans s2).trans s4
   cases b with
   | false=>
    refine aW ⟨xs.length - (i+1),by omega,rfl,hlt,sm4,ha4,ys,ry.same (s2.trans s4) fun _ z=>z,by omega,by simpa using q4⟩
   | true=>
    refine aZ ⟨kZ D,ρ2,_,px2.mono s4,by simpa using q4,?_⟩
    rintro w H5 y gy s5 ryy ⟨nw,q5⟩
    have ha5:=s5 _ _ ha4
    have lr:=ry.length
    refine⟨ha5,i4 (by omega),xs.length - (i+1),by omega,rfl,hlt,fun b o e=>?_,bE,ys ++ [y],?_,by rw [bi3,bm4]; omega,q5⟩
    ·rw [aR (fun z=>by rw [z,hD] at e; cases e)]
     exact s5 _ _ (sm4 _ _ e)
    ·exact ((ry.same ((s2.trans s4).trans s5) fun _ z=>z).append (.cons (Nw.rep (px2.mono s4) nw ryy) .nil)).keep (.upd ha5 rfl fun b m=>⟨m.1,m⟩)
 ·have e:i=xs.length:=by omega
  subst e
  refine .inl ⟨it.stop _ H' ev,k _ H' _ .fr (s.trans sm) (.lst (s.free hD) ha (ry.same (aB.refl _) fun _ z=>s.free z.2)) (fin ys iy)⟩
def iO:cJ:=fun _ Q=>Q true
theorem aA6 {Qb:Bool->Hp->Prop} (h:LT X iO σ H Qb):v7 σ H Qb:=by
 obtain ⟨W,ρ,Q,px,q,k⟩:=h
 exact k _ _ (aB.refl _) q
end
section
variable {κ : Type} [DecidableEq κ]
def c7 (ps:List (κ × PV)) (k:κ):Option PV:=(ps.find? fun p=>decide (p.1=k)).map (·.2)
def dJ (ps:List (κ × PV)) (k:κ) (x:PV):List (κ × PV):=if (ps.any fun p=>decide (p.1=k))=true then ps.map (fun p=>if p.1=k then (p.1,x) else p) else ps ++ [(k,x)]
variable {K : PySem.W.Frag} {M : Addr → Prop} {H : Hp}
theorem jE (k:κ):∀ {kvs:List (κ × V)}{ps:List (κ × PV)},kvs.map (·.1)=ps.map (·.1)->Reps K M H (kvs.map (·.2)) (ps.map (·.2))->(c7 ps k=none->eJ kvs k=none)/\∀ x,c7 ps k=some x->∃ v,eJ kvs k=some v/\aG K M H v x
 | [],[],_,_=>⟨fun _=>rfl,fun x h=>by cases h⟩
 | [],_ :: _,e,_=>by cases e
 | _ :: _,[],e,_=>by cases e
 | (k1,v) :: kvs,(k2,x) :: ps,e,r=>by
  injection e with e1 e2
  have e1:k1=k2:=e1
  subst e1
  cases r with
  | cons r t=>
   obtain ⟨h1,h2⟩:=jE k e2 t
   unfold c7 eJ at h1 h2 ⊢
   by_cases e:k1=k
   ·simp only [br2,e,decide_true,Option.map_some]
    exact⟨fun z=>(by cases z),fun y z=>(by cases z; exact⟨v,rfl,r⟩)⟩
   ·simp only [br2,e,decide_false]
    exact⟨h1,h2⟩
theorem aA7 (k:κ) {kvs:List (κ × V)}{ps:List (κ × PV)} (e:kvs.map (·.1)=ps.map (·.1)):(kvs.any fun p=>decide (p.1=k))=ps.any fun p=>decide (p.1=k):=by
 have h1:(kvs.any fun p=>decide (p.1=k))=(kvs.map (·.1)).any fun z=>decide (z=k):=by rw [List.any_map]; rfl
 have h2:(ps.any fun p=>decide (p.1=k))=(ps.map (·.1)).any fun z=>decide (z=k):=by rw [List.any_map]; rfl
 rw [h1,h2,e]
theorem L4 (k:κ) {w:V}{y:PV} (q:aG K M H w y):∀ {kvs:List (κ × V)}{ps:List (κ × PV)},kvs.map (·.1)=ps.map (·.1)->Reps K M H (kvs.map (·.2)) (ps.map (·.2))->
  (kvs.map fun kv=>if kv.1=k then (kv.1,w) else kv).map (·.1)=(ps.map fun kv=>if kv.1=k then (kv.1,y) else kv).map (·.1)/\Reps K M H ((kvs.map fun kv=>if kv.1=k then (kv.1,w) else kv).map (·.2)) ((ps.map fun kv=>if kv.1=k then (kv.1,y) else kv).map (·.2))
 | [],[],_,_=>⟨rfl,.nil⟩
 | [],_ :: _,e,_=>by cases e
 | _ :: _,[],e,_=>by cases e
 | (k1,v) :: kvs,(k2,x) :: ps,e,r=>by
  injection e with e1 e2
  have e1:k1=k2:=e1
  subst e1
  cases r with
  | cons r t=>
   obtain ⟨h1,h2⟩:=L4 k q e2 t
   by_cases e:k1=k
   ·simp only [bn6,e,if_true]
    exact⟨by rw [h1],.cons q h2⟩
   ·simp only [bn6,e,bo4]
    exact⟨by rw [h1],.cons r h2⟩
theorem L5 (k:κ) {w:V}{y:PV} (q:aG K M H w y) {kvs:List (κ × V)}{ps:List (κ × PV)} (e:kvs.map (·.1)=ps.map (·.1)) (r:Reps K M H (kvs.map (·.2)) (ps.map (·.2))) :
  (dL kvs k w).map (·.1)=(dJ ps k y).map (·.1)/\Reps K M H ((dL kvs k w).map (·.2)) ((dJ ps k y).map (·.2)):=by
 unfold dL dJ
 rw [aA7 k e]
 split
 ·exact L4 k q e r
 ·rw [bl4,bl4,bl4,bl4,e]
  exact⟨rfl,r.append (.cons q .nil)⟩
end
def kP:aE->PV
 | .inl i=>.int i
 | .inr x=>.str x
theorem vR {K:PySem.W.Frag}{M:Addr->Prop}{H:Hp}{v:V}{k:aE} (r:aG K M H v (kP k)):v=kV k:=by
 cases k with
 | inl i=>cases r; rfl
 | inr x=>cases r; rfl
theorem L6 {K:PySem.W.Frag}{M:Addr->Prop}{H:Hp}:∀ {ks:List aE}{us:List V},Reps K M H us (ks.map kP)->us=ks.map kV
 | [],_,.nil=>rfl
 | k :: r,_,.cons q t=>by rw [vR q,L6 t]; rfl
def L7:PV->PV
 | .fK ps=>.dK ps
 | .fT ps=>.dT ps
 | x=>x
def L8 (x y:PV) (o:Option PV):Prop:=(∃ ps k,L7 x = .dK ps/\y=kP k/\o=c7 ps k) ∨ (∃ ps k,L7 x = .dT ps/\y = .tup (k.map kP)/\o=c7 ps k)
theorem L9 {K:PySem.W.Frag}{M M2:Addr->Prop}{H:Hp}{v w:V}{x y:PV}{o:Option PV} (h:L8 x y o) (rx:aG K M H v x) (ry:aG K M2 H w y):∃ a o',v = .ref a/\hV H a w o'/\(o=none->o'=none)/\∀ z,o=some z->∃ u,o'=some u/\aG K M H u z:=by
 rcases h with ⟨ps,k,ex,rfl,rfl⟩ | ⟨ps,k,ex,rfl,rfl⟩
 ·obtain rfl:=vR ry
  cases rx with
  | dK m h e r=>cases ex; exact⟨_,_,rfl,hV.k h,(jE k e r).1,(jE k e r).2⟩
  | fK h e r=>cases ex; exact⟨_,_,rfl,.inl ⟨_,k,.inr ⟨_,h⟩,rfl,rfl⟩,(jE k e r).1,(jE k e r).2⟩
  | _=>cases ex
 ·obtain ⟨b,us,rfl,hb,rb⟩:=ry.sqT
  obtain rfl:=L6 rb
  cases rx with
  | dT m h e r=>cases ex; exact⟨_,_,rfl,hV.t h hb,(jE k e r).1,(jE k e r).2⟩
  | fT h e r=>cases ex; exact⟨_,_,rfl,.inr ⟨_,k,b,.inr ⟨_,h⟩,rfl,hb,rfl⟩,(jE k e r).1,(jE k e r).2⟩
  | _=>cases ex
section
variable {X : Cx} {σ : St} {H : Hp} {D : bP} {tk td te : aD} {Q' : VK}
def k4 (neg:Bool) (tk td:aD):aD:=fun ρ Q=>tk ρ fun y _=>td ρ fun x _=>∃ o,L8 x y o/\Q (.bl (if neg=true then !o.isSome else o.isSome)) .fr
theorem M0 {α β:Type}{o:Option α}{o':Option β}{P:β->α->Prop} (h1:o=none->o'=none) (h2:∀ z,o=some z->∃ u,o'=some u/\P u z):o'.isSome=o.isSome:=by
 cases o with
 | none=>rw [h1 rfl]; rfl
 | some z=>obtain ⟨u,e,_⟩:=h2 z rfl; rw [e]; rfl
theorem aA8 (h:LE X (k4 false tk td) σ H Q'):C7 (LE X tk) (LE X td) σ H Q':=by
 obtain ⟨W,ρ,Q,px,q,k⟩:=h
 refine⟨W,ρ,_,px,q,fun w H1 y g s r q=>⟨W,ρ,_,px.mono s,q,?_⟩⟩
 rintro v H2 x g' s2 r2 ⟨o,ak,q⟩
 obtain ⟨a,o',rfl,dg,h1,h2⟩:=L9 ak r2 (r.same s2 fun _ z=>z)
 refine⟨a,o',rfl,dg,?_⟩
 rw [M0 h1 h2]
 exact k _ _ _ .fr (s.trans s2) (.bl _) q
theorem M3 (h:LE X (k4 true tk td) σ H Q'):C8 (LE X tk) (LE X td) σ H Q':=by
 obtain ⟨W,ρ,Q,px,q,k⟩:=h
 refine⟨W,ρ,_,px,q,fun w H1 y g s r q=>⟨W,ρ,_,px.mono s,q,?_⟩⟩
 rintro v H2 x g' s2 r2 ⟨o,ak,q⟩
 obtain ⟨a,o',rfl,dg,h1,h2⟩:=L9 ak r2 (r.same s2 fun _ z=>z)
 refine⟨a,o',rfl,dg,?_⟩
 rw [M0 h1 h2]
 exact k _ _ _ .fr (s.trans s2) (.bl _) q
theorem PX.updD {K:PySem.W.Frag}{H0:Hp}{W:Addr->Prop}{σ:St}{ρ:bJ}{H:Hp}{i:Nat}{a:Addr}{x:PV}{kvs:List (aE × V)}{ps:List (aE × PV)} (p:PX K H0 W σ ρ H) (hi:ρ[i]? = some (some (.own x))) (ha:σ[i]? = some (some (.ref a))) (wa:W a)
  (r:kvs.map (·.1)=ps.map (·.1)/\Reps K (Ms H0 W true) (upd H a (.dK kvs)) (kvs.map (·.2)) (ps.map (·.2))):PX K H0 W σ (ρ.set i (some (.own (.dK ps)))) (upd H a (.dK kvs)):=p.updOwn hi ha wa rfl (y:=.dK ps) ⟨kvs,bE,r⟩
theorem vS {κ α β:Type}{l:List (κ × α)}{m:List (κ × β)} (e:l.map (·.1)=m.map (·.1)):l.length=m.length:=by
 have:=congrArg List.length e
 rw [bh4,bh4] at this
 exact this
def r6 (i:Nat) (tk te:aD):aL:=fun D ρ=>te ρ fun z g=>∃ ps,ρ[i]? = some (some (.own (.dK ps)))/\tk ρ fun y _=>∃ k,y=kP k/\Nw g z/\ps.length < 16000000/\D.nx (ρ.set i (some (.own (.dK (dJ ps k z)))))
theorem aA9 {i:Nat} (h:LS X (r6 i tk te) D σ H):C9 (gU i) (LE X tk) (LE X te) D σ H:=by
 obtain ⟨W,ρ,D',px,q,k⟩:=h
 refine⟨W,ρ,_,px,q,?_⟩
 rintro w H1 z g s rz ⟨ps,hi,q⟩
 obtain ⟨v,ev,a,rfl,wa,kvs,ea,e1,r⟩:=(px.mono s).sl i _ hi
 refine⟨_,ev,W,ρ,_,px.mono s,q,?_⟩
 rintro kv H2 y g' s2 ry ⟨kk,rfl,nw,hl,q⟩
 obtain rfl:=vR ry
 have ea2:=s2 _ _ ea
 refine⟨a,_,rfl,nU.k ea2 (i4 (by rw [vS e1]; omega)),?_⟩
 refine k.nx W σ _ _ ((Ev.same (s.trans s2)).trans (Ev.upd wa)) ((px.mono (s.trans s2)).updD hi ev wa ?_) q
 obtain ⟨h1,h2⟩:=L5 kk ((Nw.rep px nw rz).same s2 fun _ z=>z) e1 (r.same s2 fun _ z=>z)
 exact⟨h1,h2.keep (.upd ea2 rfl fun b m=>⟨iL wa m,m⟩)⟩
theorem aB0 (h:LE X (qC (.dK [])) σ H Q'):E2 σ H Q':=by
 obtain ⟨W,ρ,Q,px,q,k⟩:=h
 exact fun p hp=>k _ _ _ .fr (bB hp _) (.dK hp bE rfl .nil) q
def i8 (ps more:List (aE × PV)):List (aE × PV):=more.foldl (fun acc kv=>dJ acc kv.1 kv.2) ps
theorem M4 {K:PySem.W.Frag}{M:Addr->Prop}{H:Hp}:∀ {more:List (aE × V)}{mp:List (aE × PV)}{kvs:List (aE × V)}{ps:List (aE × PV)},more.map (·.1)=mp.map (·.1)->Reps K M H (more.map (·.2)) (mp.map (·.2))->kvs.map (·.1)=ps.map (·.1)->Reps K M H (kvs.map (·.2)) (ps.map (·.2))->
  (kQ kvs more).map (·.1)=(i8 ps mp).map (·.1)/\Reps K M H ((kQ kvs more).map (·.2)) ((i8 ps mp).map (·.2))
 | [],[],_,_,_,_,e,r=>⟨e,r⟩
 | [],_ :: _,_,_,e,_,_,_=>by cases e
 | _ :: _,[],_,_,e,_,_,_=>by cases e
 | (k1,v) :: more,(k2,x) :: mp,kvs,ps,e,r,e',r'=>by
  injection e with e1 e2
  have e1:k1=k2:=e1
  subst e1
  cases r with
  | cons q t=>
   obtain ⟨h1,h2⟩:=L5 k1 q e' r'
   exact M4 (more:=more) (mp:=mp) e2 t h1 h2
def vT (i:Nat) (te:aD):aL:=fun D ρ=>∃ ps,ρ[i]? = some (some (.own (.dK ps)))/\te ρ fun y g=>∃ mp,y = .dK mp/\(g = .fr ∨ (g = .nw/\False))/\ps.length+mp.length<=16000000/\D.nx (ρ.set i (some (.own (.dK (i8 ps mp)))))
theorem aB1 {i:Nat} (h:LS X (vT i te) D σ H):pP (J1 (gU i) (LE X te)) D σ H:=by
 obtain ⟨W,ρ,D',px,⟨ps,hi,q⟩,k⟩:=h
 obtain ⟨v,ev,a,rfl,wa,kvs,ea,e1,r⟩:=px.sl i _ hi
 refine⟨_,ev,a,rfl,.inl ⟨kvs,.inl ea⟩,W,ρ,_,px,q,?_⟩
 rintro w H1 y g s ry ⟨mp,rfl,hg,hl,q⟩
 rcases hg with rfl | ⟨_,z⟩
 ·cases ry with
  | @dK b more _ m hb e2 rb=>
   have hab:a ≠ b:=fun z=>by subst z; rw [show H a=none from m] at ea; cases ea
   have ea1:=s _ _ ea
   refine⟨b,kvs,more,rfl,hab,ea1,hb,lim (by rw [vS e1,vS e2]; exact hl),?_⟩
   refine k.nx W σ _ _ ((Ev.same s).trans (Ev.upd wa)) ((px.mono s).updD hi ev wa ?_) q
   obtain ⟨h1,h2⟩:=M4 e2 (rb.same (M':=Ms X.H₀ W true) (aB.refl _) fun _ z=>px.new z) e1 (r.same s fun _ z=>z)
   exact⟨h1,h2.keep (.upd ea1 rfl fun b m=>⟨iL wa m,m⟩)⟩
 ·exact z.elim
end
def bQ:Nat->PV->PV->Bool
 | _,.non,.non=>true
 | _,.bl a,.bl b=>a == b
 | _,.int a,.int b=>a == b
 | _,.str a,.str b=>a == b
 | n+1,.tup xs,.tup ys=>(xs.zip ys).all (fun p=>bQ n p.1 p.2) && xs.length == ys.length
 | n+1,.lst xs,.lst ys=>(xs.zip ys).all (fun p=>bQ n p.1 p.2) && xs.length == ys.length
 | n+1,.kt xs,.kt ys=>(xs.zip ys).all (fun p=>bQ n p.1 p.2) && xs.length == ys.length
 | _,_,_=>false
def dA:Nat->PV->PV->Bool
 | _,.non,.non=>true
 | _,.bl _,.bl _=>true
 | _,.int _,.int _=>true
 | _,.str _,.str _=>true
 | _,.non,.int _=>true
 | _,.int _,.non=>true
 | n+1,.tup xs,.tup ys=>(xs.zip ys).all (fun p=>dA n p.1 p.2)
 | n+1,.lst xs,.lst ys=>(xs.zip ys).all (fun p=>dA n p.1 p.2)
 | n+1,.kt xs,.kt ys=>(xs.zip ys).all (fun p=>dA n p.1 p.2)
 | _+1,.non,.tup _=>true
 | _+1,.tup _,.non=>true
 | _,_,_=>false
theorem aB2 (n:Nat) (a b:Int):bQ n (.int a) (.int b)=(a == b):=by cases n <;> rfl
theorem vU (n:Nat):∀ (a b:List Int),((((intz a).zip (intz b)).all fun p=>bQ n p.1 p.2) && (intz a).length == (intz b).length)=decide (a=b)
 | [],[]=>rfl
 | [],_ :: _=>by simp
 | _ :: _,[]=>by simp
 | x :: a,y :: b=>by
  have ih:=vU n a b
  simp only [bn6,bv5,br7,bk2,aB2] at ih ⊢
  by_cases e:x=y
  ·subst e
   have:((intz a).length+1 == (intz b).length+1)=((intz a).length == (intz b).length):=by simp
   rw [this,bo8,Bool.true_and,ih]
   simp
  ·have:(x == y)=false:=beq_eq_false_iff_ne.mpr e
   rw [this,Bool.false_and,Bool.false_and]
   simp [e]
theorem vV (n:Nat) (a b:List Int):bQ (n+1) (.tup (intz a)) (.tup (intz b))=decide (a=b):=vU n a b
theorem aB3 (n:Nat) (a b:List Int):bQ (n+1) (.lst (intz a)) (.lst (intz b))=decide (a=b):=vU n a b
theorem vW (n:Nat):∀ (a b:List Int),(((intz a).zip (intz b)).all fun p=>dA n p.1 p.2)=true
 | [],_=>by simp
 | _ :: _,[]=>by simp
 | x :: a,y :: b=>by
  simp only [bn6,bv5,br7,vW n a b,Bool.and_true]
  cases n <;> rfl
theorem vX (n:Nat) (a b:List Int):dA (n+1) (.tup (intz a)) (.tup (intz b))=true:=vW n a b
theorem aB4 (n:Nat) (a b:List Int):dA (n+1) (.lst (intz a)) (.lst (intz b))=true:=vW n a b
def l0 (ta:aD):aD:=fun ρ Q=>ta ρ fun x _=>∃ i,x = .int i/\Q (.int (-i)) .fr
def k6 (neg:Bool):PV->Tg->PV->Tg->PK->Prop:=fun x _ y _ Q=>∃ i ns,x = .int i/\iN y=some (intz ns)/\Q (.bl (if neg=true then !decide (i ∈ ns) else decide (i ∈ ns))) .fr
def M5:PV->Option String
 | .non=>some "NoneType"
 | .bl _=>some "bool"
 | .int _=>some "int"
 | .str _=>some "str"
 | .tup _=>some "tuple"
 | .kt _=>some "tuple"
 | .lst _=>some "list"
 | _=>none
def l8 (K:PySem.W.Frag) (n:String) (te:aD):aD:=fun ρ Q=>te ρ fun x _=>∃ T b,M5 x=some T/\PySem.W.kitOne K (.type T) (.type n)=some b/\Q (.bl b) .fr
def jF (n:Nat) (neg:Bool):PV->Tg->PV->Tg->PK->Prop:=fun x _ y _ Q=>((∃ xs ys,x = .tup xs/\y = .tup ys) ∨ (∃ xs ys,x = .lst xs/\y = .lst ys))/\dA (n+1) x y=true/\Q (.bl (if neg=true then !bQ (n+1) x y else bQ (n+1) x y)) .fr
abbrev mD:=bJ->(Option Int->Prop)->Prop
def fB (xs:List PV) (lo hi:Option Int):List PV:=(xs.drop (HT.aT xs.length 0 lo)).take (HT.aT xs.length xs.length hi - HT.aT xs.length 0 lo)
def aB5:PV->List PV->PV
 | .tup _,ys=>.tup ys
 | .kt _,ys=>.tup ys
 | _,ys=>.lst ys
def vY:mD:=fun _ Q=>Q none
def oF (te:aD):mD:=fun ρ Q=>te ρ fun x _=>∃ i,x = .int i/\Q (some i)
def r9 (te:aD) (tl th:mD):aD:=fun ρ Q=>te ρ fun x _=>tl ρ fun lo=>th ρ fun hi=>∃ xs,seqT x=some xs/\flats xs=true/\Q (aB5 x (fB xs lo hi)) .fr
def fD (N:List Str) (xs:List PV):bJ:=xs.map (fun x=>some (.sh (flat x) x)) ++ List.replicate (N.length - xs.length) none
abbrev dN (ta tb:aD):aD:=q2 (eL fun i j=>.int (i+j)) ta tb
abbrev l9 (ta tb:aD):aD:=q2 (eL fun i j=>.int (i - j)) ta tb
abbrev oG (ta tb:aD):aD:=q2 (RI nI fun i j=>.int (i * j)) ta tb
abbrev fP (ta tb:aD):aD:=q2 (RI u8 fun i j=>.int (i / j)) ta tb
abbrev bU (ta tb:aD):aD:=q2 (RI (fun _ j=>0 < j) fun i j=>.int (i % j)) ta tb
abbrev M6 (ta tb:aD):aD:=q2 (RI u9 fun i j=>.int (i ^ j.toNat)) ta tb
abbrev vZ (ta tb:aD):aD:=q2 (eL fun i j=>.bl (decide (i < j))) ta tb
abbrev qLe (ta tb:aD):aD:=q2 (eL fun i j=>.bl (decide (i<=j))) ta tb
abbrev oH (ta tb:aD):aD:=q2 (eL fun i j=>.bl (decide (j < i))) ta tb
abbrev oI (ta tb:aD):aD:=q2 (eL fun i j=>.bl (decide (j<=i))) ta tb
abbrev dB (ta tb:aD):aD:=q2 (kU false) ta tb
abbrev w4 (ta tb:aD):aD:=q2 (kU true) ta tb
abbrev bI (ta tb:aD):aD:=q2 vL ta tb
def gK:List PV->(PV->Prop)->Prop:=fun xs Q=>K4 xs Q/\∀ ns,xs ≠ [.scr ns]
def QE (X:Cx) (e:Expr) (t:aD):Prop:=PE X e (LE X t)
def QT (X:Cx) (e:Expr) (t:cJ):Prop:=PT X e (LT X t)
def QW (X:Cx) (e:Expr) (t:cJ):Prop:=PW X e (LT X t)
def QA (X:Cx) (es:List Expr) (t:cE):Prop:=PA X es (LA X t)
def QS (X:Cx) (st:Stmt) (t:aL):Prop:=PS X st (LS X t)
def eC (X:Cx) (st:List Stmt) (t:aL):Prop:=dH X st (LS X t)
def QI (X:Cx) (tg iter:Expr) (t:eO):Prop:=PI X tg iter (LI X t)
section
variable {X : Cx}
theorem cB {e:Expr}{t t':TE} (h:PE X e t) (m:∀ σ H Q,t' σ H Q->t σ H Q):PE X e t':=fun pins s σ H Q I q=>h pins s σ H Q I (m σ H Q q)
theorem mE {e:Expr}{t t':TT} (h:PT X e t) (m:∀ σ H Q,t' σ H Q->t σ H Q):PT X e t':=fun pins s σ H Q I q=>h pins s σ H Q I (m σ H Q q)
theorem M7 {e:Expr}{t t':TT} (h:PW X e t) (m:∀ σ H Q,t' σ H Q->t σ H Q):PW X e t':=fun wh pins s σ H Q I q=>h wh pins s σ H Q I (m σ H Q q)
theorem M8 {e:List Expr}{t t':TA} (h:PA X e t) (m:∀ σ H Q,t' σ H Q->t σ H Q):PA X e t':=fun pos pins s σ H Q I q=>h pos pins s σ H Q I (m σ H Q q)
theorem eD {e:Stmt}{t t':TS} (h:PS X e t) (m:∀ D σ H,t' D σ H->t D σ H):PS X e t':=fun pins s σ H D I q=>h pins s σ H D I (m D σ H q)
theorem w5 {e:List Stmt}{t t':TS} (h:dH X e t) (m:∀ D σ H,t' D σ H->t D σ H):dH X e t':=fun pins s σ H D I q=>h pins s σ H D I (m D σ H q)
theorem oJ {tg e:Expr}{t t':TI} (h:PI X tg e t) (m:∀ σ H R,t' σ H R->t σ H R):PI X tg e t':=fun pins s σ H R I q=>h pins s σ H R I (m σ H R q)
variable {a b c e o : Expr} {es cY : List Expr} {ta tb te to tk : aD} {tr : cE} {tA tB' tc : cJ} {pos p2 px : Pos} {st : Stmt} {sts : List Stmt} {t u : aL}
theorem qv (i:Nat) {x:Str}{pos:Pos} (hN:X.N[i]? = some x:=by rfl) (hv:fZ X.env.scope x:=by first | exact Or.inl rfl | exact Or.inr (Or.inl rfl) | exact Or.inr (Or.inr rfl)) (hd:(x == ("__debug__" : Str))=false:=by decide)
  (hcd:(x == ("__classdict__" : Str))=false:=by decide):QE X (.Name x pos) (a5 i):=cB (iI hN hv hd hcd) fun _ _ _=>aw6
theorem aI {i j}:QE X (.Constant (.int i) j pos) (qC (.int i)):=cB kI fun _ _ _=>qR fun _=>.int i
theorem cK {i j}:QE X (.Constant (.bool i) j pos) (qC (.bl i)):=cB aj6 fun _ _ _=>qR fun _=>.bl i
theorem oK {j}:QE X (.Constant .none j pos) (qC .non):=cB aj7 fun _ _ _=>qR fun _=>.non
theorem oM {i j}:QE X (.Constant (.str i) j pos) (qC (.str i)):=cB aj8 fun _ _ _=>qR fun _=>.str i
theorem jG {op:Operator}{R:PV->Tg->PV->Tg->PK->Prop}{r:R2} (ho:c9 X (binaryOp op) r) (cv:eB X R r) (ha:QE X a ta) (hb:QE X b tb):QE X (.BinOp a op b pos) (q2 R ta tb):=cB (am1 ho ha hb) fun _ _ _=>qS cv
theorem eS (ha:QE X a ta) (hb:QE X b tb):QE X (.BinOp a .Add b pos) (q2 (eL fun i j=>.int (i+j)) ta tb):=jG am3 J4 ha hb
theorem mF (ha:QE X a ta) (hb:QE X b tb):QE X (.BinOp a .Sub b pos) (q2 (eL fun i j=>.int (i - j)) ta tb):=jG am4 J4 ha hb
theorem oN (ha:QE X a ta) (hb:QE X b tb):QE X (.BinOp a .Mult b pos) (q2 (RI nI fun i j=>.int (i * j)) ta tb):=jG am5 qT ha hb
theorem jH (ha:QE X a ta) (hb:QE X b tb):QE X (.BinOp a .FloorDiv b pos) (q2 (RI u8 fun i j=>.int (i / j)) ta tb):=jG am6 qT ha hb
theorem cL (ha:QE X a ta) (hb:QE X b tb):QE X (.BinOp a .Mod b pos) (q2 (RI (fun _ j=>0 < j) fun i j=>.int (i % j)) ta tb):=jG am7 qT ha hb
theorem M9 (ha:QE X a ta) (hb:QE X b tb):QE X (.BinOp a .Pow b pos) (q2 (RI u9 fun i j=>.int (i ^ j.toNat)) ta tb):=jG am8 qT ha hb
theorem oO {op:CmpOp}{R:PV->Tg->PV->Tg->PK->Prop}{r:R2} (ho:c9 X (compareOp op) r) (cv:eB X R r) (ha:QE X a ta) (hb:QE X b tb) (hm:behindInMarks op b=false):QE X (.Compare a [op] [b] pos) (q2 R ta tb):=cB (uA ho ha hb hm) fun _ _ _=>qS cv
theorem jI {op:CmpOp}{R:PV->Tg->PV->Tg->PK->Prop}{r:R2} (ho:c9 X (compareOp op) r) (cv:eB X R r) (ha:QE X a ta) (hb:QE X b tb) (hm:behindInMarks op b=false):QT X (.Compare a [op] [b] pos) (aU (q2 R ta tb)):=mE (an3 ho ha hb hm) fun _ _ _ h=>qS cv (qU h)
theorem aB6 (ha:QE X a ta) (hb:QE X b tb):QE X (.Compare a [.Lt] [b] pos) (q2 (eL fun i j=>.bl (decide (i < j))) ta tb):=oO pU o7 ha hb (gB _)
theorem N0 (ha:QE X a ta) (hb:QE X b tb):QE X (.Compare a [.GtE] [b] pos) (q2 (eL fun i j=>.bl (decide (j<=i))) ta tb):=oO zT o7 ha hb (gB _)
theorem rA (ha:QE X a ta) (hb:QE X b tb):QE X (.Compare a [.Eq] [b] pos) (q2 (kU false) ta tb):=oO zS J7 ha hb (gB _)
theorem N1 (ha:QE X a ta) (hb:QE X b tb):QT X (.Compare a [.Lt] [b] pos) (aU (q2 (eL fun i j=>.bl (decide (i < j))) ta tb)):=jI pU o7 ha hb (gB _)
theorem aB7 (ha:QE X a ta) (hb:QE X b tb):QT X (.Compare a [.LtE] [b] pos) (aU (q2 (eL fun i j=>.bl (decide (i<=j))) ta tb)):=jI an1 o7 ha hb (gB _)
theorem w6 (ha:QE X a ta) (hb:QE X b tb):QT X (.Compare a [.GtE] [b] pos) (aU (q2 (eL fun i j=>.bl (decide (j<=i))) ta tb)):=jI zT o7 ha hb (gB _)
theorem gL (ha:QE X a ta) (hb:QE X b tb):QT X (.Compare a [.Eq] [b] pos) (aU (q2 (kU false) ta tb)):=jI zS J7 ha hb (gB _)
theorem w9 (ha:QE X a ta) (hb:QE X b tb):QT X (.Compare a [.NotEq] [b] pos) (aU (q2 (kU true) ta tb)):=jI an0 aw7 ha hb (gB _)
theorem aB8 (hu:X.A.units+1 < cLine) (hk:QE X a tk) (hd:QE X b te) (hm:behindInMarks .In b=false:=by rfl):QT X (.Compare a [.In] [b] pos) (aU (k4 false tk te)):=mE (yR (ar9 hu hk hd) hm) fun _ _ _ h=>aA8 (qU h)
theorem aB9 (hu:X.A.units+1 < cLine) (hk:QE X a tk) (hd:QE X b te) (hm:behindInMarks .NotIn b=false:=by rfl):QT X (.Compare a [.NotIn] [b] pos) (aU (k4 true tk te)):=mE (yR (E1 hu hk hd) hm) fun _ _ _ h=>M3 (qU h)
theorem aC0 (hu:X.A.units+1 < cLine) (hk:QE X a tk) (hd:QE X b te) (hm:behindInMarks .NotIn b=false:=by rfl):QE X (.Compare a [.NotIn] [b] pos) (k4 true tk te):=cB (ak0 (E1 hu hk hd) hm) fun _ _ _ h=>M3 h
theorem fE (h:QE X e te) (he:∀ whole,isTrue e X.env whole=(do let v <- whole; standAt e.pos; holding [v] (truthy v)):=by intro _; rfl):QT X e (aU te):=mE (ak1 h he) fun _ _ _ h=>qU h
theorem oP (h:QE X e te) (he:∀ whole,isTrue e X.env whole=(do let v <- whole; standAt e.pos; holding [v] (truthy v)):=by intro _; rfl):QT X e (kY te):=mE (an6 h he) fun _ _ _ h=>az9 h
theorem aC1 (ha:QT X a tA):QW X (.BoolOp .And [a] pos) tA:=ak2 ha
theorem mG (ha:QT X a tA):QW X (.BoolOp .Or [a] pos) tA:=ak3 ha
theorem aC2 (ha:QT X a tA) (hb:QW X (.BoolOp .And (b :: cY) pos) tB'):QW X (.BoolOp .And (a :: b :: cY) pos) (kW tA tB'):=M7 (ak4 ha hb) fun _ _ _=>aw8
theorem lA (ha:QT X a tA) (hb:QW X (.BoolOp .Or (b :: cY) pos) tB'):QW X (.BoolOp .Or (a :: b :: cY) pos) (jB tA tB'):=M7 (ak5 ha hb) fun _ _ _=>aw9
theorem lB (h:QW X e tA):QT X e tA:=PW.pt h
theorem fQ (ha:QT X a tA):QT X (.UnaryOp .Not a pos) (eM tA):=mE (ak6 ha) fun _ _ _=>ax0
theorem oQ {op} (h:QE X a ta):QE X (.BoolOp op [a] pos) ta:=ak7 h
theorem lC (ha:QE X a ta) (hb:QE X (.BoolOp .And (b :: cY) pos) tb):QE X (.BoolOp .And (a :: b :: cY) pos) (jC ta tb):=cB (ak8 ha hb) fun _ _ _=>ax1
theorem aC3 (ha:QE X a ta):QE X (.UnaryOp .Not a pos) (vJ ta):=cB (ak9 ha) fun _ _ _=>ax2
theorem aA:QA X [] a9:=M8 cT fun _ _ _=>ax3
theorem a7 (ha:QE X e te) (hr:QA X es tr) (hs:starEach (e :: es) X.env=(false,eval e X.env) :: starEach es X.env:=by rfl):QA X (e :: es) (a6 te tr):=M8 (cD ha hr hs) fun _ _ _=>ax4
theorem dO {x1} (h:QA X es tr):QE X (.Tuple es x1 pos) (cX tr):=cB (zV h) fun _ _ _=>ax6
theorem oR {x1} (h:QA X es tr):QE X (.Tuple es x1 pos) (kX tr):=cB (zV h) fun _ _ _=>ax5
theorem i9 (h:QA X es tr):QE X (.List es pos) (eN tr):=cB (pV h) fun _ _ _=>ax7
theorem bO (ha:QE X a ta) (hb:QE X b tb) (hs:A8 b:=by exact fun _ _=>rfl):QE X (.Subscript a b pos) (q2 vL ta tb):=cB (j6 ap8 ha hb hs) fun _ _ _=>qS az0
theorem N2:QE X (.Dict [] [] pos) (qC (.dK [])):=cB as2 fun _ _ _=>aB0
theorem lD {x:Str}{id:String}{R:List PV->(PV->Prop)->Prop}{r:List V->Hp->VK->Prop} (hc:cN X (.builtin id) r) (cv:gI X R r) (hg:Gl X x) (hm:X.mg x=none) (hv:bootBuiltins x=some (.builtin id)) (ha:QA X (e :: es) tr) (hn:x ≠ "__name__":=by decide) (hdb:(x == ("__debug__" : Str))=false:=by decide)
  (he:starEach (e :: es) X.env=(false,eval e X.env) :: starEach es X.env:=by rfl) (hpl:(backTo pos (starEach es X.env)).any (·.1)=false:=by rfl):QE X (.Call (.Name x p2) (e :: es) [] pos) (aC R tr):=cB (nL hc hg hm hv ha hn hdb he hpl) fun _ _ _=>J8 cv
theorem N3 {x:Str}{T:String}{R:List PV->(PV->Prop)->Prop}{r:List V->Hp->VK->Prop} (hc:cN X (.type T) r) (cv:gI X R r) (hg:Gl X x) (hm:X.mg x=none) (hv:bootBuiltins x=some (.type T)) (ha:QA X (e :: es) tr) (hn:x ≠ "__name__":=by decide) (hdb:(x == ("__debug__" : Str))=false:=by decide)
  (he:starEach (e :: es) X.env=(false,eval e X.env) :: starEach es X.env:=by rfl) (hpl:(backTo pos (starEach es X.env)).any (·.1)=false:=by rfl):QE X (.Call (.Name x p2) (e :: es) [] pos) (aC R tr):=cB (uJ hc hg hm hv ha hn hdb he hpl) fun _ _ _=>J8 cv
theorem cO:eC X [] cC:=w5 al1 fun _ _ _=>ax8
theorem aM (h1:QS X st t) (h2:eC X sts u):eC X (st :: sts) (aJ t u):=w5 (kJ h1 h2) fun _ _ _=>ax9
theorem aK (h1:QS X st t):eC X [st] t:=kK h1
theorem b9 {i:Nat}{x:Str} (hN:X.N.Nodup) (he:QE X e te) (hi:X.N[i]? = some x:=by rfl) (hx:iY X.env.scope x:=by first | exact Or.inl rfl | exact Or.inr rfl) (hs:swapsWith e (some (.Name x p2)) pos.line X.env=pure false:=by rfl) (hf:X.fn x=true ∨ X.env.scope.names.lookup x=some .local:=by first | exact .inl rfl | exact .inr rfl) :
  QS X (.Assign [.Name x p2] e pos) (b6 i te):=eD (zB hN hi hx he hs hf) fun _ _ _=>K2
theorem jJ {i:Nat}{x:Str} (hN:X.N.Nodup) (he:QE X e te) (hi:X.N[i]? = some x:=by rfl) (hx:iY X.env.scope x:=by first | exact Or.inl rfl | exact Or.inr rfl) (hs:swapsWith e (some (.Name x p2)) pos.line X.env=pure false:=by rfl) (hf:X.fn x=true ∨ X.env.scope.names.lookup x=some .local:=by first | exact .inl rfl | exact .inr rfl) :
  QS X (.Assign [.Name x p2] e pos) (i7 i te):=eD (zB hN hi hx he hs hf) fun _ _ _=>ay2
theorem bG (he:QE X e te):QS X (.Return (some e) pos) (bF te):=eD (lT he) fun _ _ _=>ay3
theorem k7 (i:Nat) {x:Str} (hN:X.N[i]? = some x:=by rfl) (hv:fZ X.env.scope x:=by first | exact Or.inl rfl | exact Or.inr (Or.inl rfl) | exact Or.inr (Or.inr rfl)) (hd:(x == ("__debug__" : Str))=false:=by decide) (hcd:(x == ("__classdict__" : Str))=false:=by decide) :
  QS X (.Return (some (.Name x p2)) pos) (iM i):=eD (lT (iI hN hv hd hcd)) fun _ _ _=>ay4
theorem bV {sa sb:List Stmt} (hc:QT X c tc) (ha:eC X sa t) (hb:eC X sb u):QS X (.If c sa sb pos) (bK tc t u):=eD (al2 hc ha hb) fun _ _ _=>ay5
theorem N4 {body:List Stmt} (hp:PassesOwn (model X.prog X.w) X.A X.env X.xe) (hc:QT X c tc) (hb:eC X body t):QS X (.While c body [] pos) (qV tc t):=eD (al3 hp hc hb) fun _ _ _=>ay6
theorem wA (i:Nat) {x:Str}{apos cpos xpos:Pos} (he:QE X e te) (hN:X.N[i]? = some x:=by rfl) (hv:fZ X.env.scope x:=by first | exact Or.inl rfl | exact Or.inr (Or.inl rfl) | exact Or.inr (Or.inr rfl)) (hd:(x == ("__debug__" : Str))=false:=by decide) (hcd:(x == ("__classdict__" : Str))=false:=by decide)
  (hbase:attributeBase (.Name x xpos) "append" X.env (eval (.Name x xpos) X.env)=eval (.Name x xpos) X.env:=by rfl)
  (hfew:((backTo cpos (starEach [e] X.env)).all (fun x=>!x.1) && (backToKw cpos (keywordEach [] X.env)).all (fun x=>x.1.isSome) && decide (([e]:List Expr).length+([]:List Keyword).length+(if ([]:List Keyword).isEmpty then 0 else 1) < 30))=true:=by rfl)
  (hline:(apos.endLine == cpos.line)=true:=by rfl) (hs:starEach [e] X.env=(false,eval e X.env) :: starEach [] X.env:=by rfl) (hplain:(backTo cpos (starEach [] X.env)).any (·.1)=false:=by rfl)
  (hsw:swapsWith (.Call (.Attribute (.Name x xpos) "append" apos) [e] [] cpos) none pos.line X.env=pure false:=by rfl) :
  QS X (.Expr (.Call (.Attribute (.Name x xpos) "append" apos) [e] [] cpos) pos) (mB i te):=
 eD (kL (lY br4 bs9 bt0 lZ (iI hN hv hd hcd) (cD he cT hs) hbase hfew hline hs hplain) hsw) fun _ _ _=>ay7
theorem N5 {i:Nat}{x:Str}{xpos tpos:Pos} (hu:X.A.units+1 < cLine) (hk:QE X a tk) (he:QE X e te) (hN:X.N[i]? = some x:=by rfl) (hv:fZ X.env.scope x:=by first | exact Or.inl rfl | exact Or.inr (Or.inl rfl) | exact Or.inr (Or.inr rfl)) (hd:(x == ("__debug__" : Str))=false:=by decide) (hcd:(x == ("__classdict__" : Str))=false:=by decide)
  (hs:swapsWith e (some (.Subscript (.Name x xpos) a tpos)) pos.line X.env=pure false:=by rfl):QS X (.Assign [.Subscript (.Name x xpos) a tpos] e pos) (r6 i tk te):=eD (as0 hu (iI hN hv hd hcd) hk he hs) fun _ _ _=>aA9
theorem aC4 {tg l:Expr}{tl:TE} (hl:PE X l tl):PI X tg l (K5 X.K tl):=by
 intro pins s σ H R I h
 refine aO (hl pins s σ H _ I h) fun v s1 ⟨x,H1,I1,r1,q1⟩=>?_
 obtain ⟨a,e,q⟩:=q1
 subst e
 cases r1
 rcases q with ⟨xs,hq,q⟩ | ⟨xs,hq,q⟩
 ·obtain ⟨its,rv,p,hz⟩:=I1.list hq
  refine wpAny_pyIter_list p.isList ?_
  refine⟨s1.heap.objs.size,[s1.heap.objs.size],_,_,H1,rfl,I1.kept (t':=s1.toks) fun b o e=>bg6 _ e,al4 a _,⟨_,bi0 _ rfl,rfl,rfl⟩,fun b hb=>?_,q⟩
  have e:b=s1.heap.objs.size:=by simpa using hb
  subst e
  exact I1.fpOk (bh0 _) (I1.hok.fresh (bh0 _))
 ·obtain ⟨its,rv,p,hz⟩:=I1.tuple hq
  refine bs6 (show s1.heap.IsTuple a its.toArray from p) ?_
  refine⟨s1.heap.objs.size,[s1.heap.objs.size],_,_,H1,rfl,I1.kept (t':=s1.toks) fun b o e=>bg6 _ e,zE a _,⟨_,bi0 _ rfl,rfl,rfl⟩,fun b hb=>?_,q⟩
  have e:b=s1.heap.objs.size:=by simpa using hb
  subst e
  exact I1.fpOk (bh0 _) (I1.hok.fresh (bh0 _))
theorem eF {tg l:Expr} (hl:QE X l te):QI X tg l (dM te):=oJ (aC4 hl) fun _ _ _=>aA0
theorem lE {tg:Expr} (hg:Gl X "range") (hm:X.mg "range" = none) (ha:QE X a ta) (hs:starEach [a] X.env = [(false,eval a X.env)]:=by rfl):QI X tg (.Call (.Name "range" p2) [a] [] pos) (jD ta):=oJ (al7 hg hm (cD ha cT hs) hs) fun _ _ _=>aA1
theorem aC5 {tg:Expr} (hg:Gl X "range") (hm:X.mg "range" = none) (ha:QE X a ta) (hb:QE X b tb) (hs:starEach [a,b] X.env = [(false,eval a X.env),(false,eval b X.env)]:=by rfl) (hs2:starEach [b] X.env = [(false,eval b X.env)]:=by rfl) :
  QI X tg (.Call (.Name "range" p2) [a,b] [] pos) (vP ta tb):=oJ (al8 hg hm (cD ha (cD hb cT hs2) (by rw [hs,hs2])) hs hs2) fun _ _ _=>aA2
theorem N6 {tg:Expr}{body:List Stmt}{ti:eO}{p:jZ}{g:TG}{own:Nat->Prop} (hp:PassesOwn (model X.prog X.w) X.A X.env X.xe) (hc:X.calm=true) (hi:QI X tg e ti) (hg:PG X tg g) (ht:oD X.K own p g) (hb:eC X body t)
  (hs:∀ x,foldedSetIterable e X.env x=pure x:=by intro _; rfl):QS X (.For tg e body [] pos) (dW ti p t):=eD (tZ hp hc hi hg hb hs) fun _ _ _=>aA4 ht
end
section
variable {X : Cx} {pins : List (Addr × Obj)} {σ : St} {H : Hp} {s : Shared} {K : PySem.W.Frag} {M M' : Addr → Prop}
theorem m8.inj {a:Addr}{us ws:List V} (h:m8 K a us) (h':m8 K a ws):us=ws:=by
 obtain ⟨o,its,n,e1,_,e2,_,v⟩:=h
 obtain ⟨o',its',n',e1',_,e2',_,v'⟩:=h'
 rw [e1] at e1'; cases e1'
 rw [e2] at e2'; cases e2'
 exact v.inj v'
theorem Reps.self_of {n:Nat} (ih:∀ {v:V}{x y:PV},aG K M H v x->aG K M' H v y->dA n x y=true->bQ n x y=true):∀ {vs:List V}{xs ys:List PV},Reps K M H vs xs->Reps K M' H vs ys->((xs.zip ys).all fun p=>dA n p.1 p.2)=true->(((xs.zip ys).all fun p=>bQ n p.1 p.2) && xs.length == ys.length)=true
 | _,_,_,.nil,.nil,_=>rfl
 | _,_,_,.cons r t,.cons r' t',o=>by
  simp only [bv5,br7,bl7] at o
  have h1:=ih r r' o.1
  have h2:=Reps.self_of ih t t' o.2
  simp only [bv5,br7,h1,Bool.true_and,bk2] at h2 ⊢
  rw [<- h2]
  congr 1
  simp
theorem aG.self:∀ (n:Nat) {v:V}{x y:PV},aG K M H v x->aG K M' H v y->dA n x y=true->bQ n x y=true:=by
 intro n
 induction n with
 | zero=>
  intro v x y r r' o
  cases r with
  | non=>cases r'; rfl
  | bl b=>cases r'; exact bo8 b
  | int i=>cases r'; exact bo8 i
  | str z=>cases r'; exact bo8 z
  | _=>cases o
 | succ n ih=>
  intro v x y r r' o
  cases r with
  | non=>cases r'; rfl
  | bl b=>cases r'; exact bo8 b
  | int i=>cases r'; exact bo8 i
  | str z=>cases r'; exact bo8 z
  | tup h rr=>
   cases r' with
   | tup h' rr'=>rw [h] at h'; cases h'; exact Reps.self_of ih rr rr' o
   | _=>cases o
  | lst _ h rr=>
   cases r' with
   | lst _ h' rr'=>rw [h] at h'; cases h'; exact Reps.self_of ih rr rr' o
   | _=>cases o
  | kt h rr=>
   cases r' with
   | kt h' rr'=>cases m8.inj h h'; exact Reps.self_of ih rr rr' o
   | _=>cases o
  | _=>cases o
theorem Reps.self (n:Nat) {vs:List V}{xs ys:List PV} (r:Reps K M H vs xs) (r':Reps K M' H vs ys) (o:((xs.zip ys).all fun p=>dA n p.1 p.2)=true):(((xs.zip ys).all fun p=>bQ n p.1 p.2) && xs.length == ys.length)=true:=Reps.self_of (aG.self n) r r' o
theorem jK (n:Nat) (xs ys:List PV):(List.range (min xs.length ys.length)).all (fun j=>bQ n (xs.getD j .non) (ys.getD j .non))=(xs.zip ys).all fun p=>bQ n p.1 p.2:=by
 rw [bl1]
 simp only [bo9,List.mem_range]
 constructor
 ·intro h p hp
  obtain ⟨j,hj,e⟩:=bq6 hp
  have hj':j < min xs.length ys.length:=by simpa using hj
  have:=h j hj'
  rw [List.getElem_zip] at e
  subst e
  have h1:j < xs.length:=by omega
  have h2:j < ys.length:=by omega
  simpa [bi7,h1,h2] using this
 ·intro h j hj
  have h1:j < xs.length:=by omega
  have h2:j < ys.length:=by omega
  have hz:j < (xs.zip ys).length:=by simp; omega
  have:=h _ (br5 hz)
  rw [List.getElem_zip] at this
  simpa [bi7,h1,h2] using this
theorem N7 (I:a8 X pins σ H s):∀ (n:Nat) {A:Around}{v w:V}{x y:PV}{a b:Value},A.units+n < cLine->aG X.K M H v x->aG X.K M' H w y->aV v a->aV w b->dA n x y=true->SeqAt.EqAt A s a b (bQ n x y):=by
 intro n
 induction n with
 | zero=>
  intro A v w x y a b hu rx ry ra rb o
  cases rx with
  | non=>
   cases ra
   cases ry with
   | non=>cases rb; exact SeqAt.EqAt.same _
   | int i=>obtain ⟨t',rfl⟩:=rb; exact SeqAt.EqAt.none_int _ _
   | _=>cases o
  | bl i=>
   cases ra
   cases ry with
   | bl j=>cases rb; exact SeqAt.EqAt.bool_bool _ _
   | _=>cases o
  | int i=>
   obtain ⟨t,rfl⟩:=ra
   cases ry with
   | int j=>obtain ⟨t',rfl⟩:=rb; exact SeqAt.EqAt.int_int _ _ _ _
   | non=>cases rb; exact SeqAt.EqAt.int_none _ _
   | _=>cases o
  | str i=>
   obtain ⟨t,rfl⟩:=ra
   cases ry with
   | str j=>obtain ⟨t',rfl⟩:=rb; exact SeqAt.EqAt.str_str _ _ _ _
   | _=>cases o
  | _=>cases o
 | succ n ih=>
  intro A v w x y a b hu rx ry ra rb o
  have items:∀ {us ws:List V}{xs ys:List PV}{its its2:List Value},Reps X.K M H us xs->Reps X.K M' H ws ys->aN us its->aN ws its2->((xs.zip ys).all fun p=>dA n p.1 p.2)=true->
    ∀ j (h1:j < its.toArray.size) (h2:j < its2.toArray.size),SeqAt.EqAt A.in1 s its.toArray[j] its2.toArray[j] (bQ n (xs.getD j .non) (ys.getD j .non)):=fun {us ws xs ys its its2} r1 r2 v1 v2 ok j h1 h2=>by
   have l1:=v1.length
   have l2:=v2.length
   have m1:=r1.length
   have m2:=r2.length
   have k1:j < its.length:=by simpa using h1
   have k2:j < its2.length:=by simpa using h2
   have j1:j < us.length:=by omega
   have j2:j < ws.length:=by omega
   have i1:j < xs.length:=by omega
   have i2:j < ys.length:=by omega
   obtain ⟨u,hu',ru⟩:=v1.get (bg8 j1)
   obtain ⟨u2,hu2',ru2⟩:=v2.get (bg8 j2)
   obtain ⟨x,hx,rx⟩:=r1.get (bg8 j1)
   obtain ⟨y,hy,ry⟩:=r2.get (bg8 j2)
   have e1:its.toArray[j]=u:=by
    rw [bg8 k1] at hu'
    simpa using hu'
   have e2:its2.toArray[j]=u2:=by
    rw [bg8 k2] at hu2'
    simpa using hu2'
   have ok':dA n x y=true:=by
    rw [bo9] at ok
    have hz:j < (xs.zip ys).length:=by simp; omega
    have:=ok _ (br5 hz)
    rw [List.getElem_zip] at this
    rw [bg8 i1] at hx
    rw [bg8 i2] at hy
    cases hx; cases hy
    exact this
   rw [e1,e2]
   have g1:xs.getD j .non=x:=by rw [bi7,hx]; rfl
   have g2:ys.getD j .non=y:=by rw [bi7,hy]; rfl
   rw [g1,g2]
   exact ih (by show A.units+1+n < cLine; omega) rx ry ru ru2 ok'
  have huA:A.units < cLine:=by omega
  cases rx with
  | @kt p us xs h1 r1=>
   obtain ⟨its,v1,p1,_⟩:=I.tuple (.inr h1)
   cases (show a=Value.ref p from ra)
   cases ry with
   | @kt p2 ws ys h2 r2=>
    obtain ⟨its2,v2,p2',_⟩:=I.tuple (.inr h2)
    cases (show b=Value.ref p2 from rb)
    by_cases e:p=p2
    ·subst e
     have:=aG.self (K:=X.K) (M:=M) (M':=M') (n+1) (.kt h1 r1) (.kt h2 r2) o
     rw [this]
     exact SeqAt.EqAt.same _
    ·have:=SeqAt.RcAt.tuples p1 p2' huA (items r1 r2 v1 v2 o)
     refine .of_refs e ?_
     have l1:=v1.length
     have l2:=v2.length
     have m1:=r1.length
     have m2:=r2.length
     rw [bg7,bg7,<- l1,<- l2,m1,m2,jK] at this
     exact this
   | _=>cases o
  | @tup p us xs h1 r1=>
   obtain ⟨its,v1,p1,_⟩:=I.tuple (aF.of (K:=X.K) h1)
   cases (show a=Value.ref p from ra)
   cases ry with
   | @tup p2 ws ys h2 r2=>
    obtain ⟨its2,v2,p2',_⟩:=I.tuple (aF.of (K:=X.K) h2)
    cases (show b=Value.ref p2 from rb)
    by_cases e:p=p2
    ·subst e
     have:=aG.self (K:=X.K) (M:=M) (M':=M') (n+1) (.tup h1 r1) (.tup h2 r2) o
     rw [this]
     exact SeqAt.EqAt.same _
    ·have:=SeqAt.RcAt.tuples p1 p2' huA (items r1 r2 v1 v2 o)
     refine .of_refs e ?_
     have l1:=v1.length
     have l2:=v2.length
     have m1:=r1.length
     have m2:=r2.length
     rw [bg7,bg7,<- l1,<- l2,m1,m2,jK] at this
     exact this
   | non=>cases rb; exact SeqAt.EqAt.tuple_none p1 huA
   | _=>cases o
  | @lst p us xs _ h1 r1=>
   obtain ⟨its,v1,p1,_⟩:=I.list (aH.of (K:=X.K) h1)
   cases (show a=Value.ref p from ra)
   cases ry with
   | @lst p2 ws ys _ h2 r2=>
    obtain ⟨its2,v2,p2',_⟩:=I.list (aH.of (K:=X.K) h2)
    cases (show b=Value.ref p2 from rb)
    have l1:=v1.length
    have l2:=v2.length
    have m1:=r1.length
    have m2:=r2.length
    by_cases e:p=p2
    ·subst e
     rw [h1] at h2; cases h2
     have:=Reps.self n r1 r2 o
     show SeqAt.EqAt A s _ _ ((xs.zip ys).all (fun p=>bQ n p.1 p.2) && xs.length == ys.length)
     rw [this]
     exact SeqAt.EqAt.same _
    ·refine .of_refs e ?_
     by_cases hl:xs.length=ys.length
     ·have:=SeqAt.RcAt.lists p1.isList p2'.isList (by rw [bg7,bg7]; omega) huA (items r1 r2 v1 v2 o)
      have hm:min xs.length ys.length=its.length:=by omega
      rw [bg7,<- hm,jK] at this
      show SeqAt.RcAt A s _ _ ((xs.zip ys).all (fun p=>bQ n p.1 p.2) && xs.length == ys.length)
      rw [show (xs.length == ys.length)=true by simpa using hl,Bool.and_true]
      exact this
     ·have:=SeqAt.RcAt.lists_lengths (A:=A) p1.isList p2'.isList (by rw [bg7,bg7]; simp; omega) huA
      show SeqAt.RcAt A s _ _ ((xs.zip ys).all (fun p=>bQ n p.1 p.2) && xs.length == ys.length)
      rw [show (xs.length == ys.length)=false by simpa using hl,Bool.and_false]
      exact this
   | _=>cases o
  | non=>
   cases ra
   cases ry with
   | non=>cases rb; exact SeqAt.EqAt.same _
   | int i=>obtain ⟨t',rfl⟩:=rb; exact SeqAt.EqAt.none_int _ _
   | @tup p2 ws ys h2 r2=>
    obtain ⟨its2,v2,p2',_⟩:=I.tuple (aF.of (K:=X.K) h2)
    cases (show b=Value.ref p2 from rb)
    exact SeqAt.EqAt.none_tuple p2' huA
   | _=>cases o
  | bl i=>
   cases ra
   cases ry with
   | bl j=>cases rb; exact SeqAt.EqAt.bool_bool _ _
   | _=>cases o
  | int i=>
   obtain ⟨t,rfl⟩:=ra
   cases ry with
   | int j=>obtain ⟨t',rfl⟩:=rb; exact SeqAt.EqAt.int_int _ _ _ _
   | non=>cases rb; exact SeqAt.EqAt.int_none _ _
   | _=>cases o
  | str i=>
   obtain ⟨t,rfl⟩:=ra
   cases ry with
   | str j=>obtain ⟨t',rfl⟩:=rb; exact SeqAt.EqAt.str_str _ _ _ _
   | _=>cases o
  | _=>cases o
end
structure Bt (mg:Str->Option Value):Prop where
 len:mg "len" = none
 range:mg "range" = none
 tuple:mg "tuple" = none
 list:mg "list" = none
 sorted:mg "sorted" = none
 all:mg "all" = none
 any:mg "any" = none
 zip:mg "zip" = none
 min:mg "min" = none
 max:mg "max" = none
 sum:mg "sum" = none
 isinst:mg "isinstance" = none
 int:mg "int" = none
 bool:mg "bool" = none
 enum:mg "enumerate" = none
section
variable {X : Cx} {a b c e o : Expr} {es cY : List Expr} {ta tb te to tk : aD} {tr : cE} {tA tB' tc : cJ} {pos p2 px : Pos} {st : Stmt} {sts : List Stmt} {t u : aL}
theorem cP (B:Bt X.mg) (ha:QA X [e] tr) (hg:Gl X "len":=by rfl) (he:starEach [e] X.env=(false,eval e X.env) :: starEach [] X.env:=by rfl) (hpl:(backTo pos (starEach [] X.env)).any (·.1)=false:=by rfl):QE X (.Call (.Name "len" p2) [e] [] pos) (aC bT tr):=
 lD (aq5.or at0) az1 hg B.len PySem.boot_len ha (he:=he) (hpl:=hpl)
theorem iA (B:Bt X.mg) (ha:QA X [e] tr) (hg:Gl X "tuple":=by rfl) (he:starEach [e] X.env=(false,eval e X.env) :: starEach [] X.env:=by rfl) (hpl:(backTo pos (starEach [] X.env)).any (·.1)=false:=by rfl):QE X (.Call (.Name "tuple" p2) [e] [] pos) (aC gK tr):=
 N3 aq7 az2 hg B.tuple PyProof.Rows.boot_tuple ha (he:=he) (hpl:=hpl)
theorem wB (B:Bt X.mg) (ha:QA X [e] tr) (hg:Gl X "list":=by rfl) (he:starEach [e] X.env=(false,eval e X.env) :: starEach [] X.env:=by rfl) (hpl:(backTo pos (starEach [] X.env)).any (·.1)=false:=by rfl):QE X (.Call (.Name "list" p2) [e] [] pos) (aC oA tr):=
 N3 aq6 az3 hg B.list PyProof.Rows.boot_list ha (he:=he) (hpl:=hpl)
theorem aC6 (B:Bt X.mg) (hc:X.calm=true) (ha:QA X [e] tr) (hg:Gl X "all":=by rfl) (he:starEach [e] X.env=(false,eval e X.env) :: starEach [] X.env:=by rfl) (hpl:(backTo pos (starEach [] X.env)).any (·.1)=false:=by rfl):QE X (.Call (.Name "all" p2) [e] [] pos) (aC vM tr):=
 lD (vE hc) az4 hg B.all PyProof.Rows.boot_all ha (he:=he) (hpl:=hpl)
theorem N8 (B:Bt X.mg) (hc:X.calm=true) (ha:QA X [a,b] tr) (hg:Gl X "min":=by rfl) (he:starEach [a,b] X.env=(false,eval a X.env) :: starEach [b] X.env:=by rfl) (hpl:(backTo pos (starEach [b] X.env)).any (·.1)=false:=by rfl):QE X (.Call (.Name "min" p2) [a,b] [] pos) (aC qX tr):=
 lD (an8 hc) az5 hg B.min PyProof.Rows.boot_min ha (he:=he) (hpl:=hpl)
theorem aC7 (B:Bt X.mg) (hc:X.calm=true) (ha:QA X [a,b] tr) (hg:Gl X "max":=by rfl) (he:starEach [a,b] X.env=(false,eval a X.env) :: starEach [b] X.env:=by rfl) (hpl:(backTo pos (starEach [b] X.env)).any (·.1)=false:=by rfl):QE X (.Call (.Name "max" p2) [a,b] [] pos) (aC vN tr):=
 lD (an7 hc) az6 hg B.max PyProof.Rows.boot_max ha (he:=he) (hpl:=hpl)
theorem rB (ha:QE X a ta):QE X (.UnaryOp .USub a pos) (l0 ta):=cB (am2 am9 ha) fun σ H Q' h=>by
 obtain ⟨W,ρ,Q,px,q,k⟩:=h
 refine⟨W,ρ,_,px,q,?_⟩
 rintro v H1 x g s r ⟨i,rfl,q⟩
 cases r
 exact⟨i,rfl,k _ _ _ .fr s (.int _) q⟩
theorem N9 (x:Int):∀ (xs:List Int),nS (.int x) (xs.map V.int)=decide (x ∈ xs)
 | []=>by simp [nS]
 | y :: r=>by
  have ih:=N9 x r
  unfold nS at ih ⊢
  rw [bn6,List.any_cons,ih]
  by_cases e:y=x
  ·subst e; simp [hG]
  ·have:hG (.int y) (.int x)=false:=by simpa [hG] using e
   rw [this,Bool.false_or,bl1]
   simp [Ne.symm e]
theorem O0:∀ (xs:List Int),(xs.map V.int).all j7=true
 | []=>rfl
 | _ :: r=>by rw [bn6,br7,O0 r]; rfl
theorem wC (neg:Bool):eB X (k6 neg) (uP X.K neg):=by
 rintro W Hs H u v x y g g' Q Q' s n r1 r2 ⟨i,ns,rfl,e,q⟩ k
 cases r1
 obtain ⟨a,us,rfl,hs,r⟩:=r2.seq e
 obtain rfl:=r.ofInts
 refine⟨a,_,rfl,hs,rfl,O0 ns,?_⟩
 have:=k _ _ _ .fr (aB.refl _) (.bl _) q
 rw [N9]
 cases neg <;> exact this
theorem O1 (ha:QE X a ta) (hb:QE X b tb) (hm:behindInMarks .In b=false:=by rfl):QE X (.Compare a [.In] [b] pos) (q2 (k6 false) ta tb):=oO B6 (wC false) ha hb hm
theorem aC8 (ha:QE X a ta) (hb:QE X b tb) (hm:behindInMarks .In b=false:=by rfl):QT X (.Compare a [.In] [b] pos) (aU (q2 (k6 false) ta tb)):=jI B6 (wC false) ha hb hm
theorem aC9 (ha:QE X a ta) (hb:QE X b tb) (hm:behindInMarks .NotIn b=false:=by rfl):QT X (.Compare a [.NotIn] [b] pos) (aU (q2 (k6 true) ta tb)):=jI aq4 (wC true) ha hb hm
theorem aG.kt_ {K:PySem.W.Frag}{M:Addr->Prop}{H:Hp}{v:V}{xs:List PV} (r:aG K M H v (.kt xs)):∃ a us,v = .ref a/\m8 K a us/\Reps K M H us xs:=by
 cases r with
 | kt h r=>exact⟨_,_,rfl,h,r⟩
def O2 (K:PySem.W.Frag) (H:Hp) (x:V) (t:Value):Prop:=eY K H x t ∨ ∃ a us,x = .ref a/\aF K H a us/\t = .type "tuple"
theorem aD0:cN X (.builtin "isinstance") (fun xs H Q=>∃ x t n b,xs = [x,.ty n]/\O2 X.K H x t/\PySem.W.kitOne X.K t (.type n)=some b/\Q (.bl b) H):=by
 intro pins s σ H xs us Q I r h
 obtain ⟨x,t,n,b,rfl,ty,e,q⟩:=h
 rcases ty with ty | ⟨a,ws,rfl,hs,rfl⟩
 ·exact au9 pins s σ H _ us Q I r ⟨x,t,n,b,rfl,ty,e,q⟩
 obtain ⟨u,u',rfl,ru,ru'⟩:=nJ r
 cases ru'
 cases (show u=Value.ref a from ru)
 obtain ⟨its,_,⟨o,h1,h2,_⟩,_⟩:=I.tuple hs
 exact bn8 PySem.W.kitx_tuple I.kIn ⟨o,h1,h2⟩ e (fun z=>nomatch z) fun tk=>⟨.bl b,H,I.tok tk,rfl,q⟩
theorem aD1 {K:PySem.W.Frag}{M:Addr->Prop}{H:Hp}{v:V}{x:PV}{T:String} (r:aG K M H v x) (e:M5 x=some T):O2 K H v (.type T):=by
 cases r with
 | non=>cases e; exact .inl .non
 | bl b=>cases e; exact .inl (.bl b)
 | int i=>cases e; exact .inl (.int i)
 | str i=>cases e; exact .inl (.str i)
 | tup h _=>cases e; exact .inl (.tup h)
 | lst _ h _=>cases e; exact .inl (.lst h)
 | kt h _=>cases e; exact .inr ⟨_,_,rfl,.inr h,rfl⟩
 | _=>cases e
theorem wD {x:Str}{n:String} (B:Bt X.mg) (hn:bootBuiltins x=some (.type n)) (hm:X.mg x=none) (ha:QE X a ta) (hg:Gl X "isinstance":=by rfl) (hgx:Gl X x:=by rfl) (hx:x ≠ "__name__":=by decide) (hdx:(x == ("__debug__" : Str))=false:=by decide)
  (he:starEach [a,.Name x px] X.env=(false,eval a X.env) :: starEach [.Name x px] X.env:=by rfl) (he2:starEach [.Name x px] X.env=(false,eval (.Name x px) X.env) :: starEach [] X.env:=by rfl) (hpl:(backTo pos (starEach [.Name x px] X.env)).any (·.1)=false:=by rfl):QE X (.Call (.Name "isinstance" p2) [a,.Name x px] [] pos) (l8 X.K n ta):=
 cB (nL aD0 hg B.isinst PyProof.Rows.boot_isinstance (cD ha (cD (yQ (v:=.ty n) hgx hm hn rfl hx hdx) cT he2) he) (he:=he) (hpl:=hpl)) fun σ H Q' h=>by
  obtain ⟨W,ρ,Q,px,q,k⟩:=h
  refine⟨W,ρ,_,px,q,?_⟩
  rintro v H1 x g s r ⟨T,b,e,kt,q⟩
  exact⟨v,_,n,b,rfl,aD1 r e,kt,k _ _ _ .fr s (.bl _) q⟩
theorem aD2 (B:Bt X.mg) (ha:QE X a ta) (hg:Gl X "isinstance":=by rfl) (hgx:Gl X "int":=by rfl)
  (he:starEach [a,.Name "int" px] X.env=(false,eval a X.env) :: starEach [.Name "int" px] X.env:=by rfl) (he2:starEach [.Name "int" px] X.env=(false,eval (.Name "int" px) X.env) :: starEach [] X.env:=by rfl) (hpl:(backTo pos (starEach [.Name "int" px] X.env)).any (·.1)=false:=by rfl):QE X (.Call (.Name "isinstance" p2) [a,.Name "int" px] [] pos) (l8 X.K "int" ta):=wD B PyProof.Rows.boot_int B.int ha (hg:=hg) (hgx:=hgx) (he:=he) (he2:=he2) (hpl:=hpl)
theorem aD3 (B:Bt X.mg) (ha:QE X a ta) (hg:Gl X "isinstance":=by rfl) (hgx:Gl X "bool":=by rfl)
  (he:starEach [a,.Name "bool" px] X.env=(false,eval a X.env) :: starEach [.Name "bool" px] X.env:=by rfl) (he2:starEach [.Name "bool" px] X.env=(false,eval (.Name "bool" px) X.env) :: starEach [] X.env:=by rfl) (hpl:(backTo pos (starEach [.Name "bool" px] X.env)).any (·.1)=false:=by rfl):QE X (.Call (.Name "isinstance" p2) [a,.Name "bool" px] [] pos) (l8 X.K "bool" ta):=wD B PyProof.Rows.boot_bool B.bool ha (hg:=hg) (hgx:=hgx) (he:=he) (he2:=he2) (hpl:=hpl)
theorem aD4 (B:Bt X.mg) (ha:QE X a ta) (hg:Gl X "isinstance":=by rfl) (hgx:Gl X "tuple":=by rfl)
  (he:starEach [a,.Name "tuple" px] X.env=(false,eval a X.env) :: starEach [.Name "tuple" px] X.env:=by rfl) (he2:starEach [.Name "tuple" px] X.env=(false,eval (.Name "tuple" px) X.env) :: starEach [] X.env:=by rfl) (hpl:(backTo pos (starEach [.Name "tuple" px] X.env)).any (·.1)=false:=by rfl):QE X (.Call (.Name "isinstance" p2) [a,.Name "tuple" px] [] pos) (l8 X.K "tuple" ta):=wD B PyProof.Rows.boot_tuple B.tuple ha (hg:=hg) (hgx:=hgx) (he:=he) (he2:=he2) (hpl:=hpl)
def wE (K:PySem.W.Frag) (n:Nat) (neg:Bool):R2:=fun v w H Q=>∃ x y,aG K (fun _=>True) H v x/\aG K (fun _=>True) H w y/\((∃ xs ys,x = .tup xs/\y = .tup ys) ∨ (∃ xs ys,x = .lst xs/\y = .lst ys) ∨ (∃ xs ys,x = .kt xs/\y = .kt ys))/\dA (n+1) x y=true/\Q (.bl (if neg=true then !bQ (n+1) x y else bQ (n+1) x y)) H
theorem mH {pins:List (Addr × Obj)}{σ:St}{H:Hp}{s:Shared}{M M':Addr->Prop} (I:a8 X pins σ H s) {n:Nat}{A:Around} (hu:A.units+(n+1) < cLine) {us ws:List V}{xs ys:List PV}{its its2:List Value} (r1:Reps X.K M H us xs) (r2:Reps X.K M' H ws ys) (v1:aN us its) (v2:aN ws its2)
  (ok:((xs.zip ys).all fun p=>dA n p.1 p.2)=true):∀ j (h1:j < its.toArray.size) (h2:j < its2.toArray.size),SeqAt.EqAt A.in1 s its.toArray[j] its2.toArray[j] (bQ n (xs.getD j .non) (ys.getD j .non)):=by
 intro j h1 h2
 have l1:=v1.length
 have l2:=v2.length
 have m1:=r1.length
 have m2:=r2.length
 have k1:j < its.length:=by simpa using h1
 have k2:j < its2.length:=by simpa using h2
 have j1:j < us.length:=by omega
 have j2:j < ws.length:=by omega
 have i1:j < xs.length:=by omega
 have i2:j < ys.length:=by omega
 obtain ⟨u,hu',ru⟩:=v1.get (bg8 j1)
 obtain ⟨u2,hu2',ru2⟩:=v2.get (bg8 j2)
 obtain ⟨x,hx,rx⟩:=r1.get (bg8 j1)
 obtain ⟨y,hy,ry⟩:=r2.get (bg8 j2)
 have e1:its.toArray[j]=u:=by
  rw [bg8 k1] at hu'
  simpa using hu'
 have e2:its2.toArray[j]=u2:=by
  rw [bg8 k2] at hu2'
  simpa using hu2'
 have ok':dA n x y=true:=by
  rw [bo9] at ok
  have hz:j < (xs.zip ys).length:=by simp; omega
  have:=ok _ (br5 hz)
  rw [List.getElem_zip] at this
  rw [bg8 i1] at hx
  rw [bg8 i2] at hy
  cases hx; cases hy
  exact this
 rw [e1,e2]
 have g1:xs.getD j .non=x:=by rw [bi7,hx]; rfl
 have g2:ys.getD j .non=y:=by rw [bi7,hy]; rfl
 rw [g1,g2]
 exact N7 I n (by show A.units+1+n < cLine; omega) rx ry ru ru2 ok'
theorem aD5 (n:Nat) (hu:X.A.units+(n+1) < cLine):c9 X (compareOp .Eq) (wE X.K n false):=by
 intro pins s σ H v w a b Q I ra rb h
 obtain ⟨x,y,rx,ry,kd,o,q⟩:=h
 have hu0:X.A.units < cLine:=by omega
 rcases kd with ⟨xs,ys,rfl,rfl⟩ | ⟨xs,ys,rfl,rfl⟩ | ⟨xs,ys,rfl,rfl⟩
 ·obtain ⟨p,us,rfl,h1,r1⟩:=rx.sqT
  obtain ⟨p2,ws,rfl,h2,r2⟩:=ry.sqT
  cases ra; cases rb
  obtain ⟨its,v1,p1,_⟩:=I.tuple (aF.of (K:=X.K) h1)
  obtain ⟨its2,v2,p2',_⟩:=I.tuple (aF.of (K:=X.K) h2)
  have l1:=v1.length
  have l2:=v2.length
  have m1:=r1.length
  have m2:=r2.length
  have:=SeqAt.RcAt.tuples p1 p2' hu0 (mH I hu r1 r2 v1 v2 o)
  rw [bg7,bg7,<- l1,<- l2,m1,m2,jK] at this
  exact this _ _ _ _ ⟨.bl _,H,I,rfl,q⟩
 ·obtain ⟨p,us,rfl,_,h1,r1⟩:=rx.sqL
  obtain ⟨p2,ws,rfl,_,h2,r2⟩:=ry.sqL
  cases ra; cases rb
  obtain ⟨its,v1,p1,_⟩:=I.list (aH.of (K:=X.K) h1)
  obtain ⟨its2,v2,p2',_⟩:=I.list (aH.of (K:=X.K) h2)
  have l1:=v1.length
  have l2:=v2.length
  have m1:=r1.length
  have m2:=r2.length
  have q:Q (.bl ((xs.zip ys).all (fun p=>bQ n p.1 p.2) && xs.length == ys.length)) H:=q
  by_cases hl:xs.length=ys.length
  ·have:=SeqAt.RcAt.lists p1.isList p2'.isList (by rw [bg7,bg7]; omega) hu0 (mH I hu r1 r2 v1 v2 o)
   have hm:min xs.length ys.length=its.length:=by omega
   rw [bg7,<- hm,jK] at this
   rw [show (xs.length == ys.length)=true by simpa using hl,Bool.and_true] at q
   exact this _ _ _ _ ⟨.bl _,H,I,rfl,q⟩
  ·have:=SeqAt.RcAt.lists_lengths (A:=X.A) p1.isList p2'.isList (by rw [bg7,bg7]; simp; omega) hu0
   rw [show (xs.length == ys.length)=false by simpa using hl,Bool.and_false] at q
   exact this _ _ _ _ ⟨.bl _,H,I,rfl,q⟩
 ·obtain ⟨p,us,rfl,h1,r1⟩:=rx.kt_
  obtain ⟨p2,ws,rfl,h2,r2⟩:=ry.kt_
  cases ra; cases rb
  obtain ⟨its,v1,p1,_⟩:=I.tuple (.inr h1)
  obtain ⟨its2,v2,p2',_⟩:=I.tuple (.inr h2)
  have l1:=v1.length
  have l2:=v2.length
  have m1:=r1.length
  have m2:=r2.length
  have:=SeqAt.RcAt.tuples p1 p2' hu0 (mH I hu r1 r2 v1 v2 o)
  rw [bg7,bg7,<- l1,<- l2,m1,m2,jK] at this
  exact this _ _ _ _ ⟨.bl _,H,I,rfl,q⟩
theorem aD6 (n:Nat) (hu:X.A.units+(n+1) < cLine):c9 X (compareOp .NotEq) (wE X.K n true):=by
 intro pins s σ H v w a b Q I ra rb h
 obtain ⟨x,y,rx,ry,kd,o,q⟩:=h
 have hu0:X.A.units < cLine:=by omega
 rcases kd with ⟨xs,ys,rfl,rfl⟩ | ⟨xs,ys,rfl,rfl⟩ | ⟨xs,ys,rfl,rfl⟩
 ·obtain ⟨p,us,rfl,h1,r1⟩:=rx.sqT
  obtain ⟨p2,ws,rfl,h2,r2⟩:=ry.sqT
  cases ra; cases rb
  obtain ⟨its,v1,p1,_⟩:=I.tuple (aF.of (K:=X.K) h1)
  obtain ⟨its2,v2,p2',_⟩:=I.tuple (aF.of (K:=X.K) h2)
  have l1:=v1.length
  have l2:=v2.length
  have m1:=r1.length
  have m2:=r2.length
  have:=SeqAt.RcNeAt.tuples p1 p2' hu0 (mH I hu r1 r2 v1 v2 o)
  rw [bg7,bg7,<- l1,<- l2,m1,m2,jK] at this
  exact this _ _ _ _ ⟨.bl _,H,I,rfl,q⟩
 ·obtain ⟨p,us,rfl,_,h1,r1⟩:=rx.sqL
  obtain ⟨p2,ws,rfl,_,h2,r2⟩:=ry.sqL
  cases ra; cases rb
  obtain ⟨its,v1,p1,_⟩:=I.list (aH.of (K:=X.K) h1)
  obtain ⟨its2,v2,p2',_⟩:=I.list (aH.of (K:=X.K) h2)
  have l1:=v1.length
  have l2:=v2.length
  have m1:=r1.length
  have m2:=r2.length
  have q:Q (.bl (!((xs.zip ys).all (fun p=>bQ n p.1 p.2) && xs.length == ys.length))) H:=q
  by_cases hl:xs.length=ys.length
  ·have:=SeqAt.RcNeAt.lists p1.isList p2'.isList (by rw [bg7,bg7]; omega) hu0 (mH I hu r1 r2 v1 v2 o)
   have hm:min xs.length ys.length=its.length:=by omega
   rw [bg7,<- hm,jK] at this
   rw [show (xs.length == ys.length)=true by simpa using hl,Bool.and_true] at q
   exact this _ _ _ _ ⟨.bl _,H,I,rfl,q⟩
  ·have:=SeqAt.RcNeAt.lists_lengths (A:=X.A) p1.isList p2'.isList (by rw [bg7,bg7]; simp; omega) hu0
   rw [show (xs.length == ys.length)=false by simpa using hl,Bool.and_false] at q
   exact this _ _ _ _ ⟨.bl _,H,I,rfl,q⟩
 ·obtain ⟨p,us,rfl,h1,r1⟩:=rx.kt_
  obtain ⟨p2,ws,rfl,h2,r2⟩:=ry.kt_
  cases ra; cases rb
  obtain ⟨its,v1,p1,_⟩:=I.tuple (.inr h1)
  obtain ⟨its2,v2,p2',_⟩:=I.tuple (.inr h2)
  have l1:=v1.length
  have l2:=v2.length
  have m1:=r1.length
  have m2:=r2.length
  have:=SeqAt.RcNeAt.tuples p1 p2' hu0 (mH I hu r1 r2 v1 v2 o)
  rw [bg7,bg7,<- l1,<- l2,m1,m2,jK] at this
  exact this _ _ _ _ ⟨.bl _,H,I,rfl,q⟩
theorem O3 {n:Nat}{neg:Bool}:eB X (jF n neg) (wE X.K n neg):=by
 rintro W Hs H u v x y g g' Q Q' s n r1 r2 ⟨kd,o,q⟩ k
 exact⟨x,y,r1.same (aB.refl _) fun _ _=>trivial,r2.same (aB.refl _) fun _ _=>trivial,kd.elim .inl fun z=>.inr (.inl z),o,k _ _ _ .fr (aB.refl _) (.bl _) q⟩
theorem oS (hu:X.A.units+3 < cLine) (ha:QE X a ta) (hb:QE X b tb):QT X (.Compare a [.NotEq] [b] pos) (aU (q2 (jF 2 true) ta tb)):=jI (aD6 2 hu) O3 ha hb (gB _)
theorem aD7 (hu:X.A.units+3 < cLine) (ha:QE X a ta) (hb:QE X b tb):QE X (.Compare a [.Eq] [b] pos) (q2 (jF 2 false) ta tb):=oO (aD5 2 hu) O3 ha hb (gB _)
end
end PP
namespace PP
open PySem L2 PyProof.Rows
def LO (X:Cx) (t:mD):TO:=fun σ H Q'=>∃ (W:Addr->Prop) (ρ:bJ) (Q:Option Int->Prop),PX X.K X.H₀ W σ ρ H/\t ρ Q/\∀ o H',aB H H'->Q o->Q' o H'
def QO (X:Cx) (e:Option Expr) (t:mD):Prop:=PO X e (LO X t)
theorem Reps.cut {K:PySem.W.Frag}{M:Addr->Prop}{H:Hp}{us:List V}{xs:List PV} (r:Reps K M H us xs) (lo hi:Option Int):Reps K M H (dI us lo hi) (fB xs lo hi):=by
 unfold dI fB
 rw [r.length]
 exact (r.drop _).take _
section
variable {X : Cx} {a b c e o : Expr} {es cY : List Expr} {ta tb te to tk : aD} {tr : cE} {tA tB' tc : cJ} {pos p2 px : Pos} {st : Stmt} {sts : List Stmt} {t u : aL}
theorem O4:QO X none vY:=fun pins s σ H Q I h=>uK pins s σ H Q I (by
 obtain ⟨W,ρ,Q1,px,q,k⟩:=h
 exact k _ _ (aB.refl _) q)
theorem rC (h:QE X e te):QO X (some e) (oF te):=fun pins s σ H Q I hq=>uL h pins s σ H Q I (by
 obtain ⟨W,ρ,Q1,px,q,k⟩:=hq
 refine⟨W,ρ,_,px,q,?_⟩
 rintro v H1 x g s r ⟨i,rfl,q⟩
 cases r
 exact⟨i,rfl,k _ _ s q⟩)
theorem wF {lo hi:Option Expr}{tl th:mD}{sp:Pos} (he:QE X e te) (hl:QO X lo tl) (hh:QO X hi th):QE X (.Subscript e (.Slice lo hi none sp) pos) (r9 te tl th):=cB (uM (B4.or J0) he hl hh) fun σ H Q' h=>by
 obtain ⟨W,ρ,Q,px,q,k⟩:=h
 refine⟨W,ρ,_,px,q,fun v H1 x g s1 r1 q1=>⟨W,ρ,_,px.mono s1,q1,fun lo H2 s2 q2=>⟨W,ρ,_,px.mono (s1.trans s2),q2,?_⟩⟩⟩
 rintro hi H3 s3 ⟨xs,e,f,q3⟩
 have S:=(s1.trans s2).trans s3
 have r3:=r1.same (M':=Mg X.H₀ W H g) (s2.trans s3) fun _ z=>z
 cases r3 with
 | tup h r=>
  cases e
  refine .inr ⟨_,_,rfl,aF.of h,fun p hp=>k _ _ _ .fr (S.trans (bB hp _)) (.tup bE (((r.flat f).cut lo hi).same (bB hp _) fun _ z=>z)) q3,fun ec=>k _ _ _ .fr S (.tup h ?_) q3⟩
  have:=(r.flat (M':=Mg X.H₀ W H .fr) f).cut lo hi
  rw [ec] at this
  exact this
 | lst m h r=>
  cases e
  exact .inl ⟨_,_,rfl,aH.of h,fun p hp=>k _ _ _ .fr (S.trans (bB hp _)) (.lst (S.free hp) bE (((r.flat f).cut lo hi).same (bB hp _) fun _ z=>z)) q3⟩
 | scr h=>
  cases e
  exact .inl ⟨_,_,rfl,h.sqL,fun p hp=>k _ _ _ .fr (S.trans (bB hp _)) (.lst (S.free hp) bE (((Reps.intz _).cut lo hi).same (bB hp _) fun _ z=>z)) q3⟩
 | _=>cases e
structure Df (P:Program) (w:World) (K:PySem.W.Frag) (mg:Str->Option Value) (base:Heap) (k:Nat) (x:Str) (ps:List Str) (p:bH):Prop where
 ex:∃ f fd,cI P w K mg base dD k f fd ps (oB K p)/\gY K fd ps []/\PySem.W.keepIn K (.ref f)=true/\mg x=some (.ref f)
theorem bA {k j:Nat}{x:Str}{ps:List Str}{p:bH} (d:Df X.prog X.w X.K X.mg X.base k x ps p) (hr:bZ j X.A) (ha:QA X (e :: es) tr) (hkj:k<=j:=by decide) (hg:Gl X x:=by rfl) (hdb:(x == ("__debug__" : Str))=false:=by decide)
  (he:starEach (e :: es) X.env=(false,eval e X.env) :: starEach es X.env:=by rfl) (hpl:(backTo pos (starEach es X.env)).any (·.1)=false:=by rfl):QE X (.Call (.Name x p2) (e :: es) [] pos) (aC p tr):=by
 obtain ⟨f,fd,F,b,kp,m⟩:=d.ex
 exact cB (uH F (hr.mono hkj) hg m kp b .nil as8 ha hdb he hpl) fun _ _ _=>az7
theorem wG {K:PySem.W.Frag}{H:Hp}{N:List Str}{vs:List V}{xs:List PV} (r:Reps K (fun _=>True) H vs xs):PX K H (fun _=>False) (L2.gD N vs) (fD N xs) H:=by
 have lr:=r.length
 have own:∀ {i:Nat}{m:Slot},(fD N xs)[i]? = some (some m)->∃ x,xs[i]? = some x/\m = .sh (flat x) x:=fun {i m} h=>by
  unfold fD at h
  by_cases hi:i < xs.length
  ·rw [bs3 (by simpa using hi),bh9] at h
   rw [bg8 hi] at h ⊢
   cases h
   exact⟨_,rfl,rfl⟩
  ·rw [bv3 (by simpa using hi),List.getElem?_replicate] at h
   split at h <;> cases h
 refine⟨by unfold L2.gD fD; simp [lr],aB.refl _,fun a z=>z.elim,fun i m h=>?_,fun i j x y a h1=>?_⟩
 ·obtain ⟨x,hx,rfl⟩:=own h
  obtain ⟨v,hv,rx⟩:=r.at hx
  refine⟨v,?_,qY (g:=false) (rx.same (aB.refl _) fun _ _ z=>z)⟩
  have hi:i < vs.length:=(bh7.mp hv).1
  unfold L2.gD
  rw [bs3 (by simpa using hi),bh9,hv]; rfl
 ·obtain ⟨x,_,e⟩:=own h1
  cases e
theorem Df.of {P:Program}{w:World}{K:PySem.W.Frag}{mg:Str->Option Value}{base:Heap}{k:Nat}{x:Str}{ps N:List Str}{p:bH}{st:Stmt}{f:Addr}{fd:FuncData} (F:e9 K x x st f fd) (m:mg x=some (.ref f)) (S:FnScope N ps (aQ st))
  (hb:∀ (kV doc pm:Value) (an:Option Addr) (cdv ct:Value) (us:List Value),us.length=ps.length->bindArgs (PySem.W.fnOf x x (j8 st) (e8 st) (aQ st) .none kV doc pm an cdv ct) ⟨us,[]⟩=pure (ps.zip us))
  (len:∀ xs Q,p xs Q->xs.length=ps.length)
  (body:∀ (cdv:Value) (A:Around) (outer:List Env) (s:Shared) (H:Hp) (E:XK),bZ k (A.deeper (envOfC x (aQ st) s.heap.objs.size f cdv))->
   ∃ t,eC (cZ dD P w K mg base N x (aQ st) f cdv A outer s H E).nox (e8 st) t/\∀ xs Q,p xs Q->t { nx:=fun _=>Q .non,rt:=Q } (fD N xs)):Df P w K mg base (k+1) x ps p:=by
 refine⟨f,fd,F.ok S (fun vs H Q E h=>?_) (fun cdv A outer s H vs Q E hr h=>?_),F.binds hb,F.kp,m⟩
 ·obtain ⟨xs,Qp,r,q,_⟩:=h
  rw [r.length]; exact len xs Qp q
 ·obtain ⟨xs,Qp,r,q,k⟩:=h
  obtain ⟨t,ht,hq⟩:=body cdv A outer s H E hr
  refine⟨_,ht,fun _=>False,fD N xs,_,wG r,hq xs Qp q,?_,?_,?_,?_⟩
  ·exact fun W' σ' H' ρ' e px q=>k _ _ _ px.same .non q
  ·exact fun v H' x s r q=>k _ _ _ s r q
  ·exact fun W' σ' H' ρ' e px q=>q
  ·exact fun W' σ' H' ρ' e px q=>q
theorem iP (i:Nat) {x:Str}{tp:Pos}{body:List Stmt}{ti:eO} (hN:X.N.Nodup) (hi:QI X (.Name x tp) e ti) (hb:eC X body t) (hx:X.N[i]? = some x:=by rfl) (hl:iY X.env.scope x:=by first | exact Or.inl rfl | exact Or.inr rfl) (hf:X.fn x=true ∨ X.env.scope.names.lookup x=some .local:=by first | exact .inl rfl | exact .inr rfl)
  (hp:PassesOwn (model X.prog X.w) X.A X.env X.xe:=by exact PassesOwn.never) (hc:X.calm=true:=by rfl) (hs:∀ x,foldedSetIterable e X.env x=pure x:=by intro _; rfl):QS X (.For (.Name x tp) e body [] pos) (dW ti (cA i) t):=
 N6 hp hc hi (eW hN hx hl hf) (qZ _ i) hb hs
theorem wH (i j:Nat) {x y:Str}{tp xp yp:Pos}{kt:Nat}{body:List Stmt}{ti:eO} (hN:X.N.Nodup) (hi:QI X (.Tuple [.Name x xp,.Name y yp] kt tp) e ti) (hb:eC X body t) (hx:X.N[i]? = some x:=by rfl) (hy:X.N[j]? = some y:=by rfl) (hlx:iY X.env.scope x:=by first | exact Or.inl rfl | exact Or.inr rfl) (hly:iY X.env.scope y:=by first | exact Or.inl rfl | exact Or.inr rfl)
  (hfx:X.fn x=true ∨ X.env.scope.names.lookup x=some .local:=by first | exact .inl rfl | exact .inr rfl) (hfy:X.fn y=true ∨ X.env.scope.names.lookup y=some .local:=by first | exact .inl rfl | exact .inr rfl)
  (hp:PassesOwn (model X.prog X.w) X.A X.env X.xe:=by exact PassesOwn.never) (hc:X.calm=true:=by rfl) (hs:∀ x,foldedSetIterable e X.env x=pure x:=by intro _; rfl):QS X (.For (.Tuple [.Name x xp,.Name y yp] kt tp) e body [] pos) (dW ti (oE i j) t):=
 N6 hp hc hi (lV hc (g9 (eW hN hx hlx hfx) (g9 (eW hN hy hly hfy) lU))) (aA3 _ i j) hb hs
abbrev gM:Value->Shared->Prop:=fun _ _=>False
section
variable {scope : Scope} {N : List Str} {fr : List (Option Nat)} {x y : Str} {tp xp yp : Pos} {kt : Nat} {iter elt : Expr} {ti : eO}
theorem wI {ifs:List Expr}{tcs:cJ} (he:∀ (s:Shared) (H:Hp) (C:Addr) (fp:List Addr),QE (cV X scope N s H C fp gM) elt te) (hi:∀ (s:Shared) (H:Hp) (C:Addr) (fp:List Addr),kS (cV X scope N s H C fp gM) ifs (LT (cV X scope N s H C fp gM) tcs))
  (hN:N.Nodup) (h0:N[0]? = some x) (hl:∀ (s:Shared) (H:Hp) (C:Addr) (fp:List Addr),(cV X scope N s H C fp gM).env.scope.names.lookup x=some .local) (s:Shared) (H:Hp) :
  nZ X scope N (.Name x tp) ifs elt s H (dS 0) (LT (X.frm H) tcs) (LE (X.frm H) te):=
 ⟨fun C fp=>eW (X:=cV X scope N s H C fp gM) hN h0 (.inl (hl s H C fp)) (.inr (hl s H C fp)),fun C fp=>hi s H C fp,fun C fp=>he s H C fp⟩
theorem O5 {Y:Cx}:kS Y [] (LT Y iO):=fun pins s σ H Q I h=>nX pins s σ H Q I (aA6 h)
theorem wJ (hi:QI X (.Name x tp) iter ti) (he:∀ (s:Shared) (H:Hp) (C:Addr) (fp:List Addr),QE (cV X scope N s H C fp gM) elt te)
  (hc:X.calm=true:=by rfl) (S:dE X scope N fr:=by exact dE.of rfl rfl) (hN:N.Nodup:=by decide +kernel) (h0:N[0]? = some x:=by rfl) (hl:∀ (s:Shared) (H:Hp) (C:Addr) (fp:List Addr),(cV X scope N s H C fp gM).env.scope.names.lookup x=some .local:=by intro _ _ _ _; rfl) (hf:fr[0]? = some none:=by rfl)
  (hs:∀ x,foldedSetIterable iter X.env x=pure x:=by intro _; rfl):QE X (.ListComp elt [⟨.Name x tp,iter,[],0⟩] scope pos) (dX ti fr (cA 0) iO te):=
 cB (F1 (gh:=fun _=>dS 0) (tch:=fun H=>LT (X.frm H) iO) (teh:=fun H=>LE (X.frm H) te) hc S hi (wI he (fun _ _ _ _=>O5) hN h0 hl) hs) fun _ _ _=>vQ (qZ _ 0) (fun i e=>by subst e; exact hf)
theorem jL {c:Expr}{tcs:cJ} (hi:QI X (.Name x tp) iter ti) (ht:∀ (s:Shared) (H:Hp) (C:Addr) (fp:List Addr),QT (cV X scope N s H C fp gM) c tcs) (he:∀ (s:Shared) (H:Hp) (C:Addr) (fp:List Addr),QE (cV X scope N s H C fp gM) elt te)
  (hc:X.calm=true:=by rfl) (S:dE X scope N fr:=by exact dE.of rfl rfl) (hN:N.Nodup:=by decide +kernel) (h0:N[0]? = some x:=by rfl) (hl:∀ (s:Shared) (H:Hp) (C:Addr) (fp:List Addr),(cV X scope N s H C fp gM).env.scope.names.lookup x=some .local:=by intro _ _ _ _; rfl) (hf:fr[0]? = some none:=by rfl)
  (hs:∀ x,foldedSetIterable iter X.env x=pure x:=by intro _; rfl):QE X (.ListComp elt [⟨.Name x tp,iter,[c],0⟩] scope pos) (dX ti fr (cA 0) tcs te):=
 cB (F1 (gh:=fun _=>dS 0) (tch:=fun H=>LT (X.frm H) tcs) (teh:=fun H=>LE (X.frm H) te) hc S hi (wI he (fun s H C fp=>at5 (ht s H C fp)) hN h0 hl) hs) fun _ _ _=>vQ (qZ _ 0) (fun i e=>by subst e; exact hf)
theorem aD8 {i:Nat}{z:Str}{zp:Pos} (nd:X.N.Nodup) (hi:QI X (.Name x tp) iter ti) (he:∀ (s:Shared) (H:Hp) (C:Addr) (fp:List Addr),QE (cV X scope N s H C fp gM) elt te)
  (hz:X.N[i]? = some z:=by rfl) (hzl:X.env.scope.names.lookup z=some .local:=by rfl) (hsw:swapsWith (.ListComp elt [⟨.Name x tp,iter,[],0⟩] scope p2) (some (.Name z zp)) pos.line X.env=pure true:=by rfl)
  (hc:X.calm=true:=by rfl) (S:dE X scope N fr:=by exact dE.of rfl rfl) (hN:N.Nodup:=by decide +kernel) (h0:N[0]? = some x:=by rfl) (hl:∀ (s:Shared) (H:Hp) (C:Addr) (fp:List Addr),(cV X scope N s H C fp gM).env.scope.names.lookup x=some .local:=by intro _ _ _ _; rfl) (hf:fr[0]? = some none:=by rfl)
  (hs:∀ x,foldedSetIterable iter X.env x=pure x:=by intro _; rfl):QS X (.Assign [.Name z zp] (.ListComp elt [⟨.Name x tp,iter,[],0⟩] scope p2) pos) (b6 i (dX ti fr (cA 0) iO te)):=
 eD (au0 (gh:=fun _=>dS 0) (tch:=fun H=>LT (X.frm H) iO) (teh:=fun H=>LE (X.frm H) te) hc S hi (wI he (fun _ _ _ _=>O5) hN h0 hl) nd hz hzl hsw hs) fun D σ H h=>vQ (qZ _ 0) (fun i e=>by subst e; exact hf) (K2 h)
end
theorem aD9 (i:Nat) {x:Str}{apos cpos xpos:Pos} (he:QE X e te) (hm:M1 X (.Name x xpos) "update" apos e cpos:=by exact⟨rfl,rfl,rfl,rfl⟩) (hN:X.N[i]? = some x:=by rfl) (hv:fZ X.env.scope x:=by first | exact Or.inl rfl | exact Or.inr (Or.inl rfl) | exact Or.inr (Or.inr rfl)) (hd:(x == ("__debug__" : Str))=false:=by decide) (hcd:(x == ("__classdict__" : Str))=false:=by decide)
  (hsw:swapsWith (.Call (.Attribute (.Name x xpos) "update" apos) [e] [] cpos) none pos.line X.env=pure false:=by rfl):QS X (.Expr (.Call (.Attribute (.Name x xpos) "update" apos) [e] [] cpos) pos) (vT i te):=
 eD (kL (aw5 (iI hN hv hd hcd) he hm) hsw) fun _ _ _=>aB1
theorem k8 {i:Nat}{x:Str}{xpos tpos:Pos} (hk:QE X a tk) (he:QE X e te) (hN:X.N[i]? = some x:=by rfl) (hv:fZ X.env.scope x:=by first | exact Or.inl rfl | exact Or.inr (Or.inl rfl) | exact Or.inr (Or.inr rfl)) (hd:(x == ("__debug__" : Str))=false:=by decide) (hcd:(x == ("__classdict__" : Str))=false:=by decide)
  (hp:∀ (tx:TE) (tg:TE),PE X (.Name x xpos) tx->PE X a tg->PG X (.Subscript (.Name x xpos) a tpos) (kN tx tg kO):=by intro _ _ h1 h2; exact tX h1 h2 uO)
  (hs:swapsWithSole [.Subscript (.Name x xpos) a tpos] e pos.line X.env=pure false:=by rfl) (hw:swappedStores [.Subscript (.Name x xpos) a tpos] e X.env=pure none:=by rfl) :
  QS X (.Assign [.Subscript (.Name x xpos) a tpos] e pos) (gJ i tk te):=eD (zA he (hp _ _ (iI hN hv hd hcd) hk) hs hw) fun _ _ _=>ay8
end
end PP
namespace SO
open PySem PyProof.Rows
section
variable (rk : Keyed → Int)
def Kr (xs:Array Keyed) (i:Nat):Int:=((xs[i]?).map rk).getD 0
def Up (xs:Array Keyed) (lo hi:Nat):Prop:=∀ i j,lo<=i->i<=j->j < hi->Kr rk xs i<=Kr rk xs j
def Dn (xs:Array Keyed) (lo hi:Nat):Prop:=∀ i j,lo<=i->i<=j->j < hi->Kr rk xs j<=Kr rk xs i
end
variable {rk : Keyed → Int}
theorem lF {xs ys:Array Keyed}{i j:Nat} (h:xs[i]? = ys[j]?):Kr rk xs i=Kr rk ys j:=by unfold Kr; rw [h]
theorem rD {xs:Array Keyed}{i j:Nat} (hj:j<=xs.size) (k:Nat):Kr rk (mirror xs i j ((j - i) / 2)) k=Kr rk xs (if i<=k/\k < j then i+j - 1 - k else k):=by
 refine lF ?_
 rw [getElem?_mirror_all hj]
 split <;> rfl
theorem wK {xs:Array Keyed}{i j:Nat} (hj:j<=xs.size) (e:∀ k,i<=k->k < j->Kr rk xs k=Kr rk xs (j - 1)) (k:Nat):Kr rk (mirror xs i j ((j - i) / 2)) k=Kr rk xs k:=by
 rw [rD hj]
 split
 ·rename_i h; rw [e k h.1 h.2,e _ (by omega) (by omega)]
 ·rfl
theorem aE0 {xs:Array Keyed}{src d:Nat} (hs:src < xs.size) (hd:d<=src) (k:Nat):Kr rk (bubble xs src d) k=Kr rk xs (if k=src - d then src else if src - d < k/\k<=src then k - 1 else k):=by
 refine lF ?_
 rw [getElem?_bubble hs d hd]
 repeat' split
 all_goals rfl
structure SB (κ:SortKind) (a0:Array Keyed) (pd:Array (Nat × Nat × Nat)) (st:SortSt):Prop where
 pm:(arrOf st).Perm a0
 kd:kindOf st=κ
 ok:failedOf st=none
 pd:pendingOf st=pd
section
variable {κ : SortKind} {a0 : Array Keyed} {pd : Array (Nat × Nat × Nat)} {st : SortSt} {prog : Program} {w : World} {A : Around} {E : Value → Shared → Prop} {s : Shared} {Ok : Keyed → Prop}
theorem SB.sz (h:SB κ a0 pd st):(arrOf st).size=a0.size:=h.pm.size_eq
theorem SB.put (h:SB κ a0 pd st) {xs:Array Keyed} (hp:xs.Perm (arrOf st)):SB κ a0 pd (setArr st xs):=⟨hp.trans h.pm,h.kd,h.ok,h.pd⟩
def cF (prog:Program) (w:World) (A:Around) (E:Value->Shared->Prop) (s:Shared) (κ:SortKind) (Ok:Keyed->Prop) (rk:Keyed->Int):Prop:=
 ∀ (x y:Keyed),Ok x->Ok y->∀ (st:SortSt) (Q:Option Bool->SortSt->Prop),kindOf st=κ->Q (some (decide (rk x < rk y))) st->wpS (model prog w) A E s (lt' x y) Q st
def bM (Ok:Keyed->Prop) (xs:Array Keyed):Prop:=∀ x ∈ xs,Ok x
theorem SB.all (h:SB κ a0 pd st) (o:bM Ok a0):bM Ok (arrOf st):=fun x hx=>o x (h.pm.mem_iff.mp hx)
theorem cU {xs:Array Keyed}{i:Nat}{Q:Keyed->SortSt->Prop} (hi:i < xs.size) (h:Q xs[i] st):wpS (model prog w) A E s (elem' xs i) Q st:=by
 rw [elem'_eq,getElem?_pos xs i hi]; exact bi8 h
theorem c8 {xs:Array Keyed}{i:Nat} (hi:i < xs.size):Kr rk xs i=rk xs[i]:=by unfold Kr; rw [getElem?_pos xs i hi]; rfl
theorem oT (c:cF prog w A E s κ Ok rk) (o:bM Ok a0) (b:SB κ a0 pd st) {i j:Nat}{Q:Option Bool->SortSt->Prop} (hi:i < a0.size) (hj:j < a0.size)
  (h:Q (some (decide (Kr rk (arrOf st) i < Kr rk (arrOf st) j))) st):wpS (model prog w) A E s (ltAt' i j) Q st:=by
 have hi':i < (arrOf st).size:=by rw [b.sz]; exact hi
 have hj':j < (arrOf st).size:=by rw [b.sz]; exact hj
 rw [ltAt'_eq]
 refine bh6 (wpS_get (bh6 (cU hi' (bh6 (cU hj' ?_)))))
 refine c _ _ (b.all o _ (bm3 hi')) (b.all o _ (bm3 hj')) st Q b.kd ?_
 rw [<- c8 (rk:=rk) hi',<- c8 (rk:=rk) hj']; exact h
theorem rE {i j:Nat}{Q:Unit->SortSt->Prop} (h:Q () (setArr st (mirror (arrOf st) i j ((j - i) / 2)))):wpS (model prog w) A E s (reverseSlice' i j) Q st:=by
 rw [reverseSlice'_eq]; exact wpS_modify h
abbrev CS:=Option (Option Nat) × Nat
abbrev DS:=Option (Option Nat) × Nat × Nat
def oU (lo b nrem:Nat):StateT SortSt Sem CS:=forIn [b:nrem] ((none,b):CS) fun _ r=>do
 match <- ltAt' (lo+r.2) (lo+r.2 - 1) with
 | some q=>if q=true then pure (ForInStep.done (none,r.2)) else pure (ForInStep.yield (none,r.2+1))
 | _=>pure (ForInStep.done (some none,r.2))
def wL (lo b nrem:Nat):StateT SortSt Sem DS:=forIn [b:nrem] ((none,b,0):DS) fun _ r=>do
 match <- ltAt' (lo+r.2.1) (lo+r.2.1 - 1) with
 | some q=>
  if q=true then (if r.2.2 > 0 then do reverseSlice' (lo+r.2.1 - (r.2.2+1)) (lo+r.2.1); pure (ForInStep.yield (none,r.2.1+1,0)) else pure (ForInStep.yield (none,r.2.1+1,0)))
  else do
   match <- ltAt' (lo+r.2.1 - 1) (lo+r.2.1) with
   | some q=>if q=true then pure (ForInStep.done (none,r.2.1,r.2.2)) else pure (ForInStep.yield (none,r.2.1+1,r.2.2+1))
   | _=>pure (ForInStep.done (some none,r.2.1,r.2.2))
 | _=>pure (ForInStep.done (some none,r.2.1,r.2.2))
theorem O6 (c:cF prog w A E s κ Ok rk) (o:bM Ok a0) (b:SB κ a0 pd st) {lo n nrem:Nat}{Q:CS->SortSt->Prop} (hz:lo+nrem<=a0.size) (h1:1<=n) (hn:n<=nrem) (u:Up rk (arrOf st) lo (lo+n))
  (h:∀ m,n<=m->m<=nrem->Up rk (arrOf st) lo (lo+m)->(m=nrem ∨ Kr rk (arrOf st) (lo+m) < Kr rk (arrOf st) (lo+m - 1))->Q (none,m) st):wpS (model prog w) A E s (oU lo n nrem) Q st:=by
 unfold oU
 refine bp7 (I:=fun x r st'=>st'=st/\r=(none,x)/\Up rk (arrOf st) lo (lo+x)) ?_ ?_ ⟨rfl,rfl,u⟩
 ·rintro x r st' hx hx' ⟨rfl,rfl,u'⟩
  refine bh6 (oT c o b (by omega) (by omega) ?_)
  by_cases hq:Kr rk (arrOf st') (lo+x) < Kr rk (arrOf st') (lo+x - 1)
  ·rw [bh3 hq]
   exact bi8 (h x hx (by omega) u' (.inr hq))
  ·rw [bh2 hq]
   refine bi8 ⟨rfl,rfl,fun i j hi hij hj=>?_⟩
   rcases bl9 j (lo+x) with z | z
   ·exact u' i j hi hij z
   ·have ej:j=lo+x:=by omega
    subst ej
    rcases bv6 hij with z | z
    ·rw [z]; exact bs0 _
    ·have:=u' i (lo+x - 1) hi (by omega) (by omega)
     omega
 ·rintro r st' ⟨rfl,rfl,u'⟩
  have em:max n nrem=nrem:=by omega
  rw [em] at u' ⊢
  exact h nrem hn (bh0 _) u' (.inl rfl)
structure oV (rk:Keyed->Int) (xs ys:Array Keyed) (lo m q:Nat):Prop where
 dn:Dn rk ys lo (lo+m)
 le:q+1<=m
 eq:∀ i,lo+m - (q+1)<=i->i < lo+m->Kr rk ys i=Kr rk ys (lo+m - 1)
 low:∀ i,i < lo->Kr rk ys i=Kr rk xs i
theorem aE1 (c:cF prog w A E s κ Ok rk) (o:bM Ok a0) (b:SB κ a0 pd st) {lo n nrem:Nat}{xs:Array Keyed}{Q:DS->SortSt->Prop} (hz:lo+nrem<=a0.size) (h1:1<=n) (hn:n<=nrem) (u:oV rk xs (arrOf st) lo n 0)
  (h:∀ m q st',SB κ a0 pd st'->n<=m->m<=nrem->oV rk xs (arrOf st') lo m q->Q (none,m,q) st'):wpS (model prog w) A E s (wL lo n nrem) Q st:=by
 unfold wL
 refine bp7 (I:=fun x r st'=>∃ q,r=(none,x,q)/\SB κ a0 pd st'/\oV rk xs (arrOf st') lo x q) ?_ ?_ ⟨0,rfl,b,u⟩
 ·rintro x r st' hx hx' ⟨q,rfl,b',f⟩
  have sz:=b'.sz
  dsimp only
  refine bh6 (oT c o b' (by omega) (by omega) ?_)
  by_cases hq:Kr rk (arrOf st') (lo+x) < Kr rk (arrOf st') (lo+x - 1)
  ·rw [bh3 hq]
   have nx:∀ ys:Array Keyed,(∀ k,Kr rk ys k=Kr rk (arrOf st') k)->oV rk xs ys lo (x+1) 0:=fun ys e=>by
    refine⟨fun i j hi hij hj=>?_,by omega,fun i h1 h2=>by rw [show i=lo+(x+1) - 1 by omega],fun i hi=>(e i).trans (f.low i hi)⟩
    rw [e,e]
    rcases bl9 j (lo+x) with z | z
    ·exact f.dn i j hi hij z
    ·have ej:j=lo+x:=by omega
     subst ej
     rcases bv6 hij with z | z
     ·rw [z]; exact bs0 _
     ·have:=f.dn i (lo+x - 1) hi (by omega) (by omega)
      omega
   dsimp only
   rw [if_pos rfl]
   by_cases hp:q > 0
   ·rw [if_pos hp]
    exact bh6 (rE (bi8 ⟨0,rfl,b'.put (mirror_perm _ _ _ _),nx _ (wK (by omega) f.eq)⟩))
   ·rw [if_neg hp]
    exact bi8 ⟨0,rfl,b',nx _ fun _=>rfl⟩
  ·rw [bh2 hq]
   dsimp only
   rw [if_neg bi6]
   refine bh6 (oT c o b' (by omega) (by omega) ?_)
   by_cases hl:Kr rk (arrOf st') (lo+x - 1) < Kr rk (arrOf st') (lo+x)
   ·rw [bh3 hl]
    exact bi8 (h x q st' b' hx (by omega) f)
   ·rw [bh2 hl]
    have ex:Kr rk (arrOf st') (lo+x)=Kr rk (arrOf st') (lo+x - 1):=by omega
    refine bi8 ⟨q+1,rfl,b',fun i j hi hij hj=>?_,by have:=f.le; omega,fun i h1 h2=>?_,f.low⟩
    ·rcases bl9 j (lo+x) with z | z
     ·exact f.dn i j hi hij z
     ·have ej:j=lo+x:=by omega
      subst ej
      rcases bv6 hij with z | z
      ·rw [z]; exact bs0 _
      ·rw [ex]; exact f.dn i (lo+x - 1) hi (by omega) (by omega)
    ·rw [show lo+(x+1) - 1=lo+x by omega]
     rcases bl9 i (lo+x) with z | z
     ·rw [ex]; exact f.eq i (by omega) z
     ·rw [show i=lo+x by omega]
 ·rintro r st' ⟨q,rfl,b',f⟩
  have em:max n nrem=nrem:=by omega
  rw [em] at f ⊢
  exact h nrem q st' b' hn (bh0 _) f
theorem O7 (c:cF prog w A E s κ Ok rk) (o:bM Ok a0) (b:SB κ a0 pd st) {lo nrem:Nat} (n:Nat) {xs:Array Keyed}{Q:Option Nat->SortSt->Prop}{K:DS->StateT SortSt Sem (Option Nat)}{k:CS->StateT SortSt Sem (Option Nat)} (hz:lo+nrem<=a0.size) (hn:n+1<=nrem)
  (hK:∀ m q,K (none,m,q)=if q > 0 then reverseSlice' (lo+m - (q+1)) (lo+m) >>= fun _=>reverseSlice' lo (lo+m) >>= fun _=>oU lo m nrem >>= k else reverseSlice' lo (lo+m) >>= fun _=>oU lo m nrem >>= k)
  (hk:∀ m,k (none,m)=pure (some m)) (u:oV rk xs (arrOf st) lo (n+1) 0)
  (h:∀ m st',SB κ a0 pd st'->1<=m->m<=nrem->Up rk (arrOf st') lo (lo+m)->(∀ i,i < lo->Kr rk (arrOf st') i=Kr rk xs i)->Q (some m) st'):wpS (model prog w) A E s (liftM (rule "list.sort.descending-run") >>= fun _=>wL lo (n+1) nrem >>= K) Q st:=by
 refine bh6 (wpS_lift (bu6 ⟨rfl,?_⟩))
 refine bh6 (aE1 c o b hz (by omega) hn u fun m q st1 b1 m1 m2 f=>?_)
 have fin:∀ st2:SortSt,SB κ a0 pd st2->(∀ k,Kr rk (arrOf st2) k=Kr rk (arrOf st1) k)->
   wpS (model prog w) A E s (reverseSlice' lo (lo+m) >>= fun _=>oU lo m nrem >>= k) Q st2:=fun st2 b2 e=>by
  have sz:=b2.sz
  have low:∀ i,i < lo->Kr rk (mirror (arrOf st2) lo (lo+m) ((lo+m - lo) / 2)) i=Kr rk xs i:=fun i hi=>by
   rw [rD (by omega),if_neg (by omega),e]
   exact f.low i hi
  refine bh6 (rE (bh6 (O6 (κ:=κ) c o (b2.put (mirror_perm _ _ _ _)) hz (by omega) m2 ?_ fun m' h1 h2 up _=>by rw [hk]; exact bi8 (h m' _ (b2.put (mirror_perm _ _ _ _)) (by omega) h2 up low))))
  ·intro i j hi hij hj
   show Kr rk (mirror (arrOf st2) lo (lo+m) _) i<=Kr rk (mirror (arrOf st2) lo (lo+m) _) j
   rw [rD (by omega),rD (by omega),if_pos (by omega),if_pos (by omega),e,e]
   exact f.dn _ _ (by omega) (by omega) (by omega)
 rw [hK]
 by_cases hp:q > 0
 ·rw [if_pos hp]
  have sz:=b1.sz
  exact bh6 (rE (fin _ (b1.put (mirror_perm _ _ _ _)) (wK (by omega) f.eq)))
 ·rw [if_neg hp]
  exact fin st1 b1 fun _=>rfl
theorem aE2 (c:cF prog w A E s κ Ok rk) (o:bM Ok a0) (b:SB κ a0 pd st) {lo nrem:Nat}{Q:Option Nat->SortSt->Prop} (hz:lo+nrem<=a0.size) (h1:1<=nrem)
  (h:∀ m st',SB κ a0 pd st'->1<=m->m<=nrem->Up rk (arrOf st') lo (lo+m)->(∀ i,i < lo->Kr rk (arrOf st') i=Kr rk (arrOf st) i)->Q (some m) st'):wpS (model prog w) A E s (countRun' lo nrem) Q st:=by
 rw [countRun'_eq]
 refine bh6 (O6 (n:=1) c o b hz (bh0 _) h1 (fun i j hi hij hj=>by rw [show i=j by omega]; exact bs0 _) fun n n1 n2 un on=>?_)
 dsimp only
 by_cases en:(n == nrem)=true
 ·rw [if_pos en]
  exact bi8 (h n st b n1 n2 un fun _ _=>rfl)
 ·rw [if_neg en]
  have en':n ≠ nrem:=by simpa using en
  have lt:=on.resolve_left en'
  have sz:=b.sz
  by_cases g:n > 1
  ·rw [if_pos g]
   refine bh6 (oT c o b (by omega) (by omega) ?_)
   by_cases hq:Kr rk (arrOf st) lo < Kr rk (arrOf st) (lo+n - 1)
   ·rw [bh3 hq]
    exact bi8 (h n st b n1 n2 un fun _ _=>rfl)
   ·rw [bh2 hq]
    dsimp only
    rw [if_neg bi6]
    have all:∀ k,lo<=k->k < lo+n->Kr rk (arrOf st) k=Kr rk (arrOf st) (lo+n - 1):=fun k k1 k2=>by
     have a1:=un lo k (bh0 _) k1 k2
     have a2:=un k (lo+n - 1) k1 (by omega) (by omega)
     omega
    have sm:=wK (rk:=rk) (xs:=arrOf st) (i:=lo) (j:=lo+n) (by omega) all
    refine bh6 (rE (O7 (xs:=arrOf st) (κ:=κ) c o (b.put (mirror_perm _ _ _ _)) n hz (by omega) (fun _ _=>rfl) (fun _=>rfl) ⟨fun i j hi hij hj=>?_,by omega,fun i h1 h2=>by rw [show i=lo+(n+1) - 1 by omega],fun i _=>sm i⟩ h))
    show Kr rk (mirror (arrOf st) lo (lo+n) _) j<=Kr rk (mirror (arrOf st) lo (lo+n) _) i
    rw [sm,sm]
    rcases bl9 j (lo+n) with z | z
    ·rw [all i hi (by omega),all j (by omega) z]; exact bs0 _
    ·have ej:j=lo+n:=by omega
     subst ej
     rcases bv6 hij with z | z
     ·rw [z]; exact bs0 _
     ·rw [all i hi (by omega)]; exact Int.le_of_lt lt
  ·rw [if_neg g]
   have e1:n=1:=by omega
   subst e1
   refine O7 (xs:=arrOf st) c o b 1 hz (by omega) (fun _ _=>rfl) (fun _=>rfl) ⟨fun i j hi hij hj=>?_,by omega,fun i h1 h2=>by rw [show i=lo+(1+1) - 1 by omega],fun i _=>rfl⟩ h
   rcases bv6 hij with z | z
   ·rw [z]; exact bs0 _
   ·have ei:i=lo+1 - 1:=by omega
    have ej:j=lo+1:=by omega
    rw [ei,ej]; exact Int.le_of_lt lt
theorem aE3 (c:cF prog w A E s κ Ok rk) (o:bM Ok a0) (b:SB κ a0 pd st) {lo n q:Nat}{Q:Bool->SortSt->Prop} (hz:lo+n<=a0.size) (hq:q<=n) (u:Up rk (arrOf st) lo (lo+q))
  (h:∀ st',SB κ a0 pd st'->Up rk (arrOf st') lo (lo+n)->(∀ i,i < lo->Kr rk (arrOf st') i=Kr rk (arrOf st) i)->Q true st'):wpS (model prog w) A E s (binarySort' lo n q) Q st:=by
 rw [binarySort'_eq]
 refine bh6 (bw6 (bp7 (I:=fun k r st'=>r=(none,())/\SB κ a0 pd st'/\Up rk (arrOf st') lo (lo+min k n)/\∀ i,i < lo->Kr rk (arrOf st') i=Kr rk (arrOf st) i)
  (Q:=fun r st'=>r=(none,())/\SB κ a0 pd st'/\Up rk (arrOf st') lo (lo+n)/\∀ i,i < lo->Kr rk (arrOf st') i=Kr rk (arrOf st) i) ?_ ?_ ?_) ?_)
 ·rintro k r st1 hk hkn ⟨rfl,b1,u1,l1⟩
  rw [show min k n=k by omega] at u1
  have hk0:lo+k < a0.size:=by omega
  have sz:=b1.sz
  refine bh6 (bw6 (bp7 (I:=fun x r st'=>st'=st1/\∃ l g,r=(none,l,g)/\l<=g/\g<=k/\g - l<=k - x/\(∀ i,i < l->Kr rk (arrOf st1) (lo+i)<=Kr rk (arrOf st1) (lo+k))/\∀ i,g<=i->i < k->Kr rk (arrOf st1) (lo+k) < Kr rk (arrOf st1) (lo+i))
   (Q:=fun r st'=>st'=st1/\∃ l g,r=(none,l,g)/\l<=k/\(∀ i,i < l->Kr rk (arrOf st1) (lo+i)<=Kr rk (arrOf st1) (lo+k))/\∀ i,l<=i->i < k->Kr rk (arrOf st1) (lo+k) < Kr rk (arrOf st1) (lo+i)) ?_ ?_ ?_) ?_)
  ·rintro x r st2 _ hx ⟨rfl,l,g,rfl,d1,d2,d3,f1,f2⟩
   dsimp only
   by_cases hlg:l >= g
   ·rw [if_pos hlg]
    have e:g=l:=by omega
    subst e
    exact bi8 ⟨rfl,g,g,rfl,d2,f1,f2⟩
   ·rw [if_neg hlg]
    refine bh6 (oT c o b1 hk0 (by omega) ?_)
    by_cases hc:Kr rk (arrOf st2) (lo+k) < Kr rk (arrOf st2) (lo+(l+g) / 2)
    ·rw [bh3 hc]
     refine bi8 ⟨rfl,l,(l+g) / 2,rfl,by omega,by omega,by omega,f1,fun i i1 i2=>?_⟩
     have:=u1 (lo+(l+g) / 2) (lo+i) (by omega) (by omega) (by omega)
     omega
    ·rw [bh2 hc]
     refine bi8 ⟨rfl,(l+g) / 2+1,g,rfl,by omega,d2,by omega,fun i i1=>?_,f2⟩
     have:=u1 (lo+i) (lo+(l+g) / 2) (by omega) (by omega) (by omega)
     omega
  ·rintro r st2 ⟨rfl,l,g,rfl,d1,d2,d3,f1,f2⟩
   have e:g=l:=by omega
   subst e
   exact⟨rfl,g,g,rfl,d2,f1,f2⟩
  ·exact⟨rfl,0,k,rfl,by omega,by omega,by omega,fun i hi=>absurd hi (by omega),fun i i1 i2=>absurd i1 (by omega)⟩
  ·rintro r st2 ⟨rfl,l,g,rfl,d,f1,f2⟩
   dsimp only
   rw [moveDown'_eq]
   have kb:∀ i,Kr rk (bubble (arrOf st2) (lo+k) (lo+k - (lo+l))) i=Kr rk (arrOf st2) (if i=lo+l then lo+k else if lo+l < i/\i<=lo+k then i - 1 else i):=fun i=>by
    rw [aE0 (by omega) (by omega),show lo+k - (lo+k - (lo+l))=lo+l by omega]
   refine bh6 (wpS_modify (bi8 ⟨rfl,b1.put (bubble_perm _ _ _),fun i j hi hij hj=>?_,fun i hi=>?_⟩))
   ·show Kr rk (bubble (arrOf st2) (lo+k) (lo+k - (lo+l))) i<=Kr rk (bubble (arrOf st2) (lo+k) (lo+k - (lo+l))) j
    rw [kb,kb]
    rw [show min (k+1) n=k+1 by omega] at hj
    have v1:∀ p,lo<=p->p < lo+l->Kr rk (arrOf st2) p<=Kr rk (arrOf st2) (lo+k):=fun p p1 p2=>by have:=f1 (p - lo) (by omega); rwa [show lo+(p - lo)=p by omega] at this
    have v2:∀ p,lo+l<=p->p < lo+k->Kr rk (arrOf st2) (lo+k) < Kr rk (arrOf st2) p:=fun p p1 p2=>by have:=f2 (p - lo) (by omega) (by omega); rwa [show lo+(p - lo)=p by omega] at this
    repeat' split
    all_goals first
     | (exfalso; omega)
     | exact bs0 _
     | exact v1 _ (by omega) (by omega)
     | exact Int.le_of_lt (v2 _ (by omega) (by omega))
     | exact u1 _ _ (by omega) (by omega) (by omega)
   ·show Kr rk (bubble (arrOf st2) (lo+k) (lo+k - (lo+l))) i=_
    rw [kb,if_neg (by omega),if_neg (by omega)]
    exact l1 i hi
 ·rintro r st1 ⟨rfl,b1,u1,l1⟩
  rw [show min (max (max q 1) n) n=n by omega] at u1
  exact⟨rfl,b1,u1,l1⟩
 ·refine⟨rfl,b,fun i j hi hij hj=>?_,fun _ _=>rfl⟩
  rcases bl9 j (lo+q) with z | z
  ·exact u i j hi hij z
  ·rw [show i=j by omega]; exact bs0 _
 ·rintro r st1 ⟨rfl,b1,u1,l1⟩
  exact bi8 (h st1 b1 u1 l1)
end
def k9:Bool->Keyed->Array Keyed->Nat->Nat->Nat->StateT SortSt Sem (Option Nat):=sortPriv% PySem.Builtin.gallop
def lG (lf:Bool) (key:Keyed) (xs:Array Keyed) (bs i:Nat):StateT SortSt Sem (Option Bool):=do
 let z <- elem' xs (bs+i)
 if lf then lt' z key else return (<- lt' key z).map (!·)
theorem aE4 (lf:Bool) (key:Keyed) (xs:Array Keyed) (bs n h:Nat):k9 lf key xs bs n h=(do
 let mut la:=0
 let mut of:=1
 let mut l:=0
 let mut g:=0
 let some rt <- lG lf key xs bs h | return none
 if rt then
  let mx:=n - h
  for _ in [0:n] do
   if of >= mx then break
   let some mr <- lG lf key xs bs (h+of) | return none
   if !mr then break
   la:=of
   of:=2 * of+1
  l:=h+la+1
  g:=h+min of mx
 else
  let mx:=h+1
  for _ in [0:n] do
   if of >= mx then break
   let some fd <- lG lf key xs bs (h - of) | return none
   if fd then break
   la:=of
   of:=2 * of+1
  l:=h+1 - min of mx
  g:=h - la
 for _ in [0:n] do
  if l >= g then break
  let m:=l+(g - l) / 2
  let some mr <- lG lf key xs bs m | return none
  if mr then l:=m+1 else g:=m
 return some g):=rfl
section
variable {rk : Keyed → Int} {κ : SortKind} {st : SortSt} {prog : Program} {w : World} {A : Around} {E : Value → Shared → Prop} {s : Shared} {Ok : Keyed → Prop}
def bW (rk:Keyed->Int) (lf:Bool) (key:Keyed) (xs:Array Keyed) (bs i:Nat):Bool:=if lf then decide (Kr rk xs (bs+i) < rk key) else decide (Kr rk xs (bs+i)<=rk key)
theorem rF (c:cF prog w A E s κ Ok rk) (hk:kindOf st=κ) {lf:Bool}{key:Keyed}{xs:Array Keyed}{bs i:Nat}{Q:Option Bool->SortSt->Prop} (ok:Ok key) (o:bM Ok xs) (hi:bs+i < xs.size)
  (h:Q (some (bW rk lf key xs bs i)) st):wpS (model prog w) A E s (lG lf key xs bs i) Q st:=by
 unfold lG
 refine bh6 (cU hi ?_)
 unfold bW at h
 rw [c8 hi] at h
 cases lf with
 | true=>
  simp only [if_true] at h ⊢
  exact c _ _ (o _ (bm3 hi)) ok st Q hk h
 | false=>
  simp only [bj4,bo4] at h ⊢
  refine bh6 (c _ _ ok (o _ (bm3 hi)) st _ hk (bi8 ?_))
  have e:(!decide (rk key < rk xs[bs+i]))=decide (rk xs[bs+i]<=rk key):=by
   by_cases z:rk xs[bs+i]<=rk key
   ·rw [bh3 z,bh2 (by omega)]; rfl
   ·rw [bh2 z,bh3 (by omega)]; rfl
  show Q (some (!decide (rk key < rk xs[bs+i]))) st
  rw [e]; exact h
abbrev GS:=Option (Option Nat) × Nat × Nat
def O8 (lf:Bool) (key:Keyed) (xs:Array Keyed) (bs n l g:Nat):StateT SortSt Sem GS:=forIn [0:n] ((none,l,g):GS) fun _ r=>
 if r.2.1 >= r.2.2 then pure (ForInStep.done (none,r.2.1,r.2.2)) else do
  match <- lG lf key xs bs (r.2.1+(r.2.2 - r.2.1) / 2) with
  | some q=>if q=true then pure (ForInStep.yield (none,r.2.1+(r.2.2 - r.2.1) / 2+1,r.2.2)) else pure (ForInStep.yield (none,r.2.1,r.2.1+(r.2.2 - r.2.1) / 2))
  | _=>pure (ForInStep.done (some none,r.2.1,r.2.2))
theorem O9 (c:cF prog w A E s κ Ok rk) (hk:kindOf st=κ) {lf:Bool}{key:Keyed}{xs:Array Keyed}{bs n l g:Nat}{Q:GS->SortSt->Prop} (ok:Ok key) (o:bM Ok xs) (hz:bs+n<=xs.size)
  (mono:∀ i j,i<=j->j < n->bW rk lf key xs bs j=true->bW rk lf key xs bs i=true) (hlg:l<=g) (hg:g<=n) (h1:∀ i,i < l->bW rk lf key xs bs i=true) (h2:∀ i,g<=i->i < n->bW rk lf key xs bs i=false)
  (hq:∀ k,k<=n->(∀ i,i < k->bW rk lf key xs bs i=true)->(∀ i,k<=i->i < n->bW rk lf key xs bs i=false)->Q (none,k,k) st):wpS (model prog w) A E s (O8 lf key xs bs n l g) Q st:=by
 unfold O8
 refine bp7 (I:=fun x r st'=>st'=st/\∃ l g,r=(none,l,g)/\l<=g/\g<=n/\g - l<=n - x/\(∀ i,i < l->bW rk lf key xs bs i=true)/\∀ i,g<=i->i < n->bW rk lf key xs bs i=false) ?_ ?_ ⟨rfl,l,g,rfl,hlg,hg,by omega,h1,h2⟩
 ·rintro x r st' _ hx ⟨rfl,l,g,rfl,d1,d2,d3,f1,f2⟩
  dsimp only
  by_cases hc:l >= g
  ·rw [if_pos hc]
   have e:g=l:=by omega
   subst e
   exact bi8 (hq g d2 f1 f2)
  ·rw [if_neg hc]
   refine bh6 (rF c hk ok o (by omega) ?_)
   cases z:bW rk lf key xs bs (l+(g - l) / 2) with
   | true=>exact bi8 ⟨rfl,_,_,rfl,by omega,d2,by omega,fun i hi=>mono i (l+(g - l) / 2) (by omega) (by omega) z,f2⟩
   | false=>
    refine bi8 ⟨rfl,_,_,rfl,by omega,by omega,by omega,f1,fun i i1 i2=>?_⟩
    cases y:bW rk lf key xs bs i with
    | false=>rfl
    | true=>rw [mono _ i i1 i2 y] at z; cases z
 ·rintro r st' ⟨rfl,l,g,rfl,d1,d2,d3,f1,f2⟩
  have e:g=l:=by omega
  subst e
  exact hq g d2 f1 f2
theorem mI (c:cF prog w A E s κ Ok rk) (hk:kindOf st=κ) {lf:Bool}{key:Keyed}{xs:Array Keyed}{bs n h:Nat}{Q:Option Nat->SortSt->Prop} (ok:Ok key) (o:bM Ok xs) (hh:h < n) (hz:bs+n<=xs.size) (u:Up rk xs bs (bs+n))
  (hq:∀ k,k<=n->(∀ i,i < k->bW rk lf key xs bs i=true)->(∀ i,k<=i->i < n->bW rk lf key xs bs i=false)->Q (some k) st):wpS (model prog w) A E s (k9 lf key xs bs n h) Q st:=by
 have mono:∀ i j,i<=j->j < n->bW rk lf key xs bs j=true->bW rk lf key xs bs i=true:=fun i j hij hj e=>by
  have:=u (bs+i) (bs+j) (by omega) (by omega) (by omega)
  unfold bW at e ⊢
  cases lf with
  | true=>simp only [if_true,bi5] at e ⊢; omega
  | false=>simp only [bj4,bo4,bi5] at e ⊢; omega
 have monf:∀ i j,i<=j->j < n->bW rk lf key xs bs i=false->bW rk lf key xs bs j=false:=fun i j hij hj e=>by
  cases z:bW rk lf key xs bs j with
  | false=>rfl
  | true=>rw [mono i j hij hj z] at e; cases e
 rw [aE4]
 refine bh6 (rF c hk ok o (by omega) ?_)
 dsimp only
 cases z:bW rk lf key xs bs h with
 | true=>
  rw [if_pos rfl]
  refine bh6 (bw6 (bp7 (I:=fun x r st'=>st'=st/\∃ la of,r=(none,la,of)/\la < of/\x < of/\h+la < n/\bW rk lf key xs bs (h+la)=true)
   (Q:=fun r st'=>st'=st/\∃ la of,r=(none,la,of)/\la < of/\h+la < n/\bW rk lf key xs bs (h+la)=true/\(of < n - h->bW rk lf key xs bs (h+of)=false)) ?_ ?_ ⟨rfl,0,1,rfl,by omega,by omega,by omega,z⟩) ?_)
  ·rintro x r st' _ hx ⟨rfl,la,of,rfl,d1,d2,d3,f⟩
   dsimp only
   by_cases hc:of >= n - h
   ·rw [if_pos hc]
    exact bi8 ⟨rfl,la,of,rfl,d1,d3,f,fun y=>absurd y (by omega)⟩
   ·rw [if_neg hc]
    refine bh6 (rF c hk ok o (by omega) ?_)
    cases y:bW rk lf key xs bs (h+of) with
    | true=>exact bi8 ⟨rfl,of,2 * of+1,rfl,by omega,by omega,by omega,y⟩
    | false=>exact bi8 ⟨rfl,la,of,rfl,d1,d3,f,fun _=>y⟩
  ·rintro r st' ⟨rfl,la,of,rfl,d1,d2,d3,f⟩
   exact⟨rfl,la,of,rfl,d1,d3,f,fun y=>absurd y (by omega)⟩
  ·rintro r st' ⟨rfl,la,of,rfl,d1,d3,f,ft⟩
   dsimp only
   refine bh6 (O9 (l:=h+la+1) (g:=h+min of (n - h)) c hk ok o hz mono (by omega) (by omega) (fun i hi=>mono i (h+la) (by omega) d3 f) (fun i i1 i2=>?_) fun k k1 k2 k3=>bi8 (hq k k1 k2 k3))
   rcases bl9 of (n - h) with y | y
   ·exact monf (h+of) i (by omega) i2 (ft y)
   ·exact absurd i1 (by omega)
 | false=>
  rw [if_neg bi6]
  refine bh6 (bw6 (bp7 (I:=fun x r st'=>st'=st/\∃ la of,r=(none,la,of)/\la < of/\x < of/\la<=h/\bW rk lf key xs bs (h - la)=false)
   (Q:=fun r st'=>st'=st/\∃ la of,r=(none,la,of)/\la < of/\la<=h/\bW rk lf key xs bs (h - la)=false/\(of < h+1->bW rk lf key xs bs (h - of)=true)) ?_ ?_ ⟨rfl,0,1,rfl,by omega,by omega,by omega,z⟩) ?_)
  ·rintro x r st' _ hx ⟨rfl,la,of,rfl,d1,d2,d3,f⟩
   dsimp only
   by_cases hc:of >= h+1
   ·rw [if_pos hc]
    exact bi8 ⟨rfl,la,of,rfl,d1,d3,f,fun y=>absurd y (by omega)⟩
   ·rw [if_neg hc]
    refine bh6 (rF c hk ok o (by omega) ?_)
    cases y:bW rk lf key xs bs (h - of) with
    | false=>exact bi8 ⟨rfl,of,2 * of+1,rfl,by omega,by omega,by omega,y⟩
    | true=>exact bi8 ⟨rfl,la,of,rfl,d1,d3,f,fun _=>y⟩
  ·rintro r st' ⟨rfl,la,of,rfl,d1,d2,d3,f⟩
   exact⟨rfl,la,of,rfl,d1,d3,f,fun y=>absurd y (by omega)⟩
  ·rintro r st' ⟨rfl,la,of,rfl,d1,d3,f,ft⟩
   dsimp only
   refine bh6 (O9 (l:=h+1 - min of (h+1)) (g:=h - la) c hk ok o hz mono (by omega) (by omega) (fun i hi=>?_) (fun i i1 i2=>monf (h - la) i i1 i2 f) fun k k1 k2 k3=>bi8 (hq k k1 k2 k3))
   rcases bl9 of (h+1) with y | y
   ·exact mono i (h - of) (by omega) (by omega) (ft y)
   ·exact absurd hi (by omega)
end
def mJ:Nat->StateT SortSt Sem Unit:=sortPriv% PySem.Builtin.setMinGallop
def wM:Array Keyed->Array Keyed->StateT SortSt Sem (Array Keyed):=sortPriv% PySem.Builtin.mergeLo
theorem aE5 (g:Nat):mJ g=modify (fun st=>SortSt.mk' (kindOf st) (arrOf st) (pendingOf st) g (failedOf st)):=rfl
abbrev LS:=Option (Array Keyed) × Array Keyed × Nat × Nat × Nat × Nat × Nat
abbrev wN:=Option (Array Keyed) × Array Keyed × Nat × Nat × Nat × Nat
abbrev LO:=Option (Array Keyed) × Array Keyed × Nat × Nat × Nat
def rG (x y o:Array Keyed) (i j mg p q:Nat):StateT SortSt Sem (ForInStep LS):=do
 let v <- elem' x i
 if (i+1+1 == x.size)=true then pure (.done (some (o.push v ++ y.extract j y.size ++ x.extract (i+1) x.size),o.push v,i+1,j,mg,p,q))
 else if (decide (p < 7) && decide (q < 7))=true then pure (.done (none,o.push v,i+1,j,mg,p,q)) else pure (.yield (none,o.push v,i+1,j,mg,p,q))
def rH (x y o:Array Keyed) (i j mg p q:Nat):StateT SortSt Sem (ForInStep LS):=do
 let v <- elem' y j
 if (j+1 == y.size)=true then pure (.done (some (o.push v ++ x.extract i x.size ++ y.extract (j+1) y.size),o.push v,i,j+1,mg,p,q)) else do
  let u <- elem' x i
  match <- k9 true u y (j+1) (y.size - (j+1)) 0 with
  | some k=>
   if k > 0 then
    if (j+1+k == y.size)=true then pure (.done (some (o.push v ++ y.extract (j+1) (j+1+k) ++ x.extract i x.size ++ y.extract (j+1+k) y.size),o.push v ++ y.extract (j+1) (j+1+k),i,j+1+k,mg,p,k))
    else rG x y (o.push v ++ y.extract (j+1) (j+1+k)) i (j+1+k) mg p k
   else rG x y (o.push v) i (j+1) mg p k
  | _=>pure (.done (some (o.push v ++ x.extract i x.size ++ y.extract (j+1) y.size),o.push v,i,j+1,mg,p,q))
def rJ (x y o:Array Keyed) (i j mg p q:Nat):StateT SortSt Sem (ForInStep LS):=do
 mJ mg
 let v <- elem' y j
 match <- k9 false v x i (x.size - i) 0 with
 | some k=>
  if k > 0 then
   if (i+k+1 == x.size)=true then pure (.done (some (o ++ x.extract i (i+k) ++ y.extract j y.size ++ x.extract (i+k) x.size),o ++ x.extract i (i+k),i+k,j,mg,k,q))
   else if (i+k == x.size)=true then pure (.done (some (o ++ x.extract i (i+k) ++ x.extract (i+k) x.size ++ y.extract j y.size),o ++ x.extract i (i+k),i+k,j,mg,k,q))
   else rH x y (o ++ x.extract i (i+k)) (i+k) j mg k q
  else rH x y o i j mg k q
 | _=>pure (.done (some (o ++ x.extract i x.size ++ y.extract j y.size),o,i,j,mg,p,q))
def wO (x y o:Array Keyed) (i j mg p q:Nat):StateT SortSt Sem LS:=forIn [0:x.size+y.size] ((none,o,i,j,mg,p,q):LS) fun _ r=>
 if r.2.2.2.2.1 > 1 then rJ x y r.2.1 r.2.2.1 r.2.2.2.1 (r.2.2.2.2.1 - 1) r.2.2.2.2.2.1 r.2.2.2.2.2.2 else rJ x y r.2.1 r.2.2.1 r.2.2.2.1 r.2.2.2.2.1 r.2.2.2.2.2.1 r.2.2.2.2.2.2
def wP (x y o:Array Keyed) (i j mg:Nat):StateT SortSt Sem wN:=forIn [0:x.size+y.size] ((none,o,i,j,0,0):wN) fun _ r=>do
 let v <- elem' y r.2.2.2.1
 let u <- elem' x r.2.2.1
 match <- lt' v u with
 | some q=>
  if q=true then do
   let v <- elem' y r.2.2.2.1
   if (r.2.2.2.1+1 == y.size)=true then pure (.done (some (r.2.1.push v ++ x.extract r.2.2.1 x.size ++ y.extract (r.2.2.2.1+1) y.size),r.2.1.push v,r.2.2.1,r.2.2.2.1+1,0,r.2.2.2.2.2+1))
   else if r.2.2.2.2.2+1 >= mg then pure (.done (none,r.2.1.push v,r.2.2.1,r.2.2.2.1+1,0,r.2.2.2.2.2+1)) else pure (.yield (none,r.2.1.push v,r.2.2.1,r.2.2.2.1+1,0,r.2.2.2.2.2+1))
  else do
   let u <- elem' x r.2.2.1
   if (r.2.2.1+1+1 == x.size)=true then pure (.done (some (r.2.1.push u ++ y.extract r.2.2.2.1 y.size ++ x.extract (r.2.2.1+1) x.size),r.2.1.push u,r.2.2.1+1,r.2.2.2.1,r.2.2.2.2.1+1,0))
   else if r.2.2.2.2.1+1 >= mg then pure (.done (none,r.2.1.push u,r.2.2.1+1,r.2.2.2.1,r.2.2.2.2.1+1,0)) else pure (.yield (none,r.2.1.push u,r.2.2.1+1,r.2.2.2.1,r.2.2.2.2.1+1,0))
 | _=>pure (.done (some (r.2.1 ++ x.extract r.2.2.1 x.size ++ y.extract r.2.2.2.1 y.size),r.2.1,r.2.2.1,r.2.2.2.1,r.2.2.2.2.1,r.2.2.2.2.2))
def P0 (x y o:Array Keyed) (i j mg:Nat):StateT SortSt Sem LO:=forIn [0:x.size+y.size] ((none,o,i,j,mg):LO) fun _ r=>do
 let u <- wP x y r.2.1 r.2.2.1 r.2.2.2.1 r.2.2.2.2
 match u.1 with
 | some z=>pure (.done (some z,u.2.1,u.2.2.1,u.2.2.2.1,r.2.2.2.2))
 | none=>do
  liftM (rule "list.sort.gallop")
  let v <- wO x y u.2.1 u.2.2.1 u.2.2.2.1 (r.2.2.2.2+1) u.2.2.2.2.1 u.2.2.2.2.2
  match v.1 with
  | some z=>pure (.done (some z,v.2.1,v.2.2.1,v.2.2.2.1,v.2.2.2.2.1))
  | none=>do
   mJ (v.2.2.2.2.1+1)
   pure (.yield (none,v.2.1,v.2.2.1,v.2.2.2.1,v.2.2.2.2.1+1))
theorem aE6 (x y:Array Keyed):wM x y=(do
 liftM (rule "list.sort.merge-lo")
 let v <- elem' y 0
 if (1 == y.size)=true then pure (#[v] ++ x.extract 0 x.size ++ y.extract 1 y.size)
 else if (0+1 == x.size)=true then pure (#[v] ++ y.extract 1 y.size ++ x.extract 0 x.size)
 else do
  let z <- get
  let r <- P0 x y #[v] 0 1 (gallopOf z)
  match r.1 with
  | some z=>pure z
  | none=>unsupported "internal:list.sort.merge-bound"):=by kernel_rfl
section
variable (rk : Keyed → Int)
def Sd (l:List Keyed):Prop:=l.Pairwise fun a b=>rk a<=rk b
structure MI (xs ys o:List Keyed) (i j:Nat):Prop where
 pm:o.Perm (xs.take i ++ ys.take j)
 sx:Sd rk (o ++ xs.drop i)
 sy:Sd rk (o ++ ys.drop j)
end
variable {rk : Keyed → Int} {xs ys o : List Keyed} {i j : Nat}
theorem Sd.ins {o a b d:List Keyed} (h1:Sd rk (o ++ a)) (h2:Sd rk (o ++ (b ++ d))) (h:∀ u ∈ b,∀ t ∈ a,rk u<=rk t):Sd rk ((o ++ b) ++ a):=by
 unfold Sd at *
 rw [bj5]
 obtain ⟨p1,p2,p3⟩:=bm1.mp h1
 obtain ⟨q1,q2,q3⟩:=bm1.mp h2
 obtain ⟨r1,r2,r3⟩:=bm1.mp q2
 refine bm1.mpr ⟨p1,bm1.mpr ⟨r1,p2,h⟩,fun u hu t ht=>?_⟩
 rcases bk0.mp ht with z | z
 ·exact q3 u hu t (bp3 _ z)
 ·exact p3 u hu t z
theorem MI.ofy (m:MI rk xs ys o i j) (k:Nat) (h:∀ u ∈ (ys.drop j).take k,∀ t ∈ xs.drop i,rk u<=rk t):MI rk xs ys (o ++ (ys.drop j).take k) i (j+k):=by
 have e:(ys.drop j).take k ++ ys.drop (j+k)=ys.drop j:=by rw [<- List.drop_drop]; exact bl2 k _
 refine⟨?_,Sd.ins m.sx (d:=ys.drop (j+k)) (by rw [e]; exact m.sy) h,by rw [bj5,e]; exact m.sy⟩
 rw [List.take_add,<- bj5]
 exact m.pm.append_right _
theorem MI.ofx (m:MI rk xs ys o i j) (k:Nat) (h:∀ u ∈ (xs.drop i).take k,∀ t ∈ ys.drop j,rk u<=rk t):MI rk xs ys (o ++ (xs.drop i).take k) (i+k) j:=by
 have e:(xs.drop i).take k ++ xs.drop (i+k)=xs.drop i:=by rw [<- List.drop_drop]; exact bl2 k _
 refine⟨?_,by rw [bj5,e]; exact m.sx,Sd.ins m.sy (d:=xs.drop (i+k)) (by rw [e]; exact m.sx) h⟩
 rw [List.take_add]
 refine (m.pm.append_right _).trans ?_
 rw [bj5,bj5]
 exact (List.perm_append_comm).append_left _
theorem MI.fin (m:MI rk xs ys o i j) (h:xs.length<=i ∨ ys.length<=j):(o ++ xs.drop i ++ ys.drop j).Perm (xs ++ ys)/\Sd rk (o ++ xs.drop i ++ ys.drop j):=by
 refine⟨?_,?_⟩
 ·rw [bj5]
  refine (m.pm.append_right _).trans ?_
  have e1:xs=xs.take i ++ xs.drop i:=(bl2 i xs).symm
  have e2:ys=ys.take j ++ ys.drop j:=(bl2 j ys).symm
  conv=>rhs; rw [e1,e2]
  rw [bj5,bj5]
  refine List.Perm.append_left _ ?_
  rw [<- bj5,<- bj5]
  exact (List.perm_append_comm).append_right _
 ·rcases h with h | h
  ·rw [List.drop_eq_nil_of_le h,bk1]; exact m.sy
  ·rw [List.drop_eq_nil_of_le h,bk1]; exact m.sx
theorem MI.lst (m:MI rk xs ys o i j) (h:∀ u ∈ ys,∀ t ∈ xs.drop i,rk u<=rk t):(o ++ ys.drop j ++ xs.drop i).Perm (xs ++ ys)/\Sd rk (o ++ ys.drop j ++ xs.drop i):=by
 have m2:=m.ofy ys.length fun u hu t ht=>h u (bw7 (bw8 hu)) t ht
 have e:(ys.drop j).take ys.length=ys.drop j:=bm0 (by simp)
 rw [e] at m2
 have f:=m2.fin (.inr (by omega))
 rw [List.drop_eq_nil_of_le (as:=ys) (i:=j+ys.length) (by omega),bk1] at f
 exact f
theorem P3 {x:Array Keyed}{i k:Nat}{u:Keyed} (h:u ∈ (x.toList.drop i).take k):∃ t,t < k/\i+t < x.size/\rk u=Kr rk x (i+t):=by
 obtain ⟨t,ht,e⟩:=bq6 h
 have h1:t < k/\i+t < x.size:=by simp at ht; omega
 refine⟨t,h1.1,h1.2,?_⟩
 rw [c8 h1.2,<- e]
 simp
theorem oW {x:Array Keyed}{i:Nat}{u:Keyed} (h:u ∈ x.toList.drop i):∃ t,i+t < x.size/\rk u=Kr rk x (i+t):=by
 obtain ⟨t,ht,e⟩:=bq6 h
 have h1:i+t < x.size:=by simp at ht; omega
 refine⟨t,h1,?_⟩
 rw [c8 h1,<- e]
 simp
theorem Sd.up {x:Array Keyed} (h:Sd rk x.toList) (lo hi:Nat) (hh:hi<=x.size):Up rk x lo hi:=fun i j _ hij hj=>by
 rw [c8 (by omega:i < x.size),c8 (by omega:j < x.size)]
 rcases bv6 hij with z | z
 ·subst z; exact bs0 _
 ·have:=bm5.mp h i j (by simp; omega) (by simp; omega) z
  simpa using this
theorem P4 (x:Array Keyed) (i k:Nat):(x.extract i (i+k)).toList=(x.toList.drop i).take k:=by
 simp [List.extract]
theorem rK (x:Array Keyed) (i:Nat):(x.extract i x.size).toList=x.toList.drop i:=by
 simp [List.extract]
 exact bm0 (by simp)
theorem lH {x:Array Keyed}{i:Nat} (h:i < x.size) : [x[i]]=(x.toList.drop i).take 1:=by
 rw [bs4 (by simpa using h)]; simp
structure Gq (st st':SortSt):Prop where
 kd:kindOf st'=kindOf st
 ar:arrOf st'=arrOf st
 pd:pendingOf st'=pendingOf st
 ok:failedOf st'=failedOf st
theorem Gq.refl (st:SortSt):Gq st st:=⟨rfl,rfl,rfl,rfl⟩
section
variable {κ : SortKind} {st : SortSt} {prog : Program} {w : World} {A : Around} {E : Value → Shared → Prop} {s : Shared} {Ok : Keyed → Prop}
theorem rL {st0:SortSt}{g:Nat}{Q:Unit->SortSt->Prop} (q:Gq st0 st) (h:∀ st',Gq st0 st'->Q () st'):wpS (model prog w) A E s (mJ g) Q st:=by
 rw [aE5]; exact wpS_modify (h _ ⟨q.kd,q.ar,q.pd,q.ok⟩)
def dP (rk:Keyed->Int) (x y r:Array Keyed):Prop:=r.toList.Perm (x.toList ++ y.toList)/\Sd rk r.toList
theorem MI.y1 {x y o:Array Keyed} (m:MI rk x.toList y.toList o.toList i j) (hj:j < y.size) (h:∀ t,i+t < x.size->rk y[j]<=Kr rk x (i+t)):MI rk x.toList y.toList (o.push y[j]).toList i (j+1):=by
 have:=m.ofy 1 fun u hu t ht=>?_
 ·rw [<- lH hj] at this; simpa using this
 ·rw [<- lH hj,bh8] at hu
  subst hu
  obtain ⟨q,q1,q2⟩:=oW (rk:=rk) ht
  rw [q2]; exact h q q1
theorem MI.x1 {x y o:Array Keyed} (m:MI rk x.toList y.toList o.toList i j) (hi:i < x.size) (h:∀ t,j+t < y.size->rk x[i]<=Kr rk y (j+t)):MI rk x.toList y.toList (o.push x[i]).toList (i+1) j:=by
 have:=m.ofx 1 fun u hu t ht=>?_
 ·rw [<- lH hi] at this; simpa using this
 ·rw [<- lH hi,bh8] at hu
  subst hu
  obtain ⟨q,q1,q2⟩:=oW (rk:=rk) ht
  rw [q2]; exact h q q1
theorem MI.yk {x y o:Array Keyed} (m:MI rk x.toList y.toList o.toList i j) (k:Nat) (h:∀ p t,p < k->j+p < y.size->i+t < x.size->Kr rk y (j+p)<=Kr rk x (i+t)):MI rk x.toList y.toList (o ++ y.extract j (j+k)).toList i (j+k):=by
 have:=m.ofy k fun u hu t ht=>?_
 ·rw [<- P4] at this; rw [bo6]; exact this
 ·obtain ⟨p,p1,p2,p3⟩:=P3 (rk:=rk) hu
  obtain ⟨q,q1,q2⟩:=oW (rk:=rk) ht
  rw [q2,p3]; exact h p q p1 p2 q1
theorem MI.xk {x y o:Array Keyed} (m:MI rk x.toList y.toList o.toList i j) (k:Nat) (h:∀ p t,p < k->i+p < x.size->j+t < y.size->Kr rk x (i+p)<=Kr rk y (j+t)):MI rk x.toList y.toList (o ++ x.extract i (i+k)).toList (i+k) j:=by
 have:=m.ofx k fun u hu t ht=>?_
 ·rw [<- P4] at this; rw [bo6]; exact this
 ·obtain ⟨p,p1,p2,p3⟩:=P3 (rk:=rk) hu
  obtain ⟨q,q1,q2⟩:=oW (rk:=rk) ht
  rw [q2,p3]; exact h p q p1 p2 q1
theorem mK {key:Keyed}{xs:Array Keyed}{bs i:Nat}:bW rk false key xs bs i=decide (Kr rk xs (bs+i)<=rk key):=rfl
theorem mL {key:Keyed}{xs:Array Keyed}{bs i:Nat}:bW rk true key xs bs i=decide (Kr rk xs (bs+i) < rk key):=rfl
def GI (rk:Keyed->Int) (x y:Array Keyed) (lb:Nat) (st:SortSt) (c:LS) (st':SortSt):Prop:=Gq st st'/\∃ o i j mg p q,c=(none,o,i,j,mg,p,q)/\MI rk x.toList y.toList o.toList i j/\i+1 < x.size/\j < y.size/\lb<=i+j
def GQ (rk:Keyed->Int) (x y:Array Keyed) (lb:Nat) (st:SortSt) (c:LS) (st':SortSt):Prop:=Gq st st'/\((∃ r o i j mg p q,c=(some r,o,i,j,mg,p,q)/\dP rk x y r) ∨ ∃ o i j mg p q,c=(none,o,i,j,mg,p,q)/\MI rk x.toList y.toList o.toList i j/\i+1 < x.size/\j < y.size/\lb<=i+j)
def GR (rk:Keyed->Int) (x y:Array Keyed) (lb:Nat) (st:SortSt) (r:ForInStep LS) (st':SortSt):Prop:=match r with | .done c=>GQ rk x y lb st c st' | .yield c=>GI rk x y lb st c st'
theorem MI.done {x y o:Array Keyed} (m:MI rk x.toList y.toList o.toList i j) (hh:x.size<=i ∨ y.size<=j):dP rk x y (o ++ x.extract i x.size ++ y.extract j y.size):=by
 unfold dP
 rw [bo6,bo6,rK,rK]
 exact m.fin (by simpa using hh)
theorem MI.last {x y o:Array Keyed} (m:MI rk x.toList y.toList o.toList i j) (x0:0 < x.size) (hl:∀ u ∈ y.toList,rk u<=rk x[x.size - 1]) (hh:i+1=x.size):dP rk x y (o ++ y.extract j y.size ++ x.extract i x.size):=by
 unfold dP
 rw [bo6,bo6,rK,rK]
 refine m.lst fun u hu t ht=>?_
 obtain ⟨q,q1,q2⟩:=oW (rk:=rk) ht
 have e:i+q=x.size - 1:=by omega
 rw [q2,e,c8 (by omega)]
 exact hl u hu
theorem P5 {st0:SortSt}{x y o:Array Keyed}{mg p q lb:Nat} (x0:0 < x.size) (hl:∀ u ∈ y.toList,rk u<=rk x[x.size - 1]) (g:Gq st0 st) (m:MI rk x.toList y.toList o.toList i j) (hi:i+1 < x.size) (hj:j < y.size) (hb:lb<=i+j)
  (hm:∀ t,j+t < y.size->rk x[i]<=Kr rk y (j+t)):wpS (model prog w) A E s (rG x y o i j mg p q) (GR rk x y lb st0) st:=by
 unfold rG
 have hi':i < x.size:=by omega
 have m':=m.x1 hi' hm
 refine bh6 (cU hi' ?_)
 by_cases he:(i+1+1 == x.size)=true
 ·rw [if_pos he]
  have he:i+1+1=x.size:=by simpa using he
  exact bi8 ⟨g,.inl ⟨_,_,_,_,_,_,_,rfl,m'.last x0 hl he⟩⟩
 ·rw [if_neg he]
  have he:i+1+1 ≠ x.size:=by simpa using he
  split
  ·exact bi8 ⟨g,.inr ⟨_,_,_,_,_,_,rfl,m',by omega,hj,by omega⟩⟩
  ·exact bi8 ⟨g,_,_,_,_,_,_,rfl,m',by omega,hj,by omega⟩
theorem P6 (c:cF prog w A E s κ Ok rk) {st0:SortSt} (hk:kindOf st0=κ) {x y o:Array Keyed}{mg p q lb:Nat} (ox:bM Ok x) (oy:bM Ok y) (sx:Sd rk x.toList) (sy:Sd rk y.toList) (x0:0 < x.size) (hl:∀ u ∈ y.toList,rk u<=rk x[x.size - 1]) (g:Gq st0 st) (m:MI rk x.toList y.toList o.toList i j) (hi:i+1 < x.size) (hj:j < y.size) (hb:lb<=i+j)
  (hm:∀ t,i+t < x.size->rk y[j]<=Kr rk x (i+t)):wpS (model prog w) A E s (rH x y o i j mg p q) (GR rk x y lb st0) st:=by
 unfold rH
 have hi':i < x.size:=by omega
 have m':=m.y1 hj hm
 refine bh6 (cU hj ?_)
 by_cases he:(j+1 == y.size)=true
 ·rw [if_pos he]
  have he:j+1=y.size:=by simpa using he
  exact bi8 ⟨g,.inl ⟨_,_,_,_,_,_,_,rfl,m'.done (.inr (by omega))⟩⟩
 ·rw [if_neg he]
  have he:j+1 ≠ y.size:=by simpa using he
  refine bh6 (cU hi' (bh6 (mI c (g.kd.trans hk) (ox _ (bm3 hi')) oy (by omega) (by omega) (sy.up _ _ (by omega)) fun k k1 k2 k3=>?_)))
  dsimp only
  have ux:=sx.up 0 _ (bh0 x.size)
  have mk:=m'.yk k fun p t hp _ ht=>by
   have a1:=k2 p hp
   rw [mL,bi5] at a1
   have a2:=ux i (i+t) (by omega) (by omega) ht
   rw [c8 hi'] at a2
   omega
  have km:∀ t,j+1+k+t < y.size->rk x[i]<=Kr rk y (j+1+k+t):=fun t ht=>by
   have a1:=k3 (k+t) (by omega) (by omega)
   rw [mL,br6,<- Nat.add_assoc] at a1
   omega
  by_cases hk0:k > 0
  ·rw [if_pos hk0]
   by_cases hf:(j+1+k == y.size)=true
   ·rw [if_pos hf]
    have hf:j+1+k=y.size:=by simpa using hf
    exact bi8 ⟨g,.inl ⟨_,_,_,_,_,_,_,rfl,mk.done (.inr (by omega))⟩⟩
   ·rw [if_neg hf]
    have hf:j+1+k ≠ y.size:=by simpa using hf
    exact P5 x0 hl g mk hi (by omega) (by omega) km
  ·rw [if_neg hk0]
   have e0:k=0:=by omega
   subst e0
   exact P5 x0 hl g m' hi (by omega) (by omega) km
theorem P7 (c:cF prog w A E s κ Ok rk) {st0:SortSt} (hk:kindOf st0=κ) {x y o:Array Keyed}{mg p q lb:Nat} (ox:bM Ok x) (oy:bM Ok y) (sx:Sd rk x.toList) (sy:Sd rk y.toList) (x0:0 < x.size) (hl:∀ u ∈ y.toList,rk u<=rk x[x.size - 1]) (g:Gq st0 st) (m:MI rk x.toList y.toList o.toList i j) (hi:i+1 < x.size) (hj:j < y.size) (hb:lb<=i+j) :
  wpS (model prog w) A E s (rJ x y o i j mg p q) (GR rk x y lb st0) st:=by
 unfold rJ
 refine bh6 (rL g fun st4 q4=>bh6 (cU hj (bh6 (mI c (q4.kd.trans hk) (oy _ (bm3 hj)) ox (by omega) (by omega) (sx.up _ _ (by omega)) fun k k1 k2 k3=>?_))))
 dsimp only
 have uy:=sy.up 0 _ (bh0 y.size)
 have mk:=m.xk k fun p t hp _ ht=>by
  have a1:=k2 p hp
  rw [mK,bi5] at a1
  have a2:=uy j (j+t) (by omega) (by omega) ht
  rw [c8 hj] at a2
  omega
 have km:∀ t,i+k+t < x.size->rk y[j]<=Kr rk x (i+k+t):=fun t ht=>by
  have a1:=k3 (k+t) (by omega) (by omega)
  rw [mK,br6,<- Nat.add_assoc] at a1
  omega
 by_cases hk0:k > 0
 ·rw [if_pos hk0]
  by_cases he:(i+k+1 == x.size)=true
  ·rw [if_pos he]
   exact bi8 ⟨q4,.inl ⟨_,_,_,_,_,_,_,rfl,mk.last x0 hl (by simpa using he)⟩⟩
  ·rw [if_neg he]
   have he:i+k+1 ≠ x.size:=by simpa using he
   by_cases hf:(i+k == x.size)=true
   ·rw [if_pos hf]
    have hf:i+k=x.size:=by simpa using hf
    exact bi8 ⟨q4,.inl ⟨_,_,_,_,_,_,_,rfl,mk.done (.inl (by omega))⟩⟩
   ·rw [if_neg hf]
    have hf:i+k ≠ x.size:=by simpa using hf
    exact P6 c hk ox oy sx sy x0 hl q4 mk (by omega) hj (by omega) km
 ·rw [if_neg hk0]
  have e0:k=0:=by omega
  subst e0
  exact P6 c hk ox oy sx sy x0 hl q4 m hi hj hb km
theorem aE7 (c:cF prog w A E s κ Ok rk) {st0:SortSt} (hk:kindOf st0=κ) {x y o:Array Keyed}{mg p q lb:Nat} (ox:bM Ok x) (oy:bM Ok y) (sx:Sd rk x.toList) (sy:Sd rk y.toList) (x0:0 < x.size) (hl:∀ u ∈ y.toList,rk u<=rk x[x.size - 1]) (g:Gq st0 st) (m:MI rk x.toList y.toList o.toList i j) (hi:i+1 < x.size) (hj:j < y.size) (hb:lb<=i+j) :
  wpS (model prog w) A E s (wO x y o i j mg p q) (GQ rk x y lb st0) st:=by
 unfold wO
 refine bp7 (I:=fun _=>GI rk x y lb st0) ?_ ?_ ⟨g,o,i,j,_,p,q,rfl,m,hi,hj,hb⟩
 ·rintro t c3 st3 _ _ ⟨q3,o,i,j,mg,p,q,rfl,m,hi,hj,pr3⟩
  dsimp only
  split
  ·exact bw6 (P7 c hk ox oy sx sy x0 hl q3 m hi hj pr3) fun r _ hr=>by cases r <;> exact hr
  ·exact bw6 (P7 c hk ox oy sx sy x0 hl q3 m hi hj pr3) fun r _ hr=>by cases r <;> exact hr
 ·rintro c3 st3 ⟨q3,o,i,j,mg,p,q,rfl,m,hi,hj,pr3⟩
  exact⟨q3,.inr ⟨_,_,_,_,_,_,rfl,m,hi,hj,pr3⟩⟩
theorem aE8 (c:cF prog w A E s κ Ok rk) {st0:SortSt} (hk:kindOf st0=κ) {x y o:Array Keyed}{mg:Nat}{Q:wN->SortSt->Prop} (ox:bM Ok x) (oy:bM Ok y) (sx:Sd rk x.toList) (sy:Sd rk y.toList) (x0:0 < x.size) (hl:∀ u ∈ y.toList,rk u<=rk x[x.size - 1]) (g:Gq st0 st) (m:MI rk x.toList y.toList o.toList i j) (hi:i+1 < x.size) (hj:j < y.size)
  (h1:∀ r o' i' j' p q st',Gq st0 st'->dP rk x y r->Q (some r,o',i',j',p,q) st')
  (h2:∀ o' i' j' p q st',Gq st0 st'->MI rk x.toList y.toList o'.toList i' j'->i'+1 < x.size->j' < y.size->i+j+1<=i'+j'->Q (none,o',i',j',p,q) st') :
  wpS (model prog w) A E s (wP x y o i j mg) Q st:=by
 have ux:Up rk x 0 x.size:=sx.up 0 _ (bh0 _)
 have uy:Up rk y 0 y.size:=sy.up 0 _ (bh0 _)
 unfold wP
 refine bp7 (I:=fun t c st'=>Gq st0 st'/\∃ o i' j' p q,c=(none,o,i',j',p,q)/\MI rk x.toList y.toList o.toList i' j'/\i'+1 < x.size/\j' < y.size/\i+j+t<=i'+j') ?_ ?_ ⟨g,o,i,j,0,0,rfl,m,hi,hj,by omega⟩
 ·rintro t c2 st2 _ ht ⟨q2,o,i',j',p,q,rfl,m,hi,hj,pr2⟩
  dsimp only
  have hi':i' < x.size:=by omega
  refine bh6 (cU hj (bh6 (cU hi' (bh6 (c _ _ (oy _ (bm3 hj)) (ox _ (bm3 hi')) st2 _ (q2.kd.trans hk) ?_)))))
  by_cases hc:rk y[j'] < rk x[i']
  ·rw [bh3 hc]
   dsimp only
   rw [if_pos rfl]
   have m':=m.y1 hj fun t ht=>by
    have:=ux i' (i'+t) (by omega) (by omega) ht
    rw [c8 hi'] at this
    omega
   refine bh6 (cU hj ?_)
   by_cases he:(j'+1 == y.size)=true
   ·rw [if_pos he]
    have he:j'+1=y.size:=by simpa using he
    exact bi8 (h1 _ _ _ _ _ _ _ q2 (m'.done (.inr (by omega))))
   ·rw [if_neg he]
    have he:j'+1 ≠ y.size:=by simpa using he
    split
    ·exact bi8 (h2 _ _ _ _ _ _ q2 m' hi (by omega) (by omega))
    ·exact bi8 ⟨q2,_,_,_,_,_,rfl,m',hi,by omega,by omega⟩
  ·rw [bh2 hc]
   dsimp only
   rw [if_neg bi6]
   have m':=m.x1 hi' fun t ht=>by
    have:=uy j' (j'+t) (by omega) (by omega) ht
    rw [c8 hj] at this
    omega
   refine bh6 (cU hi' ?_)
   by_cases he:(i'+1+1 == x.size)=true
   ·rw [if_pos he]
    exact bi8 (h1 _ _ _ _ _ _ _ q2 (m'.last x0 hl (by simpa using he)))
   ·rw [if_neg he]
    have he:i'+1+1 ≠ x.size:=by simpa using he
    split
    ·exact bi8 (h2 _ _ _ _ _ _ q2 m' (by omega) hj (by omega))
    ·exact bi8 ⟨q2,_,_,_,_,_,rfl,m',by omega,hj,by omega⟩
 ·rintro c2 st2 ⟨q2,o,i',j',p,q,rfl,m,hi,hj,pr2⟩
  exact h2 _ _ _ _ _ _ q2 m hi hj (by omega)
theorem aE9 (c:cF prog w A E s κ Ok rk) (hk:kindOf st=κ) {x y:Array Keyed}{Q:Array Keyed->SortSt->Prop} (ox:bM Ok x) (oy:bM Ok y) (sx:Sd rk x.toList) (sy:Sd rk y.toList) (x0:0 < x.size) (y0:0 < y.size)
  (hf:∀ t ∈ x.toList,rk y[0]<=rk t) (hl:∀ u ∈ y.toList,rk u<=rk x[x.size - 1])
  (h:∀ r st',Gq st st'->dP rk x y r->Q r st'):wpS (model prog w) A E s (wM x y) Q st:=by
 rw [aE6]
 refine bh6 (wpS_lift (bu6 ⟨rfl,bh6 (cU y0 ?_)⟩))
 have m0:MI rk x.toList y.toList (#[y[0]]:Array Keyed).toList 0 1:=by
  have mm:MI rk x.toList y.toList [] 0 0:=⟨by simp,sx,sy⟩
  have:=mm.ofy 1 fun u hu t ht=>?_
  ·rw [<- lH y0] at this; exact this
  ·rw [<- lH y0,bh8] at hu
   subst hu
   exact hf t ht
 by_cases e1:(1 == y.size)=true
 ·rw [if_pos e1]
  have e1:1=y.size:=by simpa using e1
  exact bi8 (h _ st (Gq.refl st) (m0.done (.inr (by omega))))
 ·rw [if_neg e1]
  have e1:1 ≠ y.size:=by simpa using e1
  by_cases e2:(0+1 == x.size)=true
  ·rw [if_pos e2]
   exact bi8 (h _ st (Gq.refl st) (m0.last x0 hl (by simpa using e2)))
  ·rw [if_neg e2]
   have e2:0+1 ≠ x.size:=by simpa using e2
   refine bh6 (wpS_get ?_)
   unfold P0
   refine bh6 (bw6 (bp7
    (I:=fun n c st'=>Gq st st'/\∃ o i j mg,c=(none,o,i,j,mg)/\MI rk x.toList y.toList o.toList i j/\i+1 < x.size/\j < y.size/\n+1<=i+j)
    (Q:=fun c st'=>Gq st st'/\∃ r o i j mg,c=(some r,o,i,j,mg)/\dP rk x y r) ?_ ?_ ⟨Gq.refl st,_,0,1,_,rfl,m0,by omega,by omega,by omega⟩) ?_)
   ·rintro n c1 st1 _ hn ⟨q1,o,i,j,mg,rfl,m,hi,hj,pr⟩
    dsimp only
    refine bh6 (aE8 c hk ox oy sx sy x0 hl q1 m hi hj (fun r o' i' j' p q st' g md=>bi8 ⟨g,r,_,_,_,_,rfl,md⟩) fun o' i' j' p q st' g m' hi' hj' pr'=>?_)
    refine bh6 (wpS_lift (bu6 ⟨rfl,?_⟩))
    refine bh6 (bw6 (aE7 c hk ox oy sx sy x0 hl g m' hi' hj' pr') ?_)
    rintro c3 st3 ⟨q3,⟨r,o,i3,j3,mg,p,q,rfl,md⟩ | ⟨o,i3,j3,mg,p,q,rfl,m,hi,hj,pr3⟩⟩
    ·exact bi8 ⟨q3,r,_,_,_,_,rfl,md⟩
    ·exact bh6 (rL q3 fun st4 q4=>bi8 ⟨q4,o,i3,j3,_,rfl,m,hi,hj,by omega⟩)
   ·rintro c1 st1 ⟨q1,o,i,j,mg,rfl,m,hi,hj,pr⟩
    exact absurd pr (by omega)
   ·rintro c1 st1 ⟨q1,r,o,i,j,mg,rfl,md⟩
    exact bi8 (h r _ q1 md)
end
def wQ:Array Keyed->Array Keyed->StateT SortSt Sem (Array Keyed):=sortPriv% PySem.Builtin.mergeHi
abbrev LH:=Option (Array Keyed) × Nat × Nat × Array Keyed × Nat × Nat × Nat
abbrev wR:=Option (Array Keyed) × Nat × Nat × Array Keyed × Nat × Nat
abbrev LP:=Option (Array Keyed) × Nat × Nat × Array Keyed × Nat
def rM (x y o:Array Keyed) (i j mg p q:Nat):StateT SortSt Sem (ForInStep LH):=do
 let v <- elem' x (i - 1)
 if (i - 1 == 0)=true then pure (.done (some (x.extract 0 (i - 1) ++ y.extract 0 j ++ (o.push v).reverse),i - 1,j,o.push v,mg,p,q))
 else if (decide (p < 7) && decide (q < 7))=true then pure (.done (none,i - 1,j,o.push v,mg,p,q)) else pure (.yield (none,i - 1,j,o.push v,mg,p,q))
def rN (x y o:Array Keyed) (i j mg p q:Nat):StateT SortSt Sem (ForInStep LH):=do
 let v <- elem' y (j - 1)
 if (j - 1 == 1)=true then pure (.done (some (y.extract 0 (j - 1) ++ x.extract 0 i ++ (o.push v).reverse),i,j - 1,o.push v,mg,p,q)) else do
  let u <- elem' x (i - 1)
  match <- k9 true u y 0 (j - 1) (j - 1 - 1) with
  | some z=>
   if j - 1 - z > 0 then
    if (z == 1)=true then pure (.done (some (y.extract 0 z ++ x.extract 0 i ++ (o.push v ++ (y.extract z (j - 1)).reverse).reverse),i,z,o.push v ++ (y.extract z (j - 1)).reverse,mg,p,j - 1 - z))
    else if (z == 0)=true then pure (.done (some (x.extract 0 i ++ y.extract 0 z ++ (o.push v ++ (y.extract z (j - 1)).reverse).reverse),i,z,o.push v ++ (y.extract z (j - 1)).reverse,mg,p,j - 1 - z))
    else rM x y (o.push v ++ (y.extract z (j - 1)).reverse) i z mg p (j - 1 - z)
   else rM x y (o.push v) i (j - 1) mg p (j - 1 - z)
  | _=>pure (.done (some (x.extract 0 i ++ y.extract 0 (j - 1) ++ (o.push v).reverse),i,j - 1,o.push v,mg,p,q))
def rO (x y o:Array Keyed) (i j mg p q:Nat):StateT SortSt Sem (ForInStep LH):=do
 mJ mg
 let v <- elem' y (j - 1)
 match <- k9 false v x 0 i (i - 1) with
 | some z=>
  if i - z > 0 then
   if (z == 0)=true then pure (.done (some (x.extract 0 z ++ y.extract 0 j ++ (o ++ (x.extract z i).reverse).reverse),z,j,o ++ (x.extract z i).reverse,mg,i - z,q))
   else rN x y (o ++ (x.extract z i).reverse) z j mg (i - z) q
  else rN x y o i j mg (i - z) q
 | _=>pure (.done (some (x.extract 0 i ++ y.extract 0 j ++ o.reverse),i,j,o,mg,p,q))
def wS (x y o:Array Keyed) (i j mg p q:Nat):StateT SortSt Sem LH:=forIn [0:x.size+y.size] ((none,i,j,o,mg,p,q):LH) fun _ r=>
 if r.2.2.2.2.1 > 1 then rO x y r.2.2.2.1 r.2.1 r.2.2.1 (r.2.2.2.2.1 - 1) r.2.2.2.2.2.1 r.2.2.2.2.2.2 else rO x y r.2.2.2.1 r.2.1 r.2.2.1 r.2.2.2.2.1 r.2.2.2.2.2.1 r.2.2.2.2.2.2
def wT (x y o:Array Keyed) (i j mg:Nat):StateT SortSt Sem wR:=forIn [0:x.size+y.size] ((none,i,j,o,0,0):wR) fun _ r=>do
 let v <- elem' y (r.2.2.1 - 1)
 let u <- elem' x (r.2.1 - 1)
 match <- lt' v u with
 | some q=>
  if q=true then do
   let u <- elem' x (r.2.1 - 1)
   if (r.2.1 - 1 == 0)=true then pure (.done (some (x.extract 0 (r.2.1 - 1) ++ y.extract 0 r.2.2.1 ++ (r.2.2.2.1.push u).reverse),r.2.1 - 1,r.2.2.1,r.2.2.2.1.push u,r.2.2.2.2.1+1,0))
   else if r.2.2.2.2.1+1 >= mg then pure (.done (none,r.2.1 - 1,r.2.2.1,r.2.2.2.1.push u,r.2.2.2.2.1+1,0)) else pure (.yield (none,r.2.1 - 1,r.2.2.1,r.2.2.2.1.push u,r.2.2.2.2.1+1,0))
  else do
   let v <- elem' y (r.2.2.1 - 1)
   if (r.2.2.1 - 1 == 1)=true then pure (.done (some (y.extract 0 (r.2.2.1 - 1) ++ x.extract 0 r.2.1 ++ (r.2.2.2.1.push v).reverse),r.2.1,r.2.2.1 - 1,r.2.2.2.1.push v,0,r.2.2.2.2.2+1))
   else if r.2.2.2.2.2+1 >= mg then pure (.done (none,r.2.1,r.2.2.1 - 1,r.2.2.2.1.push v,0,r.2.2.2.2.2+1)) else pure (.yield (none,r.2.1,r.2.2.1 - 1,r.2.2.2.1.push v,0,r.2.2.2.2.2+1))
 | _=>pure (.done (some (x.extract 0 r.2.1 ++ y.extract 0 r.2.2.1 ++ r.2.2.2.1.reverse),r.2.1,r.2.2.1,r.2.2.2.1,r.2.2.2.2.1,r.2.2.2.2.2))
def P8 (x y o:Array Keyed) (i j mg:Nat):StateT SortSt Sem LP:=forIn [0:x.size+y.size] ((none,i,j,o,mg):LP) fun _ r=>do
 let u <- wT x y r.2.2.2.1 r.2.1 r.2.2.1 r.2.2.2.2
 match u.1 with
 | some z=>pure (.done (some z,u.2.1,u.2.2.1,u.2.2.2.1,r.2.2.2.2))
 | none=>do
  liftM (rule "list.sort.gallop")
  let v <- wS x y u.2.2.2.1 u.2.1 u.2.2.1 (r.2.2.2.2+1) u.2.2.2.2.1 u.2.2.2.2.2
  match v.1 with
  | some z=>pure (.done (some z,v.2.1,v.2.2.1,v.2.2.2.1,v.2.2.2.2.1))
  | none=>do
   mJ (v.2.2.2.2.1+1)
   pure (.yield (none,v.2.1,v.2.2.1,v.2.2.2.1,v.2.2.2.2.1+1))
theorem aF0 (x y:Array Keyed):wQ x y=(do
 liftM (rule "list.sort.merge-hi")
 let v <- elem' x (x.size - 1)
 if (x.size - 1 == 0)=true then pure (x.extract 0 (x.size - 1) ++ y.extract 0 y.size ++ (#[v]:Array Keyed).reverse)
 else if (y.size == 1)=true then pure (y.extract 0 y.size ++ x.extract 0 (x.size - 1) ++ (#[v]:Array Keyed).reverse)
 else do
  let z <- get
  let r <- P8 x y #[v] (x.size - 1) y.size (gallopOf z)
  match r.1 with
  | some z=>pure z
  | none=>unsupported "internal:list.sort.merge-bound"):=by kernel_rfl
structure MH (rk:Keyed->Int) (xs ys o:List Keyed) (i j:Nat):Prop where
 pm:o.Perm (xs.drop i ++ ys.drop j)
 sx:Sd rk (xs.take i ++ o)
 sy:Sd rk (ys.take j ++ o)
variable {rk : Keyed → Int} {xs ys o : List Keyed} {i j : Nat}
theorem Sd.insR {o a b d:List Keyed} (h1:Sd rk (a ++ o)) (h2:Sd rk ((d ++ b) ++ o)) (h:∀ t ∈ a,∀ u ∈ b,rk t<=rk u):Sd rk (a ++ (b ++ o)):=by
 unfold Sd at *
 obtain ⟨p1,p2,p3⟩:=bm1.mp h1
 obtain ⟨q1,q2,q3⟩:=bm1.mp h2
 obtain ⟨r1,r2,r3⟩:=bm1.mp q1
 refine bm1.mpr ⟨p1,bm1.mpr ⟨r2,p2,fun u hu t ht=>q3 u (bk6 _ hu) t ht⟩,fun u hu t ht=>?_⟩
 rcases bk0.mp ht with z | z
 ·exact h u hu t z
 ·exact p3 u hu t z
theorem rP (l:List Keyed) {z j:Nat} (h:z<=j):l.take z ++ (l.take j).drop z=l.take j:=by
 have e:l.take z=(l.take j).take z:=by rw [List.take_take,Nat.min_eq_left h]
 rw [e]; exact bl2 z _
theorem wU (l:List Keyed) {z j:Nat} (h:z<=j):(l.take j).drop z ++ l.drop j=l.drop z:=by
 rw [bx2,show l.drop j=(l.drop z).drop (j - z) by rw [List.drop_drop,Nat.add_sub_cancel' h]]
 exact bl2 _ _
theorem MH.ofy (m:MH rk xs ys o i j) {z:Nat} (hz:z<=j) (h:∀ t ∈ xs.take i,∀ u ∈ (ys.take j).drop z,rk t<=rk u):MH rk xs ys ((ys.take j).drop z ++ o) i z:=by
 refine⟨?_,Sd.insR m.sx (d:=ys.take z) (by rw [rP _ hz]; exact m.sy) h,by rw [<- bj5,rP _ hz]; exact m.sy⟩
 rw [<- wU ys hz]
 refine (m.pm.append_left _).trans ?_
 rw [<- bj5,<- bj5]
 exact (List.perm_append_comm).append_right _
theorem MH.ofx (m:MH rk xs ys o i j) {z:Nat} (hz:z<=i) (h:∀ t ∈ ys.take j,∀ u ∈ (xs.take i).drop z,rk t<=rk u):MH rk xs ys ((xs.take i).drop z ++ o) z j:=by
 refine⟨?_,by rw [<- bj5,rP _ hz]; exact m.sx,Sd.insR m.sy (d:=xs.take z) (by rw [rP _ hz]; exact m.sx) h⟩
 rw [<- wU xs hz,bj5]
 exact m.pm.append_left _
theorem MH.fin (m:MH rk xs ys o i j) (h:i=0 ∨ j=0):(xs.take i ++ ys.take j ++ o).Perm (xs ++ ys)/\Sd rk (xs.take i ++ ys.take j ++ o):=by
 refine⟨?_,?_⟩
 ·have e1:xs=xs.take i ++ xs.drop i:=(bl2 i xs).symm
  have e2:ys=ys.take j ++ ys.drop j:=(bl2 j ys).symm
  conv=>rhs; rw [e1,e2]
  rw [bj5,bj5]
  refine List.Perm.append_left _ ((m.pm.append_left _).trans ?_)
  rw [<- bj5,<- bj5]
  exact (List.perm_append_comm).append_right _
 ·rcases h with h | h
  ·subst h; simpa using m.sy
  ·subst h; simpa using m.sx
theorem MH.fst (m:MH rk xs ys o i j) (h:∀ t ∈ ys.take j,∀ u ∈ xs,rk t<=rk u):(ys.take j ++ xs.take i ++ o).Perm (xs ++ ys)/\Sd rk (ys.take j ++ xs.take i ++ o):=by
 have m2:=m.ofx (bl6 i) fun t ht u hu=>h t ht u (bw8 (bw7 hu))
 have f:=m2.fin (.inl rfl)
 simpa using f
theorem oX {x:Array Keyed}{i:Nat}{u:Keyed} (h:u ∈ x.toList.take i):∃ t,t < i/\t < x.size/\rk u=Kr rk x t:=by
 obtain ⟨t,ht,e⟩:=bq6 h
 have h1:t < i/\t < x.size:=by simp at ht; omega
 refine⟨t,h1.1,h1.2,?_⟩
 rw [c8 h1.2,<- e]
 simp
theorem oY {x:Array Keyed}{z i:Nat}{u:Keyed} (h:u ∈ (x.toList.take i).drop z):∃ t,z<=t/\t < i/\t < x.size/\rk u=Kr rk x t:=by
 obtain ⟨t,ht,e⟩:=bq6 h
 have h1:z+t < i/\z+t < x.size:=by simp at ht; omega
 refine⟨z+t,by omega,h1.1,h1.2,?_⟩
 rw [c8 h1.2,<- e]
 simp
theorem lI (x:Array Keyed) (z i:Nat):(x.extract z i).toList=(x.toList.take i).drop z:=by
 rw [bx2]; simp [List.extract]
theorem rQ (x:Array Keyed) (i:Nat):(x.extract 0 i).toList=x.toList.take i:=by
 simp [List.extract]
theorem oZ {x:Array Keyed}{i:Nat} (h:i < x.size) : [x[i]]=(x.toList.take (i+1)).drop i:=by
 rw [bx2,lH h,show i+1 - i=1 by omega]
section
variable {κ : SortKind} {st : SortSt} {prog : Program} {w : World} {A : Around} {E : Value → Shared → Prop} {s : Shared} {Ok : Keyed → Prop}
theorem MH.y1 {x y o:Array Keyed} (m:MH rk x.toList y.toList o.toList.reverse i (j+1)) (hj:j < y.size) (h:∀ t,t < i->t < x.size->Kr rk x t<=rk y[j]):MH rk x.toList y.toList (o.push y[j]).toList.reverse i j:=by
 have:=m.ofy (Nat.le_succ j) fun t ht u hu=>?_
 ·rw [<- oZ hj] at this; simpa using this
 ·rw [<- oZ hj,bh8] at hu
  subst hu
  obtain ⟨q,q1,q2,q3⟩:=oX (rk:=rk) ht
  rw [q3]; exact h q q1 q2
theorem MH.x1 {x y o:Array Keyed} (m:MH rk x.toList y.toList o.toList.reverse (i+1) j) (hi:i < x.size) (h:∀ t,t < j->t < y.size->Kr rk y t<=rk x[i]):MH rk x.toList y.toList (o.push x[i]).toList.reverse i j:=by
 have:=m.ofx (Nat.le_succ i) fun t ht u hu=>?_
 ·rw [<- oZ hi] at this; simpa using this
 ·rw [<- oZ hi,bh8] at hu
  subst hu
  obtain ⟨q,q1,q2,q3⟩:=oX (rk:=rk) ht
  rw [q3]; exact h q q1 q2
theorem MH.yk {x y o:Array Keyed} (m:MH rk x.toList y.toList o.toList.reverse i j) {z:Nat} (hz:z<=j) (h:∀ t p,t < i->t < x.size->z<=p->p < j->p < y.size->Kr rk x t<=Kr rk y p):MH rk x.toList y.toList (o ++ (y.extract z j).reverse).toList.reverse i z:=by
 have:=m.ofy hz fun t ht u hu=>?_
 ·rw [<- lI] at this; simpa using this
 ·obtain ⟨q,q1,q2,q3⟩:=oX (rk:=rk) ht
  obtain ⟨p,p1,p2,p3,p4⟩:=oY (rk:=rk) hu
  rw [q3,p4]; exact h q p q1 q2 p1 p2 p3
theorem MH.xk {x y o:Array Keyed} (m:MH rk x.toList y.toList o.toList.reverse i j) {z:Nat} (hz:z<=i) (h:∀ t p,t < j->t < y.size->z<=p->p < i->p < x.size->Kr rk y t<=Kr rk x p):MH rk x.toList y.toList (o ++ (x.extract z i).reverse).toList.reverse z j:=by
 have:=m.ofx hz fun t ht u hu=>?_
 ·rw [<- lI] at this; simpa using this
 ·obtain ⟨q,q1,q2,q3⟩:=oX (rk:=rk) ht
  obtain ⟨p,p1,p2,p3,p4⟩:=oY (rk:=rk) hu
  rw [q3,p4]; exact h q p q1 q2 p1 p2 p3
theorem MH.done {x y o:Array Keyed} (m:MH rk x.toList y.toList o.toList.reverse i j) (hh:i=0 ∨ j=0):dP rk x y (x.extract 0 i ++ y.extract 0 j ++ o.reverse):=by
 unfold dP
 rw [bo6,bo6,rQ,rQ,Array.toList_reverse]
 exact m.fin hh
theorem MH.frst {x y o:Array Keyed} (m:MH rk x.toList y.toList o.toList.reverse i j) (y0:0 < y.size) (hf:∀ t ∈ x.toList,rk y[0]<=rk t) (hh:j=1):dP rk x y (y.extract 0 j ++ x.extract 0 i ++ o.reverse):=by
 unfold dP
 rw [bo6,bo6,rQ,rQ,Array.toList_reverse]
 refine m.fst fun t ht u hu=>?_
 subst hh
 obtain ⟨q,q1,q2,q3⟩:=oX (rk:=rk) ht
 have e:q=0:=by omega
 subst e
 rw [q3,c8 y0]
 exact hf u hu
structure HB (rk:Keyed->Int) (x y:Array Keyed) (lb i j:Nat) (o:Array Keyed):Prop where
 m:MH rk x.toList y.toList o.toList.reverse i j
 i0:0 < i
 i1:i < x.size
 j0:1 < j
 j1:j<=y.size
 pr:i+j+lb<=x.size+y.size
def HI (rk:Keyed->Int) (x y:Array Keyed) (lb:Nat) (st:SortSt) (c:LH) (st':SortSt):Prop:=Gq st st'/\∃ i j o mg p q,c=(none,i,j,o,mg,p,q)/\HB rk x y lb i j o
def HQ (rk:Keyed->Int) (x y:Array Keyed) (lb:Nat) (st:SortSt) (c:LH) (st':SortSt):Prop:=Gq st st'/\((∃ r i j o mg p q,c=(some r,i,j,o,mg,p,q)/\dP rk x y r) ∨ ∃ i j o mg p q,c=(none,i,j,o,mg,p,q)/\HB rk x y lb i j o)
def HR (rk:Keyed->Int) (x y:Array Keyed) (lb:Nat) (st:SortSt) (r:ForInStep LH) (st':SortSt):Prop:=match r with | .done c=>HQ rk x y lb st c st' | .yield c=>HI rk x y lb st c st'
theorem P9 {st0:SortSt}{x y o:Array Keyed}{i j mg p q lb:Nat} (g:Gq st0 st) (b:HB rk x y lb (i+1) j o) (hm:∀ (hi:i < x.size) t,t < j->t < y.size->Kr rk y t<=rk x[i]):wpS (model prog w) A E s (rM x y o (i+1) j mg p q) (HR rk x y lb st0) st:=by
 unfold rM
 obtain ⟨m,i0,i1,j0,j1,pr⟩:=b
 have hi':i < x.size:=by omega
 have m':=m.x1 hi' (hm hi')
 simp only [Nat.add_sub_cancel]
 refine bh6 (cU hi' ?_)
 by_cases he:(i == 0)=true
 ·rw [if_pos he]
  have he:i=0:=by simpa using he
  exact bi8 ⟨g,.inl ⟨_,_,_,_,_,_,_,rfl,m'.done (.inl he)⟩⟩
 ·rw [if_neg he]
  have he:i ≠ 0:=by simpa using he
  split
  ·exact bi8 ⟨g,.inr ⟨_,_,_,_,_,_,rfl,m',by omega,by omega,j0,j1,by omega⟩⟩
  ·exact bi8 ⟨g,_,_,_,_,_,_,rfl,m',by omega,by omega,j0,j1,by omega⟩
theorem Q0 (c:cF prog w A E s κ Ok rk) {st0:SortSt} (hk:kindOf st0=κ) {x y o:Array Keyed}{i j mg p q lb:Nat} (ox:bM Ok x) (oy:bM Ok y) (sx:Sd rk x.toList) (sy:Sd rk y.toList) (y0:0 < y.size) (hf:∀ t ∈ x.toList,rk y[0]<=rk t) (g:Gq st0 st) (b:HB rk x y lb (i+1) (j+1) o)
  (hm:∀ (hj:j < y.size) t,t < i+1->t < x.size->Kr rk x t<=rk y[j]):wpS (model prog w) A E s (rN x y o (i+1) (j+1) mg p q) (HR rk x y lb st0) st:=by
 unfold rN
 obtain ⟨m,i0,i1,j0,j1,pr⟩:=b
 have hi':i < x.size:=by omega
 have hj:j < y.size:=by omega
 have m':=m.y1 hj (hm hj)
 simp only [Nat.add_sub_cancel]
 refine bh6 (cU hj ?_)
 by_cases he:(j == 1)=true
 ·rw [if_pos he]
  have he:j=1:=by simpa using he
  exact bi8 ⟨g,.inl ⟨_,_,_,_,_,_,_,rfl,m'.frst y0 hf he⟩⟩
 ·rw [if_neg he]
  have he:j ≠ 1:=by simpa using he
  refine bh6 (cU hi' (bh6 (mI c (g.kd.trans hk) (ox _ (bm3 hi')) oy (by omega) (by omega) (sy.up _ _ (by omega)) fun z k1 k2 k3=>?_)))
  dsimp only
  have ux:=sx.up 0 _ (bh0 x.size)
  have mk:=m'.yk k1 fun t p ht ht' hp hp' _=>by
   have a1:=k3 p hp hp'
   rw [mL,br6,Nat.zero_add] at a1
   have a2:=ux t i (by omega) (by omega) hi'
   rw [c8 (i:=i) hi'] at a2
   omega
  have km:∀ (hi:i < x.size) t,t < z->t < y.size->Kr rk y t<=rk x[i]:=fun _ t ht _=>by
   have a1:=k2 t ht
   rw [mL,bi5,Nat.zero_add] at a1
   omega
  by_cases hk0:j - z > 0
  ·rw [if_pos hk0]
   by_cases h1:(z == 1)=true
   ·rw [if_pos h1]
    have h1:z=1:=by simpa using h1
    exact bi8 ⟨g,.inl ⟨_,_,_,_,_,_,_,rfl,mk.frst y0 hf h1⟩⟩
   ·rw [if_neg h1]
    have h1:z ≠ 1:=by simpa using h1
    by_cases h0:(z == 0)=true
    ·rw [if_pos h0]
     have h0:z=0:=by simpa using h0
     exact bi8 ⟨g,.inl ⟨_,_,_,_,_,_,_,rfl,mk.done (.inr h0)⟩⟩
    ·rw [if_neg h0]
     have h0:z ≠ 0:=by simpa using h0
     exact P9 g ⟨mk,by omega,i1,by omega,by omega,by omega⟩ km
  ·rw [if_neg hk0]
   have e0:z=j:=by omega
   subst e0
   exact P9 g ⟨m',by omega,i1,by omega,by omega,by omega⟩ km
theorem Q2 (c:cF prog w A E s κ Ok rk) {st0:SortSt} (hk:kindOf st0=κ) {x y o:Array Keyed}{i j mg p q lb:Nat} (ox:bM Ok x) (oy:bM Ok y) (sx:Sd rk x.toList) (sy:Sd rk y.toList) (y0:0 < y.size) (hf:∀ t ∈ x.toList,rk y[0]<=rk t) (g:Gq st0 st) (b:HB rk x y lb i (j+1) o) :
  wpS (model prog w) A E s (rO x y o i (j+1) mg p q) (HR rk x y lb st0) st:=by
 unfold rO
 obtain ⟨m,i0,i1,j0,j1,pr⟩:=b
 have hj:j < y.size:=by omega
 simp only [Nat.add_sub_cancel]
 refine bh6 (rL g fun st4 q4=>bh6 (cU hj (bh6 (mI c (q4.kd.trans hk) (oy _ (bm3 hj)) ox (by omega) (by omega) (sx.up _ _ (by omega)) fun z k1 k2 k3=>?_))))
 dsimp only
 have uy:=sy.up 0 _ (bh0 y.size)
 have mk:=m.xk k1 fun t p ht ht' hp hp' _=>by
  have a1:=k3 p hp hp'
  rw [mK,br6,Nat.zero_add] at a1
  have a2:=uy t j (by omega) (by omega) hj
  rw [c8 (i:=j) hj] at a2
  omega
 have km:∀ (hj:j < y.size) t,t < z->t < x.size->Kr rk x t<=rk y[j]:=fun _ t ht _=>by
  have a1:=k2 t ht
  rw [mK,bi5,Nat.zero_add] at a1
  exact a1
 by_cases hk0:i - z > 0
 ·rw [if_pos hk0]
  by_cases he:(z == 0)=true
  ·rw [if_pos he]
   exact bi8 ⟨q4,.inl ⟨_,_,_,_,_,_,_,rfl,mk.done (.inl (by simpa using he))⟩⟩
  ·rw [if_neg he]
   have he:z ≠ 0:=by simpa using he
   obtain ⟨z2,rfl⟩:∃ z2,z=z2+1:=⟨z - 1,by omega⟩
   exact Q0 c hk ox oy sx sy y0 hf q4 ⟨mk,by omega,by omega,j0,j1,by omega⟩ km
 ·rw [if_neg hk0]
  have e0:z=i:=by omega
  subst e0
  obtain ⟨z2,rfl⟩:∃ z2,z=z2+1:=⟨z - 1,by omega⟩
  exact Q0 c hk ox oy sx sy y0 hf q4 ⟨m,i0,i1,j0,j1,pr⟩ km
theorem aF1 (c:cF prog w A E s κ Ok rk) {st0:SortSt} (hk:kindOf st0=κ) {x y o:Array Keyed}{i j mg p q lb:Nat} (ox:bM Ok x) (oy:bM Ok y) (sx:Sd rk x.toList) (sy:Sd rk y.toList) (y0:0 < y.size) (hf:∀ t ∈ x.toList,rk y[0]<=rk t) (g:Gq st0 st) (b:HB rk x y lb i j o) :
  wpS (model prog w) A E s (wS x y o i j mg p q) (HQ rk x y lb st0) st:=by
 unfold wS
 refine bp7 (I:=fun _=>HI rk x y lb st0) ?_ ?_ ⟨g,i,j,o,_,p,q,rfl,b⟩
 ·rintro t c3 st3 _ _ ⟨q3,i,j,o,mg,p,q,rfl,b3⟩
  obtain ⟨j3,rfl⟩:∃ j3,j=j3+1:=⟨j - 1,by have:=b3.j0; omega⟩
  dsimp only
  split
  ·exact bw6 (Q2 c hk ox oy sx sy y0 hf q3 b3) fun r _ hr=>by cases r <;> exact hr
  ·exact bw6 (Q2 c hk ox oy sx sy y0 hf q3 b3) fun r _ hr=>by cases r <;> exact hr
 ·rintro c3 st3 ⟨q3,i,j,o,mg,p,q,rfl,b3⟩
  exact⟨q3,.inr ⟨_,_,_,_,_,_,rfl,b3⟩⟩
theorem aF2 (c:cF prog w A E s κ Ok rk) {st0:SortSt} (hk:kindOf st0=κ) {x y o:Array Keyed}{i j mg n:Nat}{Q:wR->SortSt->Prop} (ox:bM Ok x) (oy:bM Ok y) (sx:Sd rk x.toList) (sy:Sd rk y.toList) (y0:0 < y.size) (hf:∀ t ∈ x.toList,rk y[0]<=rk t) (g:Gq st0 st) (b:HB rk x y n i j o)
  (h1:∀ r i' j' o' p q st',Gq st0 st'->dP rk x y r->Q (some r,i',j',o',p,q) st') (h2:∀ i' j' o' p q st',Gq st0 st'->HB rk x y (n+1) i' j' o'->Q (none,i',j',o',p,q) st') :
  wpS (model prog w) A E s (wT x y o i j mg) Q st:=by
 have ux:Up rk x 0 x.size:=sx.up 0 _ (bh0 _)
 have uy:Up rk y 0 y.size:=sy.up 0 _ (bh0 _)
 unfold wT
 refine bp7 (I:=fun t c st'=>Gq st0 st'/\∃ i j o p q,c=(none,i,j,o,p,q)/\HB rk x y (n+t) i j o) ?_ ?_ ⟨g,i,j,o,0,0,rfl,b⟩
 ·rintro t c2 st2 _ ht ⟨q2,i',j',o,p,q,rfl,m,i0,i1,j0,j1,pr⟩
  obtain ⟨i2,rfl⟩:∃ i2,i'=i2+1:=⟨i' - 1,by omega⟩
  obtain ⟨j2,rfl⟩:∃ j2,j'=j2+1:=⟨j' - 1,by omega⟩
  simp only [Nat.add_sub_cancel]
  have hi:i2 < x.size:=by omega
  have hj:j2 < y.size:=by omega
  refine bh6 (cU hj (bh6 (cU hi (bh6 (c _ _ (oy _ (bm3 hj)) (ox _ (bm3 hi)) st2 _ (q2.kd.trans hk) ?_)))))
  by_cases hc:rk y[j2] < rk x[i2]
  ·rw [bh3 hc]
   dsimp only
   rw [if_pos rfl]
   have m':=m.x1 hi fun t ht _=>by
    have:=uy t j2 (by omega) (by omega) hj
    rw [c8 hj] at this
    omega
   refine bh6 (cU hi ?_)
   by_cases he:(i2 == 0)=true
   ·rw [if_pos he]
    exact bi8 (h1 _ _ _ _ _ _ _ q2 (m'.done (.inl (by simpa using he))))
   ·rw [if_neg he]
    have he:i2 ≠ 0:=by simpa using he
    split
    ·exact bi8 (h2 _ _ _ _ _ _ q2 ⟨m',by omega,by omega,j0,j1,by omega⟩)
    ·exact bi8 ⟨q2,_,_,_,_,_,rfl,m',by omega,by omega,j0,j1,by omega⟩
  ·rw [bh2 hc]
   dsimp only
   rw [if_neg bi6]
   have m':=m.y1 hj fun t ht _=>by
    have:=ux t i2 (by omega) (by omega) hi
    rw [c8 hi] at this
    omega
   refine bh6 (cU hj ?_)
   by_cases he:(j2 == 1)=true
   ·rw [if_pos he]
    exact bi8 (h1 _ _ _ _ _ _ _ q2 (m'.frst y0 hf (by simpa using he)))
   ·rw [if_neg he]
    have he:j2 ≠ 1:=by simpa using he
    split
    ·exact bi8 (h2 _ _ _ _ _ _ q2 ⟨m',i0,i1,by omega,by omega,by omega⟩)
    ·exact bi8 ⟨q2,_,_,_,_,_,rfl,m',i0,i1,by omega,by omega,by omega⟩
 ·rintro c2 st2 ⟨q2,i',j',o,p,q,rfl,m,i0,i1,j0,j1,pr⟩
  exact h2 _ _ _ _ _ _ q2 ⟨m,i0,i1,j0,j1,by omega⟩
theorem aF3 (c:cF prog w A E s κ Ok rk) (hk:kindOf st=κ) {x y:Array Keyed}{Q:Array Keyed->SortSt->Prop} (ox:bM Ok x) (oy:bM Ok y) (sx:Sd rk x.toList) (sy:Sd rk y.toList) (x0:0 < x.size) (y0:0 < y.size)
  (hf:∀ t ∈ x.toList,rk y[0]<=rk t) (hl:∀ u ∈ y.toList,rk u<=rk x[x.size - 1])
  (h:∀ r st',Gq st st'->dP rk x y r->Q r st'):wpS (model prog w) A E s (wQ x y) Q st:=by
 rw [aF0]
 refine bh6 (wpS_lift (bu6 ⟨rfl,bh6 (cU (by omega:x.size - 1 < x.size) ?_)⟩))
 have m0:MH rk x.toList y.toList (#[x[x.size - 1]]:Array Keyed).toList.reverse (x.size - 1) y.size:=by
  have mm:MH rk x.toList y.toList [] x.size y.size:=⟨by simp,by rw [bm0 (by simp),bk1]; exact sx,by rw [bm0 (by simp),bk1]; exact sy⟩
  have e:=oZ (x:=x) (i:=x.size - 1) (by omega)
  rw [show x.size - 1+1=x.size by omega] at e
  have:=mm.ofx (Nat.sub_le x.size 1) fun t ht u hu=>?_
  ·rw [<- e] at this; simpa using this
  ·rw [<- e,bh8] at hu
   subst hu
   exact hl t (bw8 ht)
 by_cases e1:(x.size - 1 == 0)=true
 ·rw [if_pos e1]
  exact bi8 (h _ st (Gq.refl st) (m0.done (.inl (by simpa using e1))))
 ·rw [if_neg e1]
  have e1:x.size - 1 ≠ 0:=by simpa using e1
  by_cases e2:(y.size == 1)=true
  ·rw [if_pos e2]
   exact bi8 (h _ st (Gq.refl st) (m0.frst y0 hf (by simpa using e2)))
  ·rw [if_neg e2]
   have e2:y.size ≠ 1:=by simpa using e2
   refine bh6 (wpS_get ?_)
   unfold P8
   refine bh6 (bw6 (bp7
    (I:=fun n c st'=>Gq st st'/\∃ i j o mg,c=(none,i,j,o,mg)/\HB rk x y (n+1) i j o)
    (Q:=fun c st'=>Gq st st'/\∃ r i j o mg,c=(some r,i,j,o,mg)/\dP rk x y r) ?_ ?_ ⟨Gq.refl st,_,_,_,_,rfl,m0,by omega,by omega,by omega,by omega,by omega⟩) ?_)
   ·rintro n c1 st1 _ hn ⟨q1,i,j,o,mg,rfl,b⟩
    dsimp only
    refine bh6 (aF2 c hk ox oy sx sy y0 hf q1 b (fun r o' i' j' p q st' g md=>bi8 ⟨g,r,_,_,_,_,rfl,md⟩) fun i' j' o' p q st' g b'=>?_)
    refine bh6 (wpS_lift (bu6 ⟨rfl,?_⟩))
    refine bh6 (bw6 (aF1 c hk ox oy sx sy y0 hf g b') ?_)
    rintro c3 st3 ⟨q3,⟨r,i3,j3,o,mg,p,q,rfl,md⟩ | ⟨i3,j3,o,mg,p,q,rfl,b3⟩⟩
    ·exact bi8 ⟨q3,r,_,_,_,_,rfl,md⟩
    ·exact bh6 (rL q3 fun st4 q4=>bi8 ⟨q4,i3,j3,o,_,rfl,b3⟩)
   ·rintro c1 st1 ⟨q1,i,j,o,mg,rfl,b⟩
    have:=b.pr
    exact absurd this (by omega)
   ·rintro c1 st1 ⟨q1,r,i,j,o,mg,rfl,md⟩
    exact bi8 (h r _ q1 md)
end
theorem aF4 (i:Nat):mergeAt' i=(do
 let z <- get
 let (some (sa,na,pw),some (sb,nb,_)):=((pendingOf z)[i]?,(pendingOf z)[i+1]?) | unsupported "internal:list.sort.pending"
 set (SortSt.mk' (kindOf z) (arrOf z) (((pendingOf z).setIfInBounds i (sa,na+nb,pw)).eraseIdxIfInBounds (i+1)) (gallopOf z) (failedOf z))
 let some k <- k9 false (<- elem' (arrOf z) sb) (arrOf z) sa na 0 | return false
 let (sa,na):=(sa+k,na - k)
 if na == 0 then return true
 let some nb <- k9 true (<- elem' (arrOf z) (sa+na - 1)) (arrOf z) sb nb (nb - 1) | return false
 if nb == 0 then return true
 let x:=(arrOf z).extract sa sb
 let y:=(arrOf z).extract sb (sb+nb)
 let m <- if na<=nb then wM x y else wQ x y
 modify fun z=>setArr z (m.toList.zipIdx.foldl (fun a (p,j)=>a.setIfInBounds (sa+j) p) (arrOf z))
 return (failedOf (<- get)).isNone):=rfl
variable {rk : Keyed → Int}
theorem aF5 {σ:Type}{M:Model}{A:Around}{E:Value->Shared->Prop}{s:Shared}{a b:σ}{Q:PUnit->σ->Prop} (h:Q ⟨⟩ a):wpS M A E s (set a:StateT σ Sem PUnit) Q b:=by
 unfold wpS; rw [StateT.run_set]; exact bg9 ⟨rfl,h⟩
theorem Q3 (o:Nat):∀ (m:List Keyed) (n:Nat) (a:Array Keyed) (t:Nat),o+n+m.length<=a.size->
  ((m.zipIdx n).foldl (fun a (p,j)=>a.setIfInBounds (o+j) p) a)[t]? = if o+n<=t/\t < o+n+m.length then m[t - (o+n)]? else a[t]?
 | [],n,a,t,_=>by
  show a[t]? = _
  rw [if_neg (fun z=>Nat.not_lt_of_ge z.1 z.2)]
 | p :: m,n,a,t,h=>by
  rw [List.zipIdx_cons,List.foldl_cons]
  have h':o+(n+1)+m.length<=(a.setIfInBounds (o+n) p).size:=by rw [Array.size_setIfInBounds]; simp at h; omega
  have ih:=Q3 o m (n+1) (a.setIfInBounds (o+n) p) t h'
  refine ih.trans ?_
  have hs:o+n < a.size:=by simp at h; omega
  rw [Array.getElem?_setIfInBounds]
  by_cases e:o+n=t
  ·subst e
   rw [if_neg (by omega),if_pos rfl,if_pos hs,if_pos (by simp),Nat.sub_self]; rfl
  ·rw [if_neg e]
   by_cases c:o+n<=t/\t < o+n+(p :: m).length
   ·rw [if_pos c,if_pos (by simp at c; omega)]
    rw [show t - (o+n)=(t - (o+(n+1)))+1 by omega]; rfl
   ·rw [if_neg c,if_neg (by simp at c ⊢; omega)]
theorem Q4 {a:Array Keyed}{lo hi:Nat} (u:Up rk a lo hi) (hh:hi<=a.size):Sd rk (a.extract lo hi).toList:=by
 unfold Sd
 rw [bm5]
 intro i j hi' hj hij
 have h2:lo+j < hi:=by simp at hj; omega
 have:=u (lo+i) (lo+j) (by omega) (by omega) h2
 rw [c8 (by omega:lo+i < a.size),c8 (by omega:lo+j < a.size)] at this
 simpa using this
theorem Q5 {a:Array Keyed}{lo mid hi:Nat} (u:Up rk a lo mid) (v:Up rk a mid hi) (h0:lo < mid) (h1:mid < hi) (h:Kr rk a (mid - 1)<=Kr rk a mid):Up rk a lo hi:=fun i j hi' hij hj=>by
 rcases bl9 j mid with z | z
 ·exact u i j hi' hij z
 ·rcases bl9 i mid with y | y
  ·have a1:=u i (mid - 1) hi' (by omega) (by omega)
   have a2:=v mid j (bh0 _) z hj
   omega
  ·exact v i j y hij hj
theorem Q6 {a:Array Keyed}{lo hi t:Nat} (h:t < hi - lo) (hh:hi<=a.size):Kr rk (a.extract lo hi) t=Kr rk a (lo+t):=by
 refine lF ?_
 rw [Array.getElem?_extract_of_lt (by omega)]
 exact (getElem?_pos a (lo+t) (by omega)).symm
section
variable {κ : SortKind} {a0 : Array Keyed} {pd : Array (Nat × Nat × Nat)} {st : SortSt} {prog : Program} {w : World} {A : Around} {E : Value → Shared → Prop} {s : Shared} {Ok : Keyed → Prop}
theorem aF6 {a m:Array Keyed}{p x e:Nat} (hpx:p<=x) (hxe:x<=e) (he:e<=a.size) (md:dP rk (a.extract p x) (a.extract x e) m) :
  let r:=m.toList.zipIdx.foldl (fun a (q,j)=>a.setIfInBounds (p+j) q) a
  r.Perm a/\(∀ t,(t < p ∨ e<=t)->Kr rk r t=Kr rk a t)/\(∀ t t',p<=t->t<=t'->t' < e->Kr rk r t<=Kr rk r t')/\∀ t,p<=t->t < e->∃ t',p<=t'/\t' < e/\Kr rk r t=Kr rk a t':=by
 intro r
 have ml:m.toList.length=e - p:=by
  rw [md.1.length_eq]; simp; omega
 have g:∀ t,r[t]? = if p<=t/\t < e then m[t - p]? else a[t]?:=fun t=>by
  have:=Q3 p m.toList 0 a t (by omega)
  rw [show r=(m.toList.zipIdx 0).foldl (fun a (q,j)=>a.setIfInBounds (p+j) q) a from rfl,this]
  simp only [Nat.add_zero,ml,show p+(e - p)=e by omega,bo5]
 have ex:(a.extract p x).toList ++ (a.extract x e).toList=(a.toList.take e).drop p:=by
  rw [lI,lI,bx2,bx2,bx2]
  rw [show x=p+(x - p) by omega,<- List.drop_drop,show p+(x - p) - p=x - p by omega,show e - (p+(x - p))=(e - p) - (x - p) by omega]
  have:=bl2 (x - p) ((a.toList.drop p).take (e - p))
  rw [List.take_take,bx2,Nat.min_eq_left (by omega)] at this
  exact this
 have rl:r.toList=a.toList.take p ++ (m.toList ++ a.toList.drop e):=by
  apply List.ext_getElem?
  intro t
  rw [bo5,g]
  rcases bl9 t p with z | z
  ·rw [if_neg (by omega),bs3 (by simp; omega),List.getElem?_take_of_lt z,bo5]
  ·rw [bv3 (by simp; omega)]
   have lp:(a.toList.take p).length=p:=by simp; omega
   rw [lp]
   rcases bl9 t e with y | y
   ·rw [if_pos ⟨z,y⟩,bs3 (by omega),bo5]
   ·rw [if_neg (by omega),bv3 (by omega),ml,List.getElem?_drop,bo5]
    congr 1; omega
 have mp:m.toList.Perm ((a.toList.take e).drop p):=ex ▸ md.1
 refine⟨?_,fun t ht=>lF (by rw [g,if_neg (by omega)]),fun t t' h1 h2 h3=>?_,fun t h1 h2=>?_⟩
 ·refine Array.perm_iff_toList_perm.mpr ?_
  rw [rl]
  have:a.toList=a.toList.take p ++ ((a.toList.take e).drop p ++ a.toList.drop e):=by
   rw [wU _ (by omega:p<=e)]; exact (bl2 p _).symm
  conv=>rhs; rw [this]
  exact (mp.append_right _).append_left _
 ·have e1:Kr rk r t=Kr rk m (t - p):=lF (by rw [g,if_pos (by omega)])
  have e2:Kr rk r t'=Kr rk m (t' - p):=lF (by rw [g,if_pos (by omega)])
  rw [e1,e2]
  have ms:m.size=e - p:=by rw [<- ml]; simp
  exact md.2.up 0 m.size (bh0 _) (t - p) (t' - p) (by omega) (by omega) (by omega)
 ·have e1:Kr rk r t=Kr rk m (t - p):=lF (by rw [g,if_pos (by omega)])
  have ms:m.size=e - p:=by rw [<- ml]; simp
  have hm:t - p < m.size:=by omega
  have mm:m[t - p] ∈ (a.toList.take e).drop p:=mp.mem_iff.mp (by simp)
  obtain ⟨t',q1,q2,q3,q4⟩:=oY (rk:=rk) mm
  exact⟨t',q1,q2,by rw [e1,c8 hm]; exact q4⟩
theorem aF7 (c:cF prog w A E s κ Ok rk) (o:bM Ok a0) (b:SB κ a0 pd st) {i sa na pw sb nb pw':Nat}{Q:Bool->SortSt->Prop} (e1:pd[i]? = some (sa,na,pw)) (e2:pd[i+1]? = some (sb,nb,pw')) (hs:sb=sa+na) (n0:0 < na) (m0:0 < nb) (hz:sb+nb<=a0.size)
  (u:Up rk (arrOf st) sa sb) (v:Up rk (arrOf st) sb (sb+nb))
  (h:∀ st',SB κ a0 ((pd.setIfInBounds i (sa,na+nb,pw)).eraseIdxIfInBounds (i+1)) st'->Up rk (arrOf st') sa (sb+nb)->(∀ t,(t < sa ∨ sb+nb<=t)->Kr rk (arrOf st') t=Kr rk (arrOf st) t)->Q true st'):wpS (model prog w) A E s (mergeAt' i) Q st:=by
 have sz:=b.sz
 rw [aF4]
 refine bh6 (wpS_get ?_)
 rw [b.pd,e1,e2]
 dsimp only
 refine bh6 (aF5 ?_)
 generalize hst:SortSt.mk' (kindOf st) (arrOf st) ((pd.setIfInBounds i (sa,na+nb,pw)).eraseIdxIfInBounds (i+1)) (gallopOf st) (failedOf st)=st1
 have b1:SB κ a0 ((pd.setIfInBounds i (sa,na+nb,pw)).eraseIdxIfInBounds (i+1)) st1:=by rw [<- hst]; exact⟨b.pm,b.kd,b.ok,rfl⟩
 have ar:arrOf st1=arrOf st:=by rw [<- hst]
 have oa:=b.all o
 have hsb:sb < (arrOf st).size:=by omega
 refine bh6 (cU hsb (bh6 (mI c b1.kd (oa _ (bm3 hsb)) oa n0 (by omega) (hs ▸ u) fun k k1 k2 k3=>?_)))
 dsimp only
 have k2':∀ t,sa<=t->t < sa+k->Kr rk (arrOf st) t<=Kr rk (arrOf st) sb:=fun t t1 t2=>by
  have:=k2 (t - sa) (by omega)
  rw [mK,bi5,show sa+(t - sa)=t by omega] at this
  rw [c8 hsb]; exact this
 have k3':∀ t,sa+k<=t->t < sb->Kr rk (arrOf st) sb < Kr rk (arrOf st) t:=fun t t1 t2=>by
  have:=k3 (t - sa) (by omega) (by omega)
  rw [mK,br6,show sa+(t - sa)=t by omega] at this
  rw [c8 hsb]; omega
 by_cases ek:(na - k == 0)=true
 ·rw [if_pos ek]
  have ek:na - k=0:=by simpa using ek
  refine bi8 (h st1 b1 ?_ fun t _=>by rw [ar])
  rw [ar]
  exact Q5 u v (by omega) (by omega) (k2' (sb - 1) (by omega) (by omega))
 ·rw [if_neg ek]
  have ek:na - k ≠ 0:=by simpa using ek
  have el:sa+k+(na - k) - 1=sb - 1:=by omega
  rw [el]
  have hsl:sb - 1 < (arrOf st).size:=by omega
  refine bh6 (cU hsl (bh6 (mI c b1.kd (oa _ (bm3 hsl)) oa (by omega) (by omega) v fun l l1 l2 l3=>?_)))
  dsimp only
  have l2':∀ t,sb<=t->t < sb+l->Kr rk (arrOf st) t < Kr rk (arrOf st) (sb - 1):=fun t t1 t2=>by
   have:=l2 (t - sb) (by omega)
   rw [mL,bi5,show sb+(t - sb)=t by omega] at this
   rw [c8 hsl]; exact this
  have l3':∀ t,sb+l<=t->t < sb+nb->Kr rk (arrOf st) (sb - 1)<=Kr rk (arrOf st) t:=fun t t1 t2=>by
   have:=l3 (t - sb) (by omega) (by omega)
   rw [mL,br6,show sb+(t - sb)=t by omega] at this
   rw [c8 hsl]; omega
  by_cases en:(l == 0)=true
  ·rw [if_pos en]
   have en:l=0:=by simpa using en
   subst en
   refine bi8 (h st1 b1 ?_ fun t _=>by rw [ar])
   rw [ar]
   exact Q5 u v (by omega) (by omega) (l3' sb (by omega) (by omega))
  ·rw [if_neg en]
   have en:l ≠ 0:=by simpa using en
   have sub:∀ p e,bM Ok ((arrOf st).extract p e):=fun p e z hz=>oa z (by
    have:z ∈ ((arrOf st).extract p e).toList:=Array.mem_toList_iff.mpr hz
    rw [lI] at this
    exact Array.mem_toList_iff.mp (bw8 (bw7 this)))
   have sx:Sd rk ((arrOf st).extract (sa+k) sb).toList:=Q4 (fun i j h1 h2 h3=>u i j (by omega) h2 h3) (by omega)
   have sy:Sd rk ((arrOf st).extract sb (sb+l)).toList:=Q4 (fun i j h1 h2 h3=>v i j h1 h2 (by omega)) (by omega)
   have x0:0 < ((arrOf st).extract (sa+k) sb).size:=by simp; omega
   have y0:0 < ((arrOf st).extract sb (sb+l)).size:=by simp; omega
   have hf:∀ t ∈ ((arrOf st).extract (sa+k) sb).toList,rk ((arrOf st).extract sb (sb+l))[0]<=rk t:=fun t ht=>by
    rw [lI] at ht
    obtain ⟨t',q1,q2,q3,q4⟩:=oY (rk:=rk) ht
    rw [q4,<- c8 (rk:=rk) y0,Q6 (by omega) (by omega)]
    exact Int.le_of_lt (k3' t' q1 q2)
   have hl:∀ t ∈ ((arrOf st).extract sb (sb+l)).toList,rk t<=rk ((arrOf st).extract (sa+k) sb)[((arrOf st).extract (sa+k) sb).size - 1]:=fun t ht=>by
    rw [lI] at ht
    obtain ⟨t',q1,q2,q3,q4⟩:=oY (rk:=rk) ht
    have e:((arrOf st).extract (sa+k) sb).size=sb - (sa+k):=by simp; omega
    rw [q4,<- c8 (rk:=rk) (by omega),Q6 (by omega) (by omega),e,show sa+k+(sb - (sa+k) - 1)=sb - 1 by omega]
    exact Int.le_of_lt (l2' t' q1 q2)
   have fin:∀ (m:Array Keyed) (st2:SortSt),Gq st1 st2->dP rk ((arrOf st).extract (sa+k) sb) ((arrOf st).extract sb (sb+l)) m->
     wpS (model prog w) A E s (do modify (fun z=>setArr z (m.toList.zipIdx.foldl (fun a (p,j)=>a.setIfInBounds (sa+k+j) p) (arrOf z))); return (failedOf (<- get)).isNone) Q st2:=fun m st2 g md=>by
    have b2:SB κ a0 ((pd.setIfInBounds i (sa,na+nb,pw)).eraseIdxIfInBounds (i+1)) st2:=⟨by rw [g.ar]; exact b1.pm,g.kd.trans b1.kd,g.ok.trans b1.ok,g.pd.trans b1.pd⟩
    have a2:arrOf st2=arrOf st:=g.ar.trans ar
    obtain ⟨r1,r2,r3,r4⟩:=aF6 (by omega) (by omega) (by omega) md
    generalize hr:m.toList.zipIdx.foldl (fun a (q,j)=>a.setIfInBounds (sa+k+j) q) (arrOf st)=r at r1 r2 r3 r4
    refine bh6 (wpS_modify (bh6 (wpS_get (bi8 ?_))))
    have b3:=b2.put (xs:=m.toList.zipIdx.foldl (fun a (q,j)=>a.setIfInBounds (sa+k+j) q) (arrOf st2)) (by rw [a2,hr]; exact r1)
    have er:arrOf (setArr st2 (m.toList.zipIdx.foldl (fun a (q,j)=>a.setIfInBounds (sa+k+j) q) (arrOf st2)))=r:=by rw [<- hr,a2]
    have tr:(failedOf (setArr st2 (m.toList.zipIdx.foldl (fun a (q,j)=>a.setIfInBounds (sa+k+j) q) (arrOf st2)))).isNone=true:=by rw [b3.ok]; rfl
    rw [tr]
    refine h _ b3 (fun i j hi hij hj=>?_) fun t ht=>?_
    ·rw [er]
     have bl:∀ t,sa<=t->t < sa+k->∀ t',sa+k<=t'->t' < sb+l->Kr rk (arrOf st) t<=Kr rk (arrOf st) t':=fun t t1 t2 t' t3 t4=>by
      rcases bl9 t' sb with z | z
      ·exact u t t' t1 (by omega) z
      ·have a1:=k2' t t1 t2
       have a2:=v sb t' (bh0 _) z (by omega)
       omega
     have br:∀ t,sb+l<=t->t < sb+nb->∀ t',sa+k<=t'->t' < sb+l->Kr rk (arrOf st) t'<=Kr rk (arrOf st) t:=fun t t1 t2 t' t3 t4=>by
      rcases bl9 t' sb with z | z
      ·have a1:=u t' (sb - 1) (by omega) (by omega) (by omega)
       have a2:=l3' t t1 t2
       omega
      ·exact v t' t z (by omega) t2
     have blr:∀ t,sa<=t->t < sa+k->∀ t',sb+l<=t'->t' < sb+nb->Kr rk (arrOf st) t<=Kr rk (arrOf st) t':=fun t t1 t2 t' t3 t4=>by
      have a1:=bl t t1 t2 (sb - 1) (by omega) (by omega)
      have a2:=l3' t' t3 t4
      omega
     rcases bl9 i (sa+k) with z | z
     ·rw [r2 i (.inl z)]
      rcases bl9 j (sa+k) with y | y
      ·rw [r2 j (.inl y)]; exact u i j hi hij (by omega)
      ·rcases bl9 j (sb+l) with x | x
       ·obtain ⟨t',q1,q2,q3⟩:=r4 j y x
        rw [q3]; exact bl i hi z t' q1 q2
       ·rw [r2 j (.inr x)]; exact blr i hi z j x hj
     ·rcases bl9 j (sb+l) with x | x
      ·exact r3 i j z hij x
      ·rw [r2 j (.inr x)]
       rcases bl9 i (sb+l) with y | y
       ·obtain ⟨t',q1,q2,q3⟩:=r4 i z y
        rw [q3]; exact br j x hj t' q1 q2
       ·rw [r2 i (.inr y)]; exact v i j (by omega) hij hj
    ·rw [er]; exact r2 t (by omega)
   by_cases hle:na - k<=l
   ·rw [if_pos hle]
    exact bh6 (aE9 c b1.kd (sub _ _) (sub _ _) sx sy x0 y0 hf hl fun m st2 g md=>fin m st2 g md)
   ·rw [if_neg hle]
    exact bh6 (aF3 c b1.kd (sub _ _) (sub _ _) sx sy x0 y0 hf hl fun m st2 g md=>fin m st2 g md)
end
def Ch:Nat->List (Nat × Nat)->Nat->Prop
 | a,[],b=>a=b
 | a,(p,n) :: r,b=>p=a/\0 < n/\Ch (a+n) r b
theorem Ch.split:∀ {l l':List (Nat × Nat)}{a b:Nat},Ch a (l ++ l') b->∃ m,Ch a l m/\Ch m l' b
 | [],_,a,_,h=>⟨a,rfl,h⟩
 | (p,n) :: l,l',a,b,h=>by
  obtain ⟨h1,h2,h3⟩:=h
  obtain ⟨m,q1,q2⟩:=Ch.split h3
  exact⟨m,⟨h1,h2,q1⟩,q2⟩
theorem Ch.join:∀ {l l':List (Nat × Nat)}{a m b:Nat},Ch a l m->Ch m l' b->Ch a (l ++ l') b
 | [],_,a,m,_,h,h'=>by cases (show a=m from h); exact h'
 | (p,n) :: l,l',a,m,b,h,h'=>⟨h.1,h.2.1,Ch.join h.2.2 h'⟩
theorem Ch.len:∀ {l:List (Nat × Nat)}{a b:Nat},Ch a l b->a+l.length<=b
 | [],a,b,h=>by cases (show a=b from h); simp
 | (p,n) :: l,a,b,h=>by
  have:=Ch.len h.2.2
  have:=h.2.1
  simp; omega
theorem Ch.mem:∀ {l:List (Nat × Nat)}{a b:Nat}{r:Nat × Nat},Ch a l b->r ∈ l->a<=r.1/\r.1+r.2<=b/\0 < r.2
 | (p,n) :: l,a,b,r,h,hr=>by
  obtain ⟨h1,h2,h3⟩:=h
  have hb:=Ch.len h3
  rcases bh1.mp hr with e | e
  ·subst e
   have h1:p=a:=h1
   refine⟨?_,?_,h2⟩
   ·show a<=p; omega
   ·show p+n<=b; omega
  ·have:=Ch.mem h3 e
   exact⟨by omega,this.2.1,this.2.2⟩
def sk (pd:Array (Nat × Nat × Nat)):List (Nat × Nat):=pd.toList.map fun r=>(r.1,r.2.1)
theorem rR (pd:Array (Nat × Nat × Nat)):(sk pd).length=pd.size:=by simp [sk]
structure Rn (rk:Keyed->Int) (a:Array Keyed) (l:List (Nat × Nat)) (lo:Nat):Prop where
 ch:Ch 0 l lo
 up:∀ r ∈ l,Up rk a r.1 (r.1+r.2)
variable {rk : Keyed → Int} {κ : SortKind} {a0 : Array Keyed} {pd : Array (Nat × Nat × Nat)} {st : SortSt} {prog : Program} {w : World} {A : Around} {E : Value → Shared → Prop} {s : Shared} {Ok : Keyed → Prop}
theorem Rn.same {a b:Array Keyed}{l:List (Nat × Nat)}{lo:Nat} (h:Rn rk a l lo) (e:∀ t,t < lo->Kr rk b t=Kr rk a t):Rn rk b l lo:=⟨h.ch,fun r hr i j hi hij hj=>by
 have:=(h.ch.mem hr).2.1
 rw [e i (by omega),e j (by omega)]
 exact h.up r hr i j hi hij hj⟩
theorem Q7 (c:cF prog w A E s κ Ok rk) (o:bM Ok a0) (b:SB κ a0 pd st) {i lo:Nat}{Q:Bool->SortSt->Prop} (hi:i+1 < pd.size) (hz:lo<=a0.size) (rn:Rn rk (arrOf st) (sk pd) lo)
  (h:∀ pd' st',SB κ a0 pd' st'->pd'.size+1=pd.size->Rn rk (arrOf st') (sk pd') lo->(∀ t,lo<=t->Kr rk (arrOf st') t=Kr rk (arrOf st) t)->Q true st'):wpS (model prog w) A E s (mergeAt' i) Q st:=by
 obtain ⟨⟨sa,na,pw⟩,e1⟩:∃ r,pd[i]? = some r:=⟨pd[i],getElem?_pos pd i (by omega)⟩
 obtain ⟨⟨sb,nb,pw'⟩,e2⟩:∃ r,pd[i+1]? = some r:=⟨pd[i+1],getElem?_pos pd (i+1) hi⟩
 have d1:pd.toList=pd.toList.take i ++ (sa,na,pw) :: (sb,nb,pw') :: pd.toList.drop (i+2):=by
  have hl:i < pd.toList.length:=by simp; omega
  have hl2:i+1 < pd.toList.length:=by simpa using hi
  have g1:pd.toList[i]=(sa,na,pw):=by rw [getElem?_pos pd i (by omega)] at e1; simpa using e1
  have g2:pd.toList[i+1]=(sb,nb,pw'):=by rw [getElem?_pos pd (i+1) hi] at e2; simpa using e2
  have:=bl2 i pd.toList
  rw [bs4 hl,bs4 hl2,g1,g2] at this
  exact this.symm
 have li:(pd.toList.take i).length=i:=by simp; omega
 have d2:((pd.setIfInBounds i (sa,na+nb,pw)).eraseIdxIfInBounds (i+1)).toList=pd.toList.take i ++ (sa,na+nb,pw) :: pd.toList.drop (i+2):=by
  have e:((pd.setIfInBounds i (sa,na+nb,pw)).eraseIdxIfInBounds (i+1)).toList=(pd.toList.set i (sa,na+nb,pw)).eraseIdx (i+1):=by
   unfold Array.eraseIdxIfInBounds
   rw [dif_pos (by rw [Array.size_setIfInBounds]; exact hi),Array.toList_eraseIdx,Array.toList_setIfInBounds]
  rw [e]
  conv=>lhs; rw [d1]
  rw [List.set_append_right _ _ (by omega),li,Nat.sub_self,List.set_cons_zero,List.eraseIdx_append_of_length_le (by omega),li,show i+1 - i=1 by omega]
  rfl
 have k1:sk pd=(pd.toList.take i).map (fun r=>(r.1,r.2.1)) ++ (sa,na) :: (sb,nb) :: (pd.toList.drop (i+2)).map (fun r=>(r.1,r.2.1)):=by
  unfold sk; conv=>lhs; rw [d1]
  simp
 have k2:sk ((pd.setIfInBounds i (sa,na+nb,pw)).eraseIdxIfInBounds (i+1))=(pd.toList.take i).map (fun r=>(r.1,r.2.1)) ++ (sa,na+nb) :: (pd.toList.drop (i+2)).map (fun r=>(r.1,r.2.1)):=by
  unfold sk; rw [d2]
  simp
 have ch:=rn.ch
 rw [k1] at ch
 obtain ⟨m,c1,c2⟩:=ch.split
 obtain ⟨f1,f2,f3,f4,f5⟩:=c2
 have f1:sa=m:=f1
 have f3:sb=m+na:=f3
 have up:=rn.up
 rw [k1] at up
 have lo2:=f5.len
 refine aF7 c o b e1 e2 (by omega) f2 f4 (by omega) (by have:=up (sa,na) (by simp); rw [f3,<- f1]; exact this) (up (sb,nb) (by simp)) fun st' b' u' fr=>h _ st' b' ?_ ⟨?_,?_⟩ fun t ht=>fr t (by omega)
 ·rw [<- rR,<- rR,k1,k2]; simp; omega
 ·rw [k2]
  refine c1.join ⟨f1,by omega,?_⟩
  rw [<- Nat.add_assoc]; exact f5
 ·intro r hr
  rw [k2] at hr
  rcases bk0.mp hr with z | z
  ·intro p q h1 h2 h3
   have:=(c1.mem z).2.1
   rw [fr p (by omega),fr q (by omega)]
   exact up r (bp3 _ z) p q h1 h2 h3
  ·rcases bh1.mp z with z | z
   ·subst z
    show Up rk (arrOf st') sa (sa+(na+nb))
    rw [show sa+(na+nb)=sb+nb by omega]; exact u'
   ·intro p q h1 h2 h3
    have:=(f5.mem z).1
    rw [fr p (by omega),fr q (by omega)]
    exact up r (bk6 _ (bi9 _ (bi9 _ z))) p q h1 h2 h3
abbrev RS:=Option Unit × Nat
def Q8 (sz pw:Nat):StateT SortSt Sem (Option Unit × Unit):=forIn [0:sz] ((none,()):Option Unit × Unit) fun _ _=>do
 let z <- get
 match (if (pendingOf z).size > 1 then (pendingOf z)[(pendingOf z).size - 2]? else none) with
 | some (_,_,o)=>if o<=pw then pure (.done (none,())) else do
   let q <- mergeAt' ((pendingOf z).size - 2)
   if (!q)=true then pure (.done (some (),())) else pure (.yield (none,()))
 | _=>pure (.done (none,()))
def jn (sz lo n:Nat):StateT SortSt Sem (ForInStep RS):=do
 let z <- get
 match (pendingOf z).back? with
 | some (s1,n1,_)=>do
  let r <- Q8 sz (power' sz (2 * s1+n1) (2 * s1+n1+n1+n) sz)
  match r.1 with
  | some u=>pure (.done (some u,lo))
  | none=>do
   modify fun s=>setPending s ((pendingOf s).modify ((pendingOf s).size - 1) fun x=>(x.1,x.2.1,power' sz (2 * s1+n1) (2 * s1+n1+n1+n) sz))
   modify fun s=>setPending s ((pendingOf s).push (lo,n,0))
   pure (.yield (none,lo+n))
 | _=>do
  modify fun s=>setPending s ((pendingOf s).push (lo,n,0))
  pure (.yield (none,lo+n))
def Q9 (sz mr lo:Nat):StateT SortSt Sem (ForInStep RS):=if lo >= sz then pure (.done (none,lo)) else do
 match <- countRun' lo (sz - lo) with
 | some n=>
  if n < mr then
   liftM (rule "list.sort.binary-insertion")
   let q <- binarySort' lo (min (sz - lo) mr) n
   if (!q)=true then pure (.done (some (),lo)) else jn sz lo (min (sz - lo) mr)
  else jn sz lo n
 | _=>pure (.done (some (),lo))
def R3 (sz:Nat):StateT SortSt Sem (Option Unit × Unit):=forIn [0:sz] ((none,()):Option Unit × Unit) fun _ _=>do
 let z <- get
 if (pendingOf z).size<=1 then pure (.done (none,())) else do
  let q <- mergeAt' (if ((if (pendingOf z).size - 2 > 0 then (pendingOf z)[(pendingOf z).size - 2 - 1]?.map (·.2.1) else none).any (· < ((pendingOf z)[(pendingOf z).size - 2+1]?.elim 0 (·.2.1))))=true then (pendingOf z).size - 2 - 1 else (pendingOf z).size - 2)
  if (!q)=true then pure (.done (some (),())) else pure (.yield (none,()))
theorem aF8:sortRuns'=(do
 let z <- get
 let r <- (forIn [0:(arrOf z).size] ((none,0):RS) fun _ r=>Q9 (arrOf z).size (minRun' (arrOf z).size (arrOf z).size 0) r.2)
 match r.1 with
 | some u=>pure u
 | none=>do
  let q <- R3 (arrOf z).size
  match q.1 with
  | some u=>pure u
  | none=>pure ()):=by kernel_rfl
theorem R4 {lo nn:Nat} (n1:0 < nn) {pd:Array (Nat × Nat × Nat)}{a:Array Keyed} (r:Rn rk a (sk pd) lo) (u:Up rk a lo (lo+nn)):Rn rk a (sk (pd.push (lo,nn,0))) (lo+nn):=by
 have e:sk (pd.push (lo,nn,0))=sk pd ++ [(lo,nn)]:=by simp [sk]
 refine⟨by rw [e]; exact r.ch.join ⟨rfl,n1,rfl⟩,fun q hq=>?_⟩
 rw [e] at hq
 rcases bk0.mp hq with z | z
 ·exact r.up q z
 ·rw [bh8] at z
  subst z
  exact u
theorem R5 (c:cF prog w A E s κ Ok rk) (o:bM Ok a0) (b:SB κ a0 pd st) {lo n:Nat}{Q:ForInStep RS->SortSt->Prop} (n1:1<=n) (n2:lo+n<=a0.size) (rn:Rn rk (arrOf st) (sk pd) lo) (u:Up rk (arrOf st) lo (lo+n))
  (h:∀ pd' st',SB κ a0 pd' st'->Rn rk (arrOf st') (sk pd') (lo+n)->Q (.yield (none,lo+n)) st'):wpS (model prog w) A E s (jn a0.size lo n) Q st:=by
 unfold jn
 refine bh6 (wpS_get ?_)
 rw [b.pd]
 cases hb:pd.back? with
 | none=>exact bh6 (wpS_modify (bi8 (h (pd.push (lo,n,0)) _ ⟨b.pm,b.kd,b.ok,by show (pendingOf st).push _=_; rw [b.pd]⟩ (R4 n1 rn u))))
 | some q=>
  obtain ⟨s1,m1,q3⟩:=q
  dsimp only
  generalize power' a0.size (2 * s1+m1) (2 * s1+m1+m1+n) a0.size=pw
  unfold Q8
  refine bh6 (bw6 (bp7
   (I:=fun _ r st'=>r=(none,())/\∃ pd,SB κ a0 pd st'/\Rn rk (arrOf st') (sk pd) lo/\Up rk (arrOf st') lo (lo+n))
   (Q:=fun r st'=>r=(none,())/\∃ pd,SB κ a0 pd st'/\Rn rk (arrOf st') (sk pd) lo/\Up rk (arrOf st') lo (lo+n)) ?_ (fun _ _ z=>z) ⟨rfl,pd,b,rn,u⟩) ?_)
  ·rintro t r st4 _ ht ⟨rfl,pd4,b4,r4,u4⟩
   refine bh6 (wpS_get ?_)
   rw [b4.pd]
   cases ho:(if pd4.size > 1 then pd4[pd4.size - 2]? else none) with
   | none=>exact bi8 ⟨rfl,pd4,b4,r4,u4⟩
   | some z=>
    obtain ⟨z1,z2,z3⟩:=z
    have h1:pd4.size > 1:=by
     by_cases y:pd4.size > 1
     ·exact y
     ·rw [if_neg y] at ho; cases ho
    dsimp only
    by_cases hp:z3<=pw
    ·rw [if_pos hp]
     exact bi8 ⟨rfl,pd4,b4,r4,u4⟩
    ·rw [if_neg hp]
     refine bh6 (Q7 c o b4 (by omega) (by omega) r4 fun pd5 st5 b5 _ r5 f5=>?_)
     exact bi8 ⟨rfl,pd5,b5,r5,fun i j hi hij hj=>by rw [f5 i hi,f5 j (by omega)]; exact u4 i j hi hij hj⟩
  ·rintro r st4 ⟨rfl,pd4,b4,r4,u4⟩
   refine bh6 (wpS_modify (bh6 (wpS_modify (bi8 ?_))))
   have e:sk (pd4.modify (pd4.size - 1) fun x=>(x.1,x.2.1,pw))=sk pd4:=by
    unfold sk
    rw [Array.toList_modify]
    apply List.ext_getElem?
    intro t
    rw [bh9,bh9,List.getElem?_modify]
    cases pd4.toList[t]? with
    | none=>simp
    | some v=>by_cases y:pd4.size - 1=t <;> simp [y]
   refine h ((pd4.modify (pd4.size - 1) fun x=>(x.1,x.2.1,pw)).push (lo,n,0)) _ ⟨b4.pm,b4.kd,b4.ok,?_⟩ (R4 n1 (by rw [e]; exact r4) u4)
   show ((pendingOf st4).modify ((pendingOf st4).size - 1) fun x=>(x.1,x.2.1,pw)).push _=_
   rw [b4.pd]
theorem aF9 (c:cF prog w A E s κ Ok rk) (o:bM Ok a0) (b:SB κ a0 #[] st) {Q:Unit->SortSt->Prop} (h2:1<=a0.size)
  (h:∀ st',(arrOf st').Perm a0->failedOf st'=none->Up rk (arrOf st') 0 a0.size->Q () st'):wpS (model prog w) A E s sortRuns' Q st:=by
 rw [aF8]
 refine bh6 (wpS_get ?_)
 rw [b.sz]
 generalize minRun' a0.size a0.size 0=mr
 refine bh6 (bw6 (bp7
  (I:=fun x r st'=>∃ lo pd,r=(none,lo)/\x<=lo/\lo<=a0.size/\SB κ a0 pd st'/\Rn rk (arrOf st') (sk pd) lo)
  (Q:=fun r st'=>∃ pd,r=(none,a0.size)/\SB κ a0 pd st'/\Rn rk (arrOf st') (sk pd) a0.size) ?_ ?_ ⟨0,#[],rfl,bh0 _,bl6 _,b,⟨rfl,fun r hr=>absurd hr (by simp [sk])⟩⟩) ?_)
 ·rintro x r st1 _ hx ⟨lo,pd,rfl,xl,lz,b1,rn⟩
  unfold Q9
  dsimp only
  by_cases hd:lo >= a0.size
  ·rw [if_pos hd]
   have e:lo=a0.size:=by omega
   subst e
   exact bi8 ⟨pd,rfl,b1,rn⟩
  ·rw [if_neg hd]
   refine bh6 (aE2 c o b1 (by omega) (by omega) fun n st2 b2 n1 n2 u2 l2=>?_)
   have rn2:=rn.same l2
   dsimp only
   by_cases hmr:n < mr
   ·rw [if_pos hmr]
    refine bh6 (wpS_lift (bu6 ⟨rfl,?_⟩))
    refine bh6 (aE3 c o b2 (by omega) (by omega) u2 fun st3 b3 u3 l3=>?_)
    rw [if_neg (by decide)]
    exact R5 c o b3 (by omega) (by omega) (rn2.same l3) u3 fun pd' st' b' r'=>⟨_,pd',rfl,by omega,by omega,b',r'⟩
   ·rw [if_neg hmr]
    exact R5 c o b2 n1 (by omega) rn2 u2 fun pd' st' b' r'=>⟨lo+n,pd',rfl,by omega,by omega,b',r'⟩
 ·rintro r st1 ⟨lo,pd,rfl,xl,lz,b1,rn⟩
  have e:lo=a0.size:=by omega
  subst e
  exact⟨pd,rfl,b1,rn⟩
 ·rintro r st1 ⟨pd,rfl,b1,rn⟩
  dsimp only
  unfold R3
  refine bh6 (bw6 (bp7
   (I:=fun t r st'=>r=(none,())/\∃ pd,SB κ a0 pd st'/\Rn rk (arrOf st') (sk pd) a0.size/\(pd.size+t<=a0.size ∨ pd.size<=1))
   (Q:=fun r st'=>r=(none,())/\∃ pd,SB κ a0 pd st'/\Rn rk (arrOf st') (sk pd) a0.size/\pd.size<=1) ?_ ?_ ⟨rfl,pd,b1,rn,.inl (by have:=rn.ch.len; rw [rR] at this; omega)⟩) ?_)
  ·rintro t r st2 _ ht ⟨rfl,pd,b2,rn2,pr⟩
   refine bh6 (wpS_get ?_)
   rw [b2.pd]
   by_cases h1:pd.size<=1
   ·rw [if_pos h1]
    exact bi8 ⟨rfl,pd,b2,rn2,h1⟩
   ·rw [if_neg h1]
    refine bh6 (Q7 c o b2 ?_ (bh0 _) rn2 fun pd' st3 b3 sz3 rn3 _=>?_)
    ·split <;> split <;> omega
    ·exact bi8 ⟨rfl,pd',b3,rn3,by omega⟩
  ·rintro r st2 ⟨rfl,pd,b2,rn2,pr⟩
   exact⟨rfl,pd,b2,rn2,by omega⟩
  ·rintro r st2 ⟨rfl,pd,b2,rn2,pr⟩
   refine bi8 (h st2 b2.pm b2.ok ?_)
   have ch:=rn2.ch
   have up:=rn2.up
   rw [<- rR] at pr
   cases e:sk pd with
   | nil=>rw [e] at ch; exact absurd (show 0=a0.size from ch) (by omega)
   | cons r l=>
    rw [e] at ch up pr
    have el:l = []:=bt6 (by have:=pr; rw [bk2] at this; omega)
    subst el
    obtain ⟨p,n⟩:=r
    obtain ⟨q1,q2,q3⟩:=ch
    have q1:p=0:=q1
    have q3:0+n=a0.size:=q3
    subst q1
    have:=up (0,n) (by simp)
    rw [<- q3]; exact this
end SO
namespace L2
open PySem PySem.Spec PyProof.Rows SO
abbrev eU (h:Heap) (a:Addr) (vs:List Value):Heap:=((h.update a (Obj.mapSeq fun _=>#[])).push (seqObj "tuple" vs.toArray 0)).push (seqObj "list" #[] 0)
abbrev fF (h:Heap) (vs:List Value):Heap:=((h.push (seqObj "list" #[] 0)).update h.objs.size (Obj.mapSeq (· ++ vs.toArray))).push (seqObj "list" vs.toArray 0)
theorem aG0 {h:Heap}{vs:List Value}{b:Addr}{o:Obj} (e:h.get? b=some o):(fF h vs).get? b=some o:=by
 have l:=bi1 e
 refine bg6 _ ?_
 rw [Heap.get?_update_ne _ _ _ _ (bk4 l)]
 exact bg6 _ e
theorem aG1 {h:Heap}{vs:List Value}{a b:Addr}{o:Obj} (hb:b ≠ a) (e:h.get? b=some o):(eU h a vs).get? b=some o:=by
 refine bg6 _ (bg6 _ ?_)
 rw [Heap.get?_update_ne _ _ _ _ hb]; exact e
theorem aG2 {prog:Program}{w:World}{A:Around}{E:Value->Shared->Prop}{s:Shared}{a:Addr}{vs:List Value}{n:Nat}{P:PySem.Fin->Shared->Prop}{κ:SortKind}{Ok:Keyed->Prop}{rk:Keyed->Int}
  (e:s.heap.get? a=some (seqObj "list" vs.toArray n)) (h2:2<=vs.length) (big:vs.length<=sizeLine)
  (hk:∀ Q:SortKind->Shared->Prop,Q κ { s with heap:=eU s.heap a vs }->wpAny (model prog w) A (keyKind' vs.toArray) Q E { s with heap:=eU s.heap a vs })
  (c:cF prog w A E { s with heap:=eU s.heap a vs } κ Ok rk) (o:∀ v ∈ vs,Ok (v,v))
  (q:∀ out:List Value,out.Perm vs->out.Pairwise (fun u v=>rk (u,u)<=rk (v,v))->P (.done (.ret .none)) { s with heap:=sortedHeap s.heap a vs out.toArray }):wpAny (model prog w) A (Builtin.«list.sort» ⟨[.ref a],[]⟩) P E s:=by
 have la:=bi1 e
 have cc : ¬ vs.toArray.size < 2:=by simpa using h2
 obtain ⟨k,ek⟩:∃ k,(s.heap.update a (Obj.mapSeq fun _=>#[])).get? a=some (seqObj "list" #[] k):=⟨_,get?_update_seq e fun _=>#[]⟩
 have there:(eU s.heap a vs).get? a=some (seqObj "list" #[] k):=bg6 _ (bg6 _ ek)
 rw [list_sort_plain]
 apply bg5
 apply listItems_at e rfl
 apply bg5
 refine listUpdate_at e rfl ?_ (by simpa using big) (bl6 _)
 apply bg5
 apply seqEpoch_at ek rfl
 apply bg5
 refine wpAny_newTuple ?_ big
 apply bg5
 refine wpAny_newList ?_ (bl6 _)
 apply bp0
 simp only [cc,bo4]
 apply bg5
 refine hk _ ?_
 have zl:(vs.toArray.zip vs.toArray).toList=vs.zip vs:=by simp
 apply bg5
 refine bp5 (aF9 (a0:=vs.toArray.zip vs.toArray) (Q:=fun _ st'=>(arrOf st').Perm (vs.toArray.zip vs.toArray)/\failedOf st'=none/\Up rk (arrOf st') 0 (vs.toArray.zip vs.toArray).size) c (fun x hx=>?_) ⟨Array.Perm.refl _,rfl,rfl,rfl⟩ (by simp; omega) fun st' a1 a2 a3=>⟨a1,a2,a3⟩) ?_ fun _ _ z=>z
 ·have hx':x ∈ vs.zip vs:=by rw [<- zl]; exact Array.mem_toList_iff.mpr hx
  obtain ⟨y1,y2⟩:=mem_zip_self hx'
  have:=o x.1 y2
  have ex:x=(x.1,x.1):=Prod.ext rfl y1.symm
  rw [ex]; exact this
 ·rintro ⟨⟨⟩,st'⟩ s' ⟨rfl,pm,ok,up⟩
  have lp:(arrOf st').toList.Perm (vs.zip vs):=by rw [<- zl]; exact Array.perm_iff_toList_perm.mp pm
  have out:(arrOf st').map (·.2)=((arrOf st').toList.map (·.2)).toArray:=by apply Array.toList_inj.mp; rw [Array.toList_map]
  have op:((arrOf st').toList.map (·.2)).Perm vs:=by
   have:=lp.map (·.2)
   rw [qM] at this; exact this
  have sz:(arrOf st').size=vs.length:=by rw [pm.size_eq]; simp
  dsimp only
  apply bg5
  apply seqEpoch_at there rfl
  apply bg5
  refine listUpdate_at there rfl ?_ (bl6 _) (by rw [Array.size_map,sz]; exact Nat.le_succ_of_le big)
  rw [ok]
  simp only [bne_self_eq_false,bj4,bo4]
  refine bg9 ?_
  have hq:=q _ op ?_
  ·rw [<- out] at hq; exact hq
  ·rw [bu1,bm5]
   intro i j hi hj hij
   have hi':i < (arrOf st').size:=by simpa using hi
   have hj':j < (arrOf st').size:=by simpa using hj
   have h1:=up i j (bl6 _) (bm2 hij) (by simp; omega)
   rw [c8 hi',c8 hj'] at h1
   have dg:∀ x ∈ (arrOf st').toList,(x.2,x.2)=x:=fun x hx=>Prod.ext (mem_zip_self (lp.mem_iff.mp hx)).1.symm rfl
   rw [dg _ (br5 hi),dg _ (br5 hj)]
   simpa using h1
theorem aG3 {prog:Program}{w:World}{A:Around}{E:Value->Shared->Prop}{s:Shared}{l:Addr}{vs:List Value}{Q:Value->Shared->Prop}{κ:SortKind}{Ok:Keyed->Prop}{rk:Keyed->Int}
  (hl:s.heap.IsList l vs.toArray) (h2:2<=vs.length) (big:vs.length<=sizeLine)
  (hk:∀ (A:Around) (E:Value->Shared->Prop) (Q:SortKind->Shared->Prop),Q κ { s with heap:=eU (fF s.heap vs) (s.heap.objs.size+1) vs }->wpAny (model prog w) A (keyKind' vs.toArray) Q E { s with heap:=eU (fF s.heap vs) (s.heap.objs.size+1) vs })
  (c:∀ (A:Around) (E:Value->Shared->Prop),cF prog w A E { s with heap:=eU (fF s.heap vs) (s.heap.objs.size+1) vs } κ Ok rk) (o:∀ v ∈ vs,Ok (v,v))
  (q:∀ out:List Value,out.Perm vs->out.Pairwise (fun u v=>rk (u,u)<=rk (v,v))->Q (.ref (s.heap.objs.size+1)) { s with heap:=sortedAll s.heap vs out.toArray }):wpAny (model prog w) A (call (.builtin "sorted") [.ref l]) Q E s:=by
 apply Calls.call_function_entry kind_sorted plain_sorted entry_sorted (args_sorted1 _)
 simp only [Builtin.«sorted»]
 apply bg5 (m:=checkCount "sorted" 1 1 _)
 apply bg9
 apply bg5
 refine collect_list hl ?_ big
 apply bg5
 refine wpAny_newList ?_ big
 have one:((s.heap.push (seqObj "list" #[] 0)).update s.heap.objs.size (Obj.mapSeq (· ++ vs.toArray))).objs.size=s.heap.objs.size+1:=(Heap.size_update _ _ _).trans (size_push' _ _)
 have at1:(fF s.heap vs).get? (s.heap.objs.size+1)=some (seqObj "list" vs.toArray 0):=one ▸ bi0 _ rfl
 change wpAny _ _ _ _ _ { s with heap:=fF s.heap vs }
 rw [one]
 apply bg5
 apply bp0
 refine bn0 slot_list_sort ⟨_,at1,rfl⟩ entry_list_sort ?_ (args_list_sort _)
 exact aG2 (s:={ s with heap:=fF s.heap vs }) at1 h2 big (hk _ _) (c _ _) o fun out a1 a2=>⟨_,rfl,bg9 ⟨_,rfl,q out a1 a2⟩⟩
def rS (h:Heap) (B:Int) (x:Keyed):Int:=match x.1 with
 | .ref b=>match h.get? b with
  | some ob=>match ob.data with
   | .seq us _=>numOf (us.getD 0 .none) * B+numOf (us.getD 1 .none)
   | _=>0
  | none=>0
 | _=>0
structure jM (h:Heap) (M:Int) (v:Value) (p q:Int):Prop where
 at_:∃ b ob us n,v = .ref b/\h.get? b=some ob/\ob.cls = .type "tuple"/\ob.data = .seq (List.toArray us) n/\IntsAre us [p,q]
 lo : -M<=q
 hi:q<=M
theorem jM.rk {h:Heap}{M B:Int}{x:Keyed}{p q:Int} (z:jM h M x.1 p q):rS h B x=p * B+q:=by
 obtain ⟨b,ob,us,n,e1,e2,_,e4,e5⟩:=z.at_
 cases e5 with
 | cons _ t e6=>cases e6 with
  | cons _ u e7=>cases e7; unfold rS; rw [e1]; dsimp only; rw [e2]; dsimp only; rw [e4]; rfl
theorem R6 {p q p' q' M:Int} (h1 : -M<=q) (h2:q<=M) (h3 : -M<=q') (h4:q'<=M):HT.gZ [p,q] [p',q']=decide (p * (2 * M+1)+q < p' * (2 * M+1)+q'):=by
 rw [HT.nM]
 have mm:∀ {a b:Int},a < b->a * (2 * M+1)+(2 * M+1)<=b * (2 * M+1):=fun {a b} z=>by
  have:=Int.mul_le_mul_of_nonneg_right (show a+1<=b by omega) (show 0<=2 * M+1 by omega)
  rw [Int.add_mul,Int.one_mul] at this
  exact this
 by_cases e:p=p'
 ·subst e
  rw [if_pos rfl,HT.nM]
  by_cases e2:q=q'
  ·subst e2
   rw [if_pos rfl,HT.ao4,bh2 (by omega)]
  ·rw [if_neg e2]
   by_cases l:q < q'
   ·rw [bh3 l,bh3 (by omega)]
   ·rw [bh2 l,bh2 (by omega)]
 ·rw [if_neg e]
  by_cases l:p < p'
  ·have:=mm l
   rw [bh3 l,bh3 (by omega)]
  ·have:=mm (show p' < p by omega)
   rw [bh2 l,bh2 (by omega)]
theorem aG4 {prog:Program}{w:World}{A:Around}{E:Value->Shared->Prop}{s:Shared}{M:Int}:cF prog w A E s (tuples' true) (fun x=>∃ p q,jM s.heap M x.1 p q) (rS s.heap (2 * M+1)):=by
 rintro x y ⟨p,q,z⟩ ⟨p',q',z'⟩ st Q hk hq
 rw [z.rk,z'.rk] at hq
 rw [<- R6 z.lo z.hi z'.lo z'.hi] at hq
 obtain ⟨b,ob,us,n,e1,e2,e3,e4,e5⟩:=z.at_
 obtain ⟨b',ob',us',n',e1',e2',e3',e4',e5'⟩:=z'.at_
 rw [lt'_eq]
 refine bh6 (wpS_get ?_)
 rw [hk,e1,e1']
 refine bh6 (wpS_lift (wpAny_attempt (PySem.W.kat_lt e2 e4 e2' e4' ?_)))
 have:=F8 (prog:=prog) (w:=w) (A:=A) (s:=s) (Q:=fun a s'=>s'=s/\wpS (model prog w) A E s (pure (some a)) Q st) 0 e5 e5' ⟨rfl,bi8 hq⟩
 simpa using this
theorem aG5 {vs vs':List Value} (h:vs.Perm vs'):∀ {xs:List V},aN xs vs->∃ xs',xs'.Perm xs/\aN xs' vs':=by
 induction h with
 | nil=>intro xs r; exact⟨xs,List.Perm.refl _,r⟩
 | cons v _ ih=>
  intro xs r
  cases r with
  | cons r t=>
   obtain ⟨xs',p,r'⟩:=ih t
   exact⟨_ :: xs',p.cons _,.cons r r'⟩
 | swap u v l=>
  intro xs r
  cases r with
  | cons r t=>cases t with
   | cons r2 t2=>exact⟨_,List.Perm.swap _ _ _,.cons r2 (.cons r t2)⟩
 | trans _ _ ih1 ih2=>
  intro xs r
  obtain ⟨x1,p1,r1⟩:=ih1 r
  obtain ⟨x2,p2,r2⟩:=ih2 r1
  exact⟨x2,p2.trans p1,r2⟩
theorem R7 {α:Type} (f:α->Int):∀ l:List α,∃ M:Int,∀ y ∈ l,-M<=f y/\f y<=M
 | []=>⟨0,fun _ h=>nomatch h⟩
 | x :: l=>by
  obtain ⟨M,h⟩:=R7 f l
  refine⟨max M (max (f x) (- f x)),fun y hy=>?_⟩
  rcases bh1.mp hy with e | e
  ·subst e; omega
  ·have:=h y e; omega
def R8 (K:PySem.W.Frag):List V->Hp->VK->Prop:=fun xs H Q=>∃ (a:Addr) (ys:List V) (key:V->List Int),xs = [.ref a]/\aH K H a ys/\ys.length<=4096/\(∀ y ∈ ys,∃ b,y = .ref b/\aF K H b ((key y).map V.int)/\(key y).length=2)/\
 ∀ l (zs:List V),H l=none->zs.Perm ys->zs.Pairwise (fun u v=>HT.gZ (key v) (key u)=false)->Q (.ref l) (upd H l (.lst zs))
theorem aG6 {X:Cx}:cN X (.builtin "sorted") (R8 X.K):=by
 intro pins s σ H xs us Q I r h
 obtain ⟨a,ys,key,rfl,hs,hz4,hk,q⟩:=h
 obtain ⟨u,rfl,ru⟩:=gX r
 cases ru
 obtain ⟨its,rv,p,hz⟩:=I.list hs
 have hl:=rv.length
 have hn:s.heap.objs.size<=s.heap.objs.size+1:=Nat.le_succ _
 by_cases h2:its.length < 2
 ·refine au2 p.isList h2 ?_
  obtain ⟨e,he⟩:=sortedAll_at s.heap its its.toArray
  refine⟨.ref (s.heap.objs.size+1),upd H (s.heap.objs.size+1) (.lst ys),I.laid (t':=s.toks) (fun _ _=>sortedAll_old) hn ⟨hz,its,e,rv,he⟩,rfl,q _ ys (I.hok.fresh hn) (List.Perm.refl _) ?_⟩
  match ys,hl with
  | [],_=>exact bw4
  | [_],_=>exact bn5 _ _
  | _ :: _ :: _,hl=>simp at hl; omega
 ·obtain ⟨M,hM⟩:=R7 (fun y=>(key y).getD 1 0) ys
  have pv:∀ {y:V}{v:Value},aV y v->y ∈ ys->∃ pp qq,key y = [pp,qq]/\jM (eU (fF s.heap its) (s.heap.objs.size+1) its) M v pp qq:=fun {y v} ry hy=>by
   obtain ⟨b,rfl,sq,l2⟩:=hk y hy
   cases ry
   obtain ⟨us,ru,⟨ob,e1,c1,n1,d1⟩,_⟩:=I.tuple sq
   have ia:=pX ru
   have mm:=hM _ hy
   match hkk:key (V.ref b),l2 with
   | [pp,qq],_=>
    rw [hkk] at ia mm
    exact⟨pp,qq,rfl,⟨b,ob,us,n1,rfl,aG1 (bk4 (Nat.lt_succ_of_lt (bi1 e1))) (aG0 e1),c1,d1,ia⟩,mm.1,mm.2⟩
  have pvs:∀ {xs:List V}{vs:List Value},aN xs vs->(∀ y ∈ xs,y ∈ ys)->∀ v ∈ vs,∃ pp qq,jM (eU (fF s.heap its) (s.heap.objs.size+1) its) M v pp qq:=by
   intro xs vs r
   induction r with
   | nil=>intro _ v hv; cases hv
   | cons rx rt ih=>
    intro hh v hv
    rcases bh1.mp hv with z | z
    ·subst z
     obtain ⟨pp,qq,_,z⟩:=pv rx (hh _ bi4)
     exact⟨pp,qq,z⟩
    ·exact ih (fun y hy=>hh y (bi9 _ hy)) v z
  have firsts:∀ {vs:List Value},(∀ v ∈ vs,∃ pp qq,jM (eU (fF s.heap its) (s.heap.objs.size+1) its) M v pp qq)->∃ fs:List Value,PySem.W.KatTups (eU (fF s.heap its) (s.heap.objs.size+1) its) vs fs/\fs.length=vs.length/\∀ v ∈ fs,∃ i t,v=Value.int i t:=by
   intro vs
   induction vs with
   | nil=>intro _; exact⟨[],PySem.W.KatTups.nil,rfl,fun _ z=>nomatch z⟩
   | cons v vs ih=>
    intro hh
    obtain ⟨fs,t1,t2,t3⟩:=ih fun y hy=>hh y (bi9 _ hy)
    obtain ⟨pp,qq,z⟩:=hh v bi4
    obtain ⟨b,ob,us,n,rfl,e2,e3,e4,e5⟩:=z.at_
    cases e5 with
    | cons _ t e6=>exact⟨Value.int pp t :: fs,PySem.W.KatTups.cons e2 e3 e4 (by simp) t1,by simp [t2],fun v hv=>(bh1.mp hv).elim (fun z=>⟨pp,t,z⟩) (t3 v)⟩
  have allp:=pvs rv fun _ h=>h
  obtain ⟨fs,t1,t2,t3⟩:=firsts allp
  refine aG3 (κ:=tuples' true) (Ok:=fun x=>∃ pp qq,jM (eU (fF s.heap its) (s.heap.objs.size+1) its) M x.1 pp qq) (rk:=rS (eU (fF s.heap its) (s.heap.objs.size+1) its) (2 * M+1)) p.isList (by omega) (by rw [<- hl]; exact hz)
   (fun A E Q hQ=>?_) (fun A E=>aG4 (s:={ s with heap:=eU (fF s.heap its) (s.heap.objs.size+1) its })) (fun v hv=>allp v hv) fun out pm so=>?_
  ·refine PySem.W.kat_kind (T:=.type "int") t1 (by omega) (fun v hv=>?_) (by decide) ?_
   ·obtain ⟨i,t,rfl⟩:=t3 v hv
    exact PySem.W.Looks.now
   ·have eT:(Value.type "int" != Value.type "tuple")=true:=by decide
    rw [eT]; exact hQ
  ·obtain ⟨zs,pz,rz⟩:=aG5 pm.symm rv
   obtain ⟨e,he⟩:=sortedAll_at s.heap its out.toArray
   refine⟨.ref (s.heap.objs.size+1),upd H (s.heap.objs.size+1) (.lst zs),I.laid (t':=s.toks) (fun _ _=>sortedAll_old) hn ⟨by rw [pz.length_eq]; exact hz,out,e,rz,he⟩,rfl,q _ zs (I.hok.fresh hn) pz ?_⟩
   have lz:=rz.length
   rw [bm5]
   intro i j hi hj hij
   have s1:=bm5.mp so i j (by omega) (by omega) hij
   have gi:=vB i hi rz
   have gj:=vB j hj rz
   simp only [bi7,bg8 hi,bg8 hj,bg8 (show i < out.length by omega),bg8 (show j < out.length by omega),Option.getD_some] at gi gj
   obtain ⟨pi,qi,ki,vi⟩:=pv gi (pz.mem_iff.mp (br5 hi))
   obtain ⟨pj,qj,kj,vj⟩:=pv gj (pz.mem_iff.mp (br5 hj))
   rw [jM.rk (x:=(out[i],out[i])) vi,jM.rk (x:=(out[j],out[j])) vj] at s1
   rw [ki,kj,R6 vj.lo vj.hi vi.lo vi.hi]
   exact bh2 (by omega)
end L2
namespace L2
open PySem PySem.Spec PyProof.Rows
theorem bR.at {P:Program}{w:World}{H:Hp}{h:Heap}{a:Addr}{o:HO} (x:bR P w H h a o):∃ ob,h.get? a=some ob:=by
 cases o with
 | lst xs=>obtain ⟨_,_,_,_,e⟩:=x; exact⟨_,e⟩
 | tup xs=>obtain ⟨_,_,_,⟨_,e,_⟩,_⟩:=x; exact⟨_,e⟩
 | dK kvs=>obtain ⟨_,_,_,_,_,_,_,e,_⟩:=x; exact⟨_,e⟩
 | dT kvs=>obtain ⟨_,_,_,_,_,_,_,e,_⟩:=x; exact⟨_,e⟩
 | set S n=>obtain ⟨_,_,_,_,e,_⟩:=x; exact⟨_,e⟩
 | ins C dx fs=>obtain ⟨_,_,_,e,_⟩:=x; exact⟨_,e⟩
 | own y=>exact x
 | xd fs=>obtain ⟨_,⟨_,_,_,e,_⟩,_⟩:=x; exact⟨_,e⟩
 | rng lo hi=>obtain ⟨_,_,_,e⟩:=x; exact⟨_,e⟩
 | frz ob u=>obtain ⟨e,_⟩:=x; exact⟨_,e⟩
 | tbl ps=>exact⟨_,x⟩
 | met f y=>exact⟨_,x⟩
 | ext φ=>exact x.2.1
structure lJ (P:Program) (w:World) (outer:List Env) (H:Hp) (s:Shared) (H':Hp) (B:Heap) (a C:Addr) (s':Shared):Prop where
 os:s'.os=s.os
 bare:AllBare s'.gens
 un:Un (bN outer) [] H H' s.heap s'.heap
 hok:bS P w H' s'.heap
 fly:∃ a0,Heap.FlyingW B outer a (.ref C) a0 s'.heap
 b0:∀ b o,s.heap.get? b=some o->b ∉ bN outer->∃ o',B.get? b=some o'
 b1:∀ b o,s.heap.get? b=some o->H b=none->b ∉ bN outer->B.get? b=some o
 b2:∀ b u o,H' b=some u->s'.heap.get? b=some o->B.get? b=some o
def dQ (P:Program) (w:World):gC:=fun outer H s E e s'=>∃ (H':Hp) (B:Heap) (a C:Addr),e = .ref a/\lJ P w outer H s H' B a C s'/\E (.ref C) none H'
section
variable {P : Program} {w : World} {outer : List Env} {H H' : Hp} {s s' : Shared} {B h2 : Heap} {a C : Addr}
theorem lJ.fresh (f:lJ P w outer H s H' B a C s'):H' a=none:=by
 cases q:H' a with
 | none=>rfl
 | some u=>
  obtain ⟨ob,e⟩:=(f.hok a u q).at
  have z:=f.b2 a u ob q e
  obtain ⟨_,_,n,_⟩:=f.fly
  rw [n] at z; cases z
theorem lJ.hok2 (f:lJ P w outer H s H' B a C s') (k:B.StaysIn h2):bS P w H' h2:=fun b u e=>
 (f.hok b u e).stay (fun c v hc q=>by
  rcases hc with z | z
  ·subst z; exact k _ _ (f.b2 _ _ _ e q)
  ·exact k _ _ (f.b2 _ _ _ z q)) (fun _ q=>q) fun _ _ q=>q
end
section
variable {P : Program} {w : World} {K : PySem.W.Frag} {mg : Str → Option Value} {base : Heap} {N : List Str} {qual : Str} {scope : Scope} {f : Addr} {cd : Value} {A : Around} {outer : List Env} {s₀ : Shared} {H₀ : Hp} {E₀ E₁ : XK}
theorem rT {pins:List (Addr × Obj)}{σ:St}{H:Hp}{s:Shared} (I:a8 (cZ (dQ P w) P w K mg base N qual scope f cd A outer s₀ H₀ E₀) pins σ H s) {b:Addr}{o:Obj} (e:s₀.heap.get? b=some o) (n:b ∉ bN outer) :
  b ∉ bN (envOfC qual scope s₀.heap.objs.size f cd :: outer):=fun z=>by
 rcases bh1.mp (I.stkSub b z) with y | y
 ·have l:=bi1 e
  have y:b=s₀.heap.objs.size:=y
  exact absurd l (by rw [y]; exact bo2 _)
 ·exact n y
theorem aG7 (hE:∀ c d H',E₁ c d H'->E₀ c d H'):nK (dQ P w) (cZ (dQ P w) P w K mg base N qual scope f cd A outer s₀ H₀ E₀) E₁:=by
 intro pins σ H s e s' I hx
 obtain ⟨H',B,a,C,e1,fl,q⟩:=hx
 subst e1
 have I':=I.call' fl.os fl.un fl.hok fl.bare (ch:=[]) (fun b z=>absurd z (by simp))
 obtain ⟨a0,fly⟩:=fl.fly
 refine wpAny_leaves_onW I.ok.frames rfl fly fun h' fly' up=>?_
 have slot:∀ b o,s₀.heap.get? b=some o->b ∈ bN outer->∃ sl,h'.get? b=some { o with slots:=sl }:=fun b o e hb=>by
  obtain ⟨sl,e1⟩:=I'.base.slot b o e (I.ok.frf b hb) hb (fun z=>nomatch z)
  obtain ⟨_,o2,e2,nf⟩:=I.ok.funs.mem hb
  rw [show (cZ (dQ P w) P w K mg base N qual scope f cd A outer s₀ H₀ E₀).s₀=s₀ from rfl,e] at e2
  cases e2
  obtain ⟨sl',e3⟩:=up b _ e1 nf
  exact⟨sl',e3⟩
 have old:∀ b o,s₀.heap.get? b=some o->H₀ b=none->b ∉ bN outer->B.get? b=some o:=fun b o e n hb=>
  fl.b1 b o (I.base.keep b o e n hb (fun z=>nomatch z)) (I.base.free b o e n (fun z=>nomatch z)) (rT I e hb)
 have old0:∀ b o,s₀.heap.get? b=some o->b ∉ bN outer->∃ o',B.get? b=some o':=fun b o e hb=>by
  obtain ⟨o1,e1⟩:=I.base.there b o e (fun z=>nomatch z)
  exact fl.b0 b o1 e1 (rT I e hb)
 refine⟨H',B,a,C,rfl,⟨I'.os,I'.bare,⟨fun b o e n hb _=>fly'.1 _ _ (old b o e n hb),fun b o e n hb _=>slot b o e hb,fun b o e n hx=>I'.base.free b o e n hx,fun b o e _=>?_,I'.base.tups,I'.base.frzs,I'.base.tbls⟩,fl.hok2 fly'.1,⟨a0,fly'⟩,old0,old,fun b u o e h=>?_⟩,hE _ _ _ q⟩
 ·by_cases hb:b ∈ bN outer
  ·obtain ⟨sl,e1⟩:=slot b o e hb
   exact⟨_,e1⟩
  ·obtain ⟨o',e1⟩:=old0 b o e hb
   exact⟨o',fly'.1 _ _ e1⟩
 ·obtain ⟨ob,e1⟩:=(fl.hok b u e).at
  have e2:=fl.b2 b u ob e e1
  have e3:=fly'.1 _ _ e2
  have h:h'.get? b=some o:=h
  rw [h] at e3; cases e3; exact e2
theorem aG8 {pins:List (Addr × Obj)}{σ:St}{H:Hp}{s:Shared}{h':Heap}{e C:Addr}{args:List Value} (I:a8 (cZ (dQ P w) P w K mg base N qual scope f cd A outer s₀ H₀ E₀) pins σ H s) (mx:Heap.MadeExcOf s.heap h' e (.ref C) args) (q:E₀ (.ref C) none H) :
  (cZ (dQ P w) P w K mg base N qual scope f cd A outer s₀ H₀ E₀).xe (.ref e) { s with heap:=h' }:=by
 have tr:∀ b u,H b=some u->b ∉ bN (envOfC qual scope s₀.heap.objs.size f cd :: outer):=fun b u z n=>by
  rw [I.stkFree b n] at z; cases z
 have inB:∀ b o,s.heap.get? b=some o->b ∉ bN (envOfC qual scope s₀.heap.objs.size f cd :: outer)->(PySem.W.hideAll s.heap (bN (envOfC qual scope s₀.heap.objs.size f cd :: outer))).get? b=some o:=fun b o z n=>PySem.W.hideAll_get _ z n
 refine wpAny_leaves_madeW (base:=PySem.W.hideAll s.heap (bN (envOfC qual scope s₀.heap.objs.size f cd :: outer))) I.ok.frames rfl (fun b o z=>PySem.W.of_hideAll _ z) (PySem.W.funFrames_hide I.stack fun env he b hb=>List.mem_filterMap.mpr ⟨env,he,hb⟩) mx fun h'' t fly _ _ up=>?_
 have slot:∀ b o,s₀.heap.get? b=some o->b ∈ bN outer->∃ sl,h''.get? b=some { o with slots:=sl }:=fun b o e hb=>by
  obtain ⟨sl,e1⟩:=I.base.slot b o e (I.ok.frf b hb) hb (fun z=>nomatch z)
  obtain ⟨_,o2,e2,nf⟩:=I.ok.funs.mem hb
  rw [show (cZ (dQ P w) P w K mg base N qual scope f cd A outer s₀ H₀ E₀).s₀=s₀ from rfl,e] at e2
  cases e2
  obtain ⟨sl',e3⟩:=up b _ (mx.keeps _ _ e1) nf
  exact⟨sl',e3⟩
 have old:∀ b o,s₀.heap.get? b=some o->H₀ b=none->b ∉ bN outer->(PySem.W.hideAll s.heap (bN (envOfC qual scope s₀.heap.objs.size f cd :: outer))).get? b=some o:=fun b o e n hb=>
  inB b o (I.base.keep b o e n hb (fun z=>nomatch z)) (rT I e hb)
 have old0:∀ b o,s₀.heap.get? b=some o->b ∉ bN outer->∃ o',(PySem.W.hideAll s.heap (bN (envOfC qual scope s₀.heap.objs.size f cd :: outer))).get? b=some o':=fun b o e hb=>by
  obtain ⟨o1,e1⟩:=I.base.there b o e (fun z=>nomatch z)
  exact⟨o1,inB b o1 e1 (rT I e hb)⟩
 refine⟨H,_,e,C,rfl,⟨I.os,I.bare,⟨fun b o e n hb _=>fly.1 _ _ (old b o e n hb),fun b o e n hb _=>slot b o e hb,fun b o e n hx=>I.base.free b o e n hx,fun b o e _=>?_,I.base.tups,I.base.frzs,I.base.tbls⟩,fun b u z=>?_,⟨_,fly⟩,old0,old,fun b u o z h=>?_⟩,q⟩
 ·by_cases hb:b ∈ bN outer
  ·obtain ⟨sl,e1⟩:=slot b o e hb
   exact⟨_,e1⟩
  ·obtain ⟨o',e1⟩:=old0 b o e hb
   exact⟨o',fly.1 _ _ e1⟩
 ·refine (I.hok b u z).stay (fun c v hc y=>?_) (fun _ y=>y) fun _ _ y=>y
  rcases hc with z' | z'
  ·subst z'; exact fly.1 _ _ (inB _ _ y (tr _ _ z))
  ·exact fly.1 _ _ (inB _ _ y (tr _ _ z'))
 ·obtain ⟨ob,e1⟩:=(I.hok b u z).at
  have e2:=inB b ob e1 (tr b u z)
  have e3:=fly.1 _ _ e2
  have h:h''.get? b=some o:=h
  rw [h] at e3; cases e3; exact e2
end
structure mM (X:Cx) (E:XK):Prop where
 pass:nK (dQ X.prog X.w) X E
 made:∀ (pins:List (Addr × Obj)) (σ:St) (H:Hp) (s:Shared) (h':Heap) (e C:Addr) (args:List Value),a8 X pins σ H s->Heap.MadeExcOf s.heap h' e (.ref C) args->E (.ref C) none H->X.xe (.ref e) { s with heap:=h' }
 own:PassesOwn (model X.prog X.w) X.A X.env X.xe
theorem aG9 {P:Program}{w:World}{K:PySem.W.Frag}{mg:Str->Option Value}{base:Heap}{N:List Str}{qual:Str}{scope:Scope}{f:Addr}{cd:Value}{A:Around}{outer:List Env}{s₀:Shared}{H₀:Hp}{E₀ E₁:XK} (hE:∀ c d H',E₁ c d H'->E₀ c d H') :
  mM (cZ (dQ P w) P w K mg base N qual scope f cd A outer s₀ H₀ E₀) E₁:=
 ⟨aG7 hE,fun _ _ _ _ _ _ _ _ I mx q=>aG8 I mx (hE _ _ _ q),PassesOwn.leaving⟩
def R9 (E:XK) (C:Addr) (t:TA):TS:=fun _ σ H=>t σ H fun vs H1=>vs.length<=sizeLine/\E (.ref C) none H1
theorem aH0 {X:Cx}{E:XK}{x:Str}{C:Addr}{bm:List Value}{B newId initId:String}{np cpos pos:Pos}{e:Expr}{es:List Expr}{t:TA} (hX:mM X E) (hc:X.calm=true) (O:OwnCls x C bm newId X.mg X.base) (FB:ExcBaseFacts B newId initId bm) (ha:PA X (e :: es) t) (hg:Gl X x)
  (hd:(x == ("__debug__" : Str))=false:=by decide) (he:starEach (e :: es) X.env=(false,eval e X.env) :: starEach es X.env:=by rfl) (hpl:(backTo cpos (starEach es X.env)).any (·.1)=false:=by rfl) :
  PS X (.Raise (some (.Call (.Name x np) (e :: es) [] cpos)) none pos) (R9 E C t):=by
 intro pins s σ H D I h
 obtain ⟨tl,Na,nm,qn,bs,hx,sn,sub,ab,col,dd,k0,k1,k2,k3,k5,mN,hC,hN,hni,T⟩:=O.obj
 refine wpAny_Raise_call_subT (nm:=nm) (q:=qn) (N:=Na) (bs:=bs) (bm:=tl) (hdct:=hx) (sn:=sn) (sub:=sub) (ab:=ab) (col:=col) (dd:=dd) (k0:=k0) (k1:=k1) (k2:=k2) (k3:=k3) (k5:=k5) FB (C:=C) (mN:=mN) (T.hasType FB.hasBase) (I.ok.hd hc) (by rw [he]; show (false || (backTo cpos (starEach es X.env)).any (·.1))=false; rw [hpl]; rfl) hni (nC I hg O.bound ⟨rfl,?_⟩ hd)
 have h1:=ha cpos pins s σ H _ I h
 rw [he] at h1 ⊢
 refine Calls.evalArgs_plain (bp5 h1 (fun us s2 h2=>?_) fun _ _ y=>y)
 obtain ⟨vs,H2,I2,r,hl,q⟩:=h2
 have r:aN vs us:=r
 exact⟨rfl,by show us.length<=sizeLine; rw [<- r.length]; exact hl,I2.bk _ _ hC,hN.keeps I2.bk,T.keeps I2.bk,fun h' e' mx=>hX.made pins σ H2 s2 h' e' C _ I2 mx q⟩
theorem e9.okX {P:Program}{w:World}{K:PySem.W.Frag}{mg:Str->Option Value}{base:Heap}{x qual:Str}{st:Stmt}{f:Addr}{fd:FuncData}{N ps:List Str}{k:Nat}{sp:Sp} (F:e9 K x qual st f fd) (S:FnScope N ps (aQ st)) (len:∀ vs H Q E,sp vs H Q E->vs.length=ps.length)
  (hbody:∀ (cdv:Value) (A:Around) (outer:List Env) (s:Shared) (H:Hp) (vs:List V) (Q:VK) (E:XK),bZ k (A.deeper (envOfC qual (aQ st) s.heap.objs.size f cdv))->sp vs H Q E->
   ∃ t,dH (cZ (dQ P w) P w K mg base N qual (aQ st) f cdv A outer s H E) (e8 st) t/\t { nx:=fun _ H'=>Q .non H',rt:=Q } (gD N vs) H):cI P w K mg base (dQ P w) (k+1) f fd ps sp:=by
 obtain ⟨oc,od,kV,doc,pm,an,cdv,ct,osl,rfl,lk,hcd⟩:=F.ex
 exact A1 lk hcd S len fun A outer s H vs Q E hr hsp=>hbody cdv A outer s H vs Q E hr hsp
section
variable {X : Cx} {pins : List (Addr × Obj)} {σ : St} {H H1 H' : Hp} {s s1 s' : Shared} {B h2 : Heap} {a C : Addr}
theorem S0 {oe:Obj} (I:a8 X pins σ H1 s1) (fl:lJ X.prog X.w X.stack H1 s1 H' B a C s') (st:B.StaysIn h2) (up:s'.heap.UpToSlots h2) (he:h2.get? a=some oe) :
  a8 X pins σ (upd H' a (.frz oe (.own a))) { s' with heap:=h2 }:=by
 obtain ⟨a0,fly⟩:=fl.fly
 have na:B.get? a=none:=fly.2.1
 have nf:a ∉ bN X.stack:=fun z=>by
  obtain ⟨_,o,e,d⟩:=fly.2.2.1.mem z
  obtain ⟨o2,vs,e2,_,d2,_⟩:=fly.first
  rw [e] at e2; cases e2
  exact d vs d2
 have nb:∀ b o,s1.heap.get? b=some o->b ≠ a:=fun b o e z=>by
  subst z
  obtain ⟨o',e'⟩:=fl.b0 _ o e nf
  rw [na] at e'; cases e'
 have nt:∀ b u,H' b=some u->b ≠ a:=fun b u e z=>by
  subst z; rw [fl.fresh] at e; cases e
 have off:∀ b,b ≠ X.env.locals->b ∉ X.fs->b ∉ bN X.stack:=fun b n1 n2 z=>(bh1.mp (I.stkSub b z)).elim n1 n2
 have slot:∀ b o,s1.heap.get? b=some o->b ∈ bN X.stack->∃ sl,h2.get? b=some { o with slots:=sl }:=fun b o e hb=>by
  obtain ⟨sl,e1⟩:=fl.un.any e (I.stkFree b hb) (fun z=>nomatch z)
  obtain ⟨_,o2,e2,d⟩:=I.stack.mem hb
  rw [e] at e2; cases e2
  obtain ⟨sl',e3⟩:=up b _ e1 d
  exact⟨sl',e3⟩
 have ns:∀ m,s1.heap.Ns X.env.locals m->h2.Ns X.env.locals m:=fun m hm=>by
  obtain ⟨o,es,ep,e,r⟩:=hm
  obtain ⟨sl,e1⟩:=fl.un.any e I.free (fun z=>nomatch z)
  exact up.ns ⟨_,es,ep,e1,r⟩
 have hok:bS X.prog X.w (upd H' a (.frz oe (.own a))) h2:=fun b u e=>by
  by_cases hb:b=a
  ·subst hb; rw [bE] at e; cases e; exact⟨he,_,he⟩
  ·rw [aR hb] at e
   exact (fl.hok2 st b u e).stay (fun _ _ _ q=>q) (fun c q=>by rw [aR (nt c _ q)]; exact q) fun c xs q=>by rw [aR (nt c _ q)]; exact q
 have bare:=fl.bare
 have un:=fl.un
 have b0:=fl.b0
 have b1:=fl.b1
 have os:=fl.os
 clear fl fly up
 obtain ⟨hh,g,d,t,os'⟩:=s'
 obtain rfl:os'=s1.os:=os
 show a8 X pins σ _ { s1 with heap:=h2,gens:=g,drawn:=d,toks:=t }
 refine I.step (h':=h2) (g':=g) (d':=d) (t':=t) (ch:=[]) (fun _ z=>nomatch z) (fun b o n1 n2 _ e n=>st _ _ (b1 b o e n (off b n1 n2))) (fun b o n1 hb _ e n=>?_) (fun b o _ e n=>by rw [aR (nb b o e)]; exact un.free b o e n (fun z=>nomatch z)) (fun b o _ e=>?_)
  (fun b xs q=>by rw [aR (nt b _ (un.tups b xs q))]; exact un.tups b xs q) (fun b o u q=>by rw [aR (nt b _ (un.frzs b o u q))]; exact un.frzs b o u q) (fun b ps q=>by
   obtain ⟨more,q'⟩:=un.tbls b ps q
   exact⟨more,by rw [aR (nt b _ q')]; exact q'⟩) ns hok bare
 ·by_cases hs:b ∈ bN X.stack
  ·exact slot b o e hs
  ·exact⟨o.slots,st _ _ (b1 b o e n hs)⟩
 ·by_cases hb:b ∈ bN X.stack
  ·obtain ⟨sl,e1⟩:=slot b o e hb
   exact⟨_,e1⟩
  ·obtain ⟨o',e1⟩:=b0 b o e hb
   exact⟨o',st _ _ e1⟩
abbrev Cx.suite (X:Cx) (a:Addr):Cx:={ X with A:=X.A.mark (some (.ref a)),calm:=false,xe:=fun _ _=>False }
theorem Cx.Ok.suite {X:Cx} (ok:X.Ok) (a:Addr):(X.suite a).Ok:=
 ⟨ok.mod,ok.kind,ok.glob,ok.blt,ok.above,ok.inj,ok.has,ok.cab,fun z=>Bool.noConfusion z,ok.frames,ok.stk,ok.exf,ok.bs,ok.bsz,ok.noex,ok.exfs,ok.funs,ok.frf⟩
theorem a8.suite (I:a8 X pins σ H s) (a:Addr):a8 (X.suite a) pins σ H s:=⟨I.ok.suite a,I.os,I.bare,I.base,I.loc,I.cell,I.free,I.freeC,I.pin,I.hok,I.len⟩
theorem a8.unsuite (I:a8 (X.suite a) pins σ H s) (ok:X.Ok):a8 X pins σ H s:=⟨ok,I.os,I.bare,I.base,I.loc,I.cell,I.free,I.freeC,I.pin,I.hok,I.len⟩
theorem rV {M:Model}{A:Around}{E:Value->Shared->Prop}{i:Nat}{x:Str}{pos:Pos}{Q:Unit->Shared->Prop} (I:a8 X pins σ H s) (hN:X.N.Nodup) (hi:X.N[i]? = some x) (hk:X.env.scope.names.lookup x=some .local)
  (h:∀ s',a8 X pins (σ.set i none) H s'->Q () s'):wpAny M A (do bindName X.env x .none; unbindBehindTheSuite X.env x pos) Q E s:=by
 obtain ⟨m,hn,hl⟩:=id I.loc
 obtain ⟨oL,_,_,hoL,_⟩:=id hn
 have ab:∀ b o,X.s₀.heap.get? b=some o->b ≠ X.env.locals:=fun b o e=>bk4 (bi2 (bi1 e) I.ok.above)
 refine wpAny_nameGoes_keeps hk hn (by rw [I.ok.kind]; rfl) fun h' v hn' hs=>?_
 refine h _ ⟨I.ok,I.os,I.bare,⟨fun b o e n hb hx=>(hs.2 b (ab b o e)).trans (I.base.keep b o e n hb hx),fun b o e n hb hx=>?_,I.base.free,fun b o e hx=>?_,I.base.tups,I.base.frzs,I.base.tbls⟩,⟨_,hn',fun j y v' e1 e2 e3=>?_⟩,fun y c e=>?_,I.free,I.freeC,fun p hp=>?_,fun b u e=>?_,by simpa using I.len⟩
 ·obtain ⟨sl,e1⟩:=I.base.slot b o e n hb hx
  exact⟨sl,(hs.2 b (ab b o e)).trans e1⟩
 ·obtain ⟨o',e1⟩:=I.base.there b o e hx
  exact⟨o',(hs.2 b (ab b o e)).trans e1⟩
 ·by_cases hj:j=i
  ·subst hj
   have hjl:j < σ.length:=by rw [I.len]; exact (bh7.mp hi).1
   rw [bm8 hjl] at e2
   cases e2
  ·rw [bj6 (Ne.symm hj)] at e2
   obtain ⟨u',r',q⟩:=hl j y v' e1 e2 e3
   refine⟨u',r',?_⟩
   rcases q with ⟨k,e⟩ | ⟨k,c,e,z⟩
   ·have ny:y ≠ x:=fun z=>hj (tT hN e1 (z ▸ hi))
    exact .inl ⟨k,by simp [ny,e]⟩
   ·exact .inr ⟨k,c,e,z.sameBut hs (I.cne y c e)⟩
 ·obtain ⟨w',z⟩:=I.cell y c e
  exact⟨w',z.sameBut hs (I.cne y c e)⟩
 ·obtain ⟨e,n,ne,nf,d⟩:=I.pin p hp
  exact⟨(hs.2 p.1 ne).trans e,n,ne,nf,d⟩
 ·refine (I.hok b u e).stay (fun c v hc q=>(hs.2 c fun z=>?_).trans q) (fun _ q=>q) fun _ _ q=>q
  subst z
  rcases hc with z | z
  ·subst z; rw [I.free] at e; cases e
  ·rw [I.free] at z; cases z
theorem aH1 {M:Model}{A:Around}{E:Value->Shared->Prop}{K:PySem.W.Frag}{e C D:Addr}{oe:Obj}{Q:Bool->Shared->Prop} (k:K.In s.heap) (he:s.heap.get? e=some oe) (hc:oe.cls = .ref C) (h1:(PySem.W.clsIn K D).isSome=true) (h2:PySem.W.typeIn K (.ref D)=some (.type "type"))
  (h3:PySem.W.subIn K (.ref D) (.type "BaseException")=some true) (h4:PySem.W.subIn K (.ref C) (.ref D)=some true) (hq:Q true s):wpAny M A (excMatches (.ref e) (.ref D)) Q E s:=by
 obtain ⟨h,g,d,t,os⟩:=s
 have k:K.In h:=k
 have he:h.get? e=some oe:=he
 have l1:PySem.W.Looks M h (isType (.ref D)) true:=by
  unfold PySem.W.clsIn at h1
  split at h1
  ·rename_i c' d' cd' sl' ho
   intro A' Q' E' s' kk q
   unfold isType loadHead
   exact bg5 (wpAny_loadPart (kk _ _ (k _ _ ho)) (bg9 q))
  ·cases h1
 have l2:PySem.W.Looks M h (typeOf (.ref D)) (.type "type"):=PySem.W.looks_typeIn k h2
 have l3:PySem.W.Looks M h (isSubtype (.ref D) (.type "BaseException")) true:=PySem.W.looks_subIn k h3
 have l4:PySem.W.Looks M h (isSubtype (.ref C) (.ref D)) true:=PySem.W.looks_subIn k h4
 have l5:PySem.W.Looks M h (typeOf (.ref e)) (.ref C):=hc ▸ (PySem.W.Looks.ld he).andThen .now
 have l6:PySem.W.Looks M h (isInstance (.ref D) (.type "tuple")) false:=l2.andThen (PySem.W.Looks.of_pure tc_notTuple)
 have l7:PySem.W.Looks M h (isExcClass (.ref D)) true:=by
  unfold isExcClass
  exact l1.andThen (by simpa using l3)
 have f:=tc_notTuple
 unfold excMatches
 repeat (first | exact hq | (with_reducible refine l2.at ?_) | (with_reducible refine l7.at ?_) | (with_reducible refine l1.at ?_) | (with_reducible refine l3.at ?_) | (with_reducible refine l5.at ?_) | (with_reducible refine l4.at ?_) | wp_step)
end
def wV (D:bP) (i:Nat):bP:={ nx:=fun σ H=>D.nx (σ.set i none) H,rt:=D.rt,bk:=fun σ H=>D.bk (σ.set i none) H,ct:=fun σ H=>D.ct (σ.set i none) H }
section
variable {X : Cx} {pins : List (Addr × Obj)} {σ : St} {H H1 H' : Hp} {s s1 s' : Shared} {B : Heap} {a C Ch : Addr} {i : Nat} {x n : Str} {np pos hpos : Pos} {b₀ : Stmt} {suite : List Stmt} {ts : TS} {D : bP} {cY : List ExceptHandler}
structure wW (K:PySem.W.Frag) (Ch:Addr):Prop where
 c1:(PySem.W.clsIn K Ch).isSome=true
 c2:PySem.W.typeIn K (.ref Ch)=some (.type "type")
 c3:PySem.W.subIn K (.ref Ch) (.type "BaseException")=some true
theorem aH2 (I:a8 X pins σ H1 s1) (fl:lJ X.prog X.w X.stack H1 s1 H' B a C s') (hstk:X.stack=X.env :: X.outer/\X.env.frame=some X.env.locals) (hg:Gl X x) (hm:X.mg x=some (.ref Ch)) (ct:wW X.K Ch) (sub:PySem.W.subIn X.K (.ref C) (.ref Ch)=some true)
  (hN:X.N.Nodup) (hi:X.N[i]? = some n) (hl:X.env.scope.names.lookup n=some .local) (hs:dH (X.suite a) (b₀ :: suite) ts) (q:∀ oe:Obj,oe.cls = .ref C->ts (wV D i) (σ.set i (some (.ref a))) (upd H' a (.frz oe (.own a)))) (hd:(x == ("__debug__" : Str))=false) :
  wpAny (model X.prog X.w) X.A (noteFrame (.ref a) X.env) (fun _ s₂=>wpAny (model X.prog X.w) X.A (setFlight (.ref a) none) (fun _ s₃=>wpAny (model X.prog X.w) X.A (handleBy (.ref a) X.env (.ExceptHandler (some (.Name x np)) (some n) (b₀ :: suite) hpos :: cY)) (SP X pins D) X.xe s₃) X.xe s₂) X.xe s':=by
 obtain ⟨a0,fly⟩:=fl.fly
 rw [hstk.1] at fly
 refine wpAny_looks_onW (outer:=X.outer) (L:=X.env.locals) (by rw [I.ok.frames,hstk.1]) hstk.2 fly fun h4 held up4=>wpAny_landsW held fun h5 fly5 up5=>?_
 obtain ⟨o5,v5,e5,c5,_⟩:=fly5.first
 have I5:=S0 I fl fly5.1 (up4.trans up5) e5
 refine wpAny_handleBy_cons (codeAny_handlers_test (nC (I5.suite a) hg hm ?_ hd)) (by intro z; cases z)
 refine aH1 I5.kIn e5 c5 ct.c1 ct.c2 ct.c3 sub ?_
 show codeAny (model X.prog X.w) (X.A.mark (some (.ref a))) (.handlers (.ref a) [.ExceptHandler none (some n) (b₀ :: suite) hpos] X.env) _ _
 refine codeAny_handlers_suite_as (lands_againW fly5 fun h6 fly6 up6=>?_)
 obtain ⟨o6,v6,e6,c6,_⟩:=fly6.first
 have I6:=S0 I fl fly6.1 ((up4.trans up5).trans up6) e6
 refine pO I6 hN hi (.inl hl) (v:=.ref a) rfl (fun s7 I7=>?_) (.inr hl)
 refine bp5 (hs pins s7 _ _ (wV D i) (I7.suite a) (q o6 c6)) (fun f s8 h8=>?_) fun _ _ z=>z.elim
 show wpAny (model X.prog X.w) X.A (do bindName X.env n .none; unbindBehindTheSuite X.env n hpos) (fun _ s9=>SP X pins D f s9) X.xe s8
 cases f with
 | next=>obtain ⟨σ',H',J,q⟩:=h8; exact rV (J.unsuite I.ok) hN hi hl fun s9 J9=>⟨_,_,J9,q⟩
 | brk=>obtain ⟨σ',H',J,q⟩:=h8; exact rV (J.unsuite I.ok) hN hi hl fun s9 J9=>⟨_,_,J9,q⟩
 | cont=>obtain ⟨σ',H',J,q⟩:=h8; exact rV (J.unsuite I.ok) hN hi hl fun s9 J9=>⟨_,_,J9,q⟩
 | ret u=>obtain ⟨v,σ',H',J,r,q⟩:=h8; exact rV (J.unsuite I.ok) hN hi hl fun s9 J9=>⟨v,_,_,J9,r,q⟩
end
abbrev TB:=bP->XK->St->Hp->Prop
def XB (X:Cx) (pins:List (Addr × Obj)) (σ:St) (Ex:XK):Value->Shared->Prop:=fun e s'=>∃ H1 s1,a8 X pins σ H1 s1/\dQ X.prog X.w X.stack H1 s1 Ex e s'
def PB (X:Cx) (sts:List Stmt) (t:TB):Prop:=
 ∀ (pins:List (Addr × Obj)) (s:Shared) (σ:St) (H:Hp) (D:bP) (Ex:XK),a8 X pins σ H s->t D Ex σ H->wpAny (model X.prog X.w) X.A (execs sts X.env) (SP X pins D) (XB X pins σ Ex) s
section
variable {X : Cx} {k : Nat} {f Ch : Addr} {fd : FuncData} {ps : List Str} {sp : Sp} {x n : Str} {p cp pos np hpos : Pos} {e c : Expr} {es : List Expr} {t : TA} {tb ub : TB} {tc : TT} {sa sb body : List Stmt} {i : Nat} {b₀ : Stmt} {suite : List Stmt} {ts : TS}
def S2 (K:PySem.W.Frag) (Ch:Addr) (i:Nat) (tb:TB) (ts:TS):TS:=fun D σ H=>
 tb D (fun c _ H'=>∀ (a C:Addr) (oe:Obj),c = .ref C->H' a=none->oe.cls = .ref C->PySem.W.subIn K (.ref C) (.ref Ch)=some true/\ts (wV D i) (σ.set i (some (.ref a))) (upd H' a (.frz oe (.own a)))) σ H
theorem aH3 (hstk:X.stack=X.env :: X.outer/\X.env.frame=some X.env.locals) (hb:PB X body tb) (hg:Gl X x) (hm:X.mg x=some (.ref Ch)) (ct:wW X.K Ch) (hN:X.N.Nodup) (hi:X.N[i]? = some n) (hl:X.env.scope.names.lookup n=some .local) (hs:∀ a,dH (X.suite a) (b₀ :: suite) ts)
  (hd:(x == ("__debug__" : Str))=false:=by decide):PS X (.Try body [.ExceptHandler (some (.Name x np)) (some n) (b₀ :: suite) hpos] [] [] pos) (S2 X.K Ch i tb ts):=by
 intro pins s σ H D I h
 refine wpAny_Try_except (bp5 (hb pins s σ H D _ I h) (fun fl s1 q=>?_) (fun ev s1 q=>?_))
 ·cases fl with
  | next=>exact wpAny_execs_nil q
  | _=>exact q
 ·obtain ⟨H1,s2,I1,H',B,a,C,e1,fl,q⟩:=q
  subst e1
  obtain ⟨a0,fly⟩:=fl.fly
  obtain ⟨o5,_,_,c5,_⟩:=fly.first
  exact aH2 I1 fl hstk hg hm ct (q a C o5 rfl fl.fresh c5).1 hN hi hl (hs a) (fun oe hc=>(q a C oe rfl fl.fresh hc).2) hd
end
end L2
namespace L2
open PySem PySem.Spec PyProof.Rows PySem.Calls Builtin Builtin.ObjectAttr Builtin.Getset_descriptor
structure iQ (K:PySem.W.Frag) (D:Addr):Prop where
 cls:(PySem.W.clsIn K D).isSome=true
 ga:PySem.W.findIn K (.ref D) "__getattribute__" = some (some (.builtin "BaseException.__getattribute__"))
 gt:PySem.W.findIn K (.ref D) "__getattr__" = some none
 fc:PySem.W.findIn K (.ref D) "__class__" = some (some (.builtin "object.__class__"))
 fg:PySem.W.specialIn K (.builtin "object.__class__") "__get__" = some (some (.builtin "getset_descriptor.__get__"))
 ft:PySem.W.takesIn K (.builtin "object.__class__")=some true
 ob:PySem.W.mroIn K D (.type "object")=some true
 be:PySem.W.mroIn K D (.type "BaseException")=some true
def kA (h:Heap) (x D:Addr):Prop:=∃ ox:Obj,h.get? x=some ox/\ox.cls = .ref D
theorem kA.type {h:Heap}{x D:Addr}{M:Model} (I:kA h x D):PySem.W.Looks M h (typeOf (.ref x)) (.ref D):=by
 obtain ⟨ox,e,c⟩:=I
 exact c ▸ (PySem.W.Looks.ld e).andThen .now
section
variable {prog : Program} {w : World} {A : Around} {E : Value → Shared → Prop} {K : PySem.W.Frag} {x D : Addr} {h : Heap} {g : Array GenState} {d : Drawn} {t : Nat} {os : OsState}
theorem aH4 {M:Model} (F:iQ K D) (k:K.In h):PySem.W.Looks M h (find (.ref x) (.ref D) "__class__") (.bind (.builtin "getset_descriptor.__get__") (.builtin "object.__class__")):=by
 have L1:=PySem.W.looks_findIn (M:=M) k F.fc
 have L2:=PySem.W.looks_specialIn (M:=M) k F.fg
 have L3:=PySem.W.looks_takesIn (M:=M) k F.ft
 unfold find
 refine L1.andThen (PySem.W.Looks.andThen (a:=some (Value.builtin "getset_descriptor.__get__")) L2 ?_)
 refine PySem.W.Looks.andThen (a:=some (Value.builtin "getset_descriptor.__get__",Value.builtin "object.__class__")) ?_ (PySem.W.Looks.tag .now)
 unfold dataDescriptor?
 exact L3.andThen .now
theorem aH5 {tp:Value}{R:Result->Shared->Prop} (F:iQ K D) (k:K.In h) (I:kA h x D) (hq:R (.ok (.ret (.ref D))) ⟨h,g,d,t,os⟩):codeAny (model prog w) A (.call (.builtin "getset_descriptor.__get__") ⟨[.builtin "object.__class__",.ref x,tp],[]⟩) R ⟨h,g,d,t,os⟩:=by
 have L0:=I.type (M:=model prog w)
 have L1:=PySem.W.looks_mroIn (M:=model prog w) k F.ob
 refine codeAny_call_builtin PySem.W.KF.slot_gs.plain PySem.W.KF.entry_gs (PySem.W.KF.slot_gs.check _ _ _ _ _ _ _ _ PySem.W.KF.type_class (PySem.W.KF.args_gs _ _ _) ?_)
 unfold Builtin.«getset_descriptor.__get__» descrGet; rw [PySem.W.dga_obj]
 refine bg5 (bg9 ?_); unfold descrGetter descrCheckInstance descrNameAndClass isInstance
 simp only [PySem.W.KF.owner_class]
 repeat lk
 refine⟨Code.quiet_builtin _ (by decide +kernel),bw1 PySem.W.KF.entry_class ?_⟩; unfold Builtin.«object.__class__» shownTypeOf
 repeat lk
 exact hq
theorem aH6 {M:Model}{nameV:Value}{Q:Unit->Shared->Prop} (F:iQ K D) (k:K.In h) (I:kA h x D) (hq:Q () ⟨h,g,d,t,os⟩):wpAny M A (checkBuiltinCall "BaseException.__getattribute__" ⟨[.ref x,nameV],[]⟩) Q E ⟨h,g,d,t,os⟩:=by
 have kd:builtinKind "BaseException.__getattribute__" = some .slot:=by decide +kernel
 have sp:splitId "BaseException.__getattribute__" = some ("BaseException","__getattribute__"):=by decide +kernel
 have L:PySem.W.Looks M h (isInstance (.ref x) (.type "BaseException")) true:=(I.type (M:=M)).andThen (PySem.W.looks_mroIn k F.be)
 have ha:=PySem.F.args_bexc_ga (.ref x) nameV
 simp only [checkBuiltinCall,kd,sp]
 refine bg5 (L.at ?_)
 repeat (any_goals (first | assumption | wp_step))
theorem aH7 {tk:Tok}{Q:Fin->Shared->Prop} (F:iQ K D) (k:K.In h) (I:kA h x D) (hq:Q (.done (.ret (.ref D))) ⟨h,g,d,t,os⟩):wpAny (model prog w) A (Builtin.«object.__getattribute__» ⟨[.ref x,.str "__class__" tk],[]⟩) Q E ⟨h,g,d,t,os⟩:=by
 have L0:=I.type (M:=model prog w)
 have L1:=aH4 (M:=model prog w) F k (x:=x)
 refine bg5 (bg9 (bg5 (bg9 (bg5 (L0.at (bg5 (L1.at ?_)))))))
 show wpAny _ _ (holding [_] (call _ _) >>= ret) _ _ _
 exact bg5 (bp0 (wpAny_call (aH5 F k I (bg9 hq))))
theorem aH8 {tk:Tok}{R:Result->Shared->Prop} (F:iQ K D) (k:K.In h) (I:kA h x D) (hq:R (.ok (.ret (.ref D))) ⟨h,g,d,t,os⟩):codeAny (model prog w) A (.call (.builtin "BaseException.__getattribute__") ⟨[.ref x,.str "__class__" tk],[]⟩) R ⟨h,g,d,t,os⟩:=
 codeAny_call_builtin PySem.F.excAttr_ValueError.ga.plain PySem.F.entry_bexc_ga (aH6 F k I (aH7 F k I hq))
theorem aH9 {Q:Option Value->Shared->Prop} (F:iQ K D) (k:K.In h) (I:kA h x D) (hq:Q (some (.ref D)) ⟨h,g,d,t+1,os⟩):wpAny (model prog w) A (getAttr? (.ref x) "__class__") Q E ⟨h,g,d,t,os⟩:=by
 have L0:=I.type (M:=model prog w)
 have L1:=PySem.W.looks_findIn (M:=model prog w) k F.ga
 have L2:=PySem.W.looks_findIn (M:=model prog w) k F.gt
 have f3:=PySem.F.excAttr_ValueError.ga.bind (.ref x)
 unfold getAttr? getAttrBy? getAttrBy
 refine bg5 (wpAny_mkText (bg5 (wpAny_attempt (bp0 (bg5 (L0.at (bg5 (L1.at ?_))))))))
 have nx:(onTheHeap (Value.ref D) && Value.builtin "BaseException.__getattribute__" == Value.builtin "object.__getattribute__")=false:=by
  rw [show (Value.builtin "BaseException.__getattribute__" == Value.builtin "object.__getattribute__")=false by decide +kernel,Bool.and_false]
 dsimp only
 rw [if_neg (by rw [nx]; decide)]
 unfold getAttrByItsOwn hookBefore
 repeat (any_goals (first | assumption | (with_reducible refine L2.at ?_) | wp_step))
 exact aH8 F k I (PySem.W.handed_on rfl (bg9 hq))
end
theorem aI0 {K:PySem.W.Frag}{x D:Addr} (F:iQ K D):PySem.W.KitX K (.ref x) (.ref D) (fun h=>kA h x D) where
 ty:=fun _ _ _ I=>I.type
 it:=fun M h k _=>by
  have z:=F.cls
  unfold PySem.W.clsIn at z
  split at z
  ·rename_i c' d' cd' sl' ho
   intro A' Q' E' s' kk q
   unfold isType loadHead
   exact bg5 (wpAny_loadPart (kk _ _ (k _ _ ho)) (bg9 q))
  ·cases z
 ne:=fun h tp dd its n sl k htp=>by
  have z:=F.cls
  refine Bool.eq_false_iff.mpr fun q=>?_
  obtain rfl:D=tp:=Value.ref.inj (beq_iff_eq.mp q)
  unfold PySem.W.clsIn at z
  split at z
  ·rename_i ho
   have y:=(k _ _ ho).symm.trans htp
   cases y
  ·cases z
 ca:=fun {_ _ _ _ _ s} k I q=>by
  obtain ⟨h,g,d,t,os⟩:=s
  exact aH9 F k I q
end L2
namespace Core
open PySem L2 PP
def iB (ns:List Int):Bool:=((ns.zip (ns.drop 1)).map fun p=>decide (p.1 < p.2)).all id
theorem p5 {α β:Type}{l:List α}{f:α->β}{i:Nat}{x:α} (h:l[i]? = some x):(l.take (i+1)).map f=(l.take i).map f ++ [f x]:=by
 rw [bp1,h]; simp
theorem fG:∀ {ns:List Int},iB ns=true->ns.Pairwise (· < ·)
 | [],_=>.nil
 | [x],_=>bn5 _ _
 | x :: y :: r,h=>by
  have e:iB (x :: y :: r)=(decide (x < y) && iB (y :: r)):=rfl
  rw [e,bl7] at h
  have ih:=fG h.2
  refine List.pairwise_cons.mpr ⟨fun z hz=>?_,ih⟩
  rcases bh1.mp hz with rfl | hz
  ·exact bq8 h.1
  ·exact Int.lt_trans (bq8 h.1) (List.rel_of_pairwise_cons ih hz)
theorem wX:∀ {ns:List Int},ns.Pairwise (· < ·)->iB ns=true
 | [],_=>rfl
 | [x],_=>rfl
 | x :: y :: r,h=>by
  have e:iB (x :: y :: r)=(decide (x < y) && iB (y :: r)):=rfl
  have h':=List.pairwise_cons.mp h
  rw [e,wX h'.2,Bool.and_true]
  exact bh3 (h'.1 y bi4)
def kin (ws:List Int) (ls:List (Int × Int)) (S:List Int) (h:Int):Bool:=!decide (h ∈ S) && decide (ws.getD h.toNat 0<=(((bL ls h).filter fun x=>decide (x ∈ S)).length:Int))
def nextOf (ws:List Int) (ls:List (Int × Int)) (S:List Int):List Int:=((List.range ws.length).map fun (i:Nat)=>(i:Int)).filter (kin ws ls S)
def aS (ws:List Int) (ls:List (Int × Int)) (S:List Int):Nat->List Int
 | 0=>S
 | k+1=>aS ws ls S k ++ nextOf ws ls (aS ws ls S k)
def cold (ws:List Int) (S:List Int):Nat:=(((List.range ws.length).map fun (i:Nat)=>(i:Int)).filter fun x=>!decide (x ∈ S)).length
theorem wY {α:Type} (p q:α->Bool) (h:∀ x,q x=true->p x=false):∀ L:List α,(L.filter fun x=>!p x && !q x).length+(L.filter q).length=(L.filter fun x=>!p x).length
 | []=>rfl
 | x :: r=>by
  have ih:=wY p q h r
  cases e1:p x with
  | true=>
   have e2:q x=false:=by
    cases e:q x with
    | false=>rfl
    | true=>have:=h x e; rw [e1] at this; cases this
   simp only [bv1,e1,e2,Bool.not_true,Bool.false_and,bj4,bo4]
   exact ih
  | false=>
   cases e2:q x with
   | true=>
    simp only [bv1,e1,e2,Bool.not_true,Bool.not_false,Bool.and_false,bj4,bo4,if_true,bk2]
    omega
   | false=>
    simp only [bv1,e1,e2,Bool.not_false,Bool.and_true,bj4,bo4,if_true,bk2]
    omega
theorem wZ {ws:List Int}{ls:List (Int × Int)}{S:List Int}{x:Int} (h:kin ws ls S x=true):decide (x ∈ S)=false:=by
 unfold kin at h
 cases e:decide (x ∈ S) with
 | false=>rfl
 | true=>rw [e] at h; cases h
theorem x3 (ws:List Int) (ls:List (Int × Int)) (S:List Int):cold ws (S ++ nextOf ws ls S)+(nextOf ws ls S).length=cold ws S:=by
 have e:=wY (fun x=>decide (x ∈ S)) (kin ws ls S) (fun x h=>wZ h) ((List.range ws.length).map fun (i:Nat)=>(i:Int))
 unfold cold
 rw [<- e]
 congr 2
 refine List.filter_congr fun x hx=>?_
 have:decide (x ∈ S ++ nextOf ws ls S)=(decide (x ∈ S) || kin ws ls S x):=by
  rw [bl1]
  unfold nextOf
  simp only [bi5,bk0,bj8,Bool.or_eq_true]
  exact⟨fun z=>z.elim .inl fun z=>.inr z.2,fun z=>z.elim .inl fun z=>.inr ⟨hx,z⟩⟩
 rw [this]
 cases decide (x ∈ S) <;> cases kin ws ls S x <;> rfl
theorem aI1 (ws:List Int) (S:List Int):cold ws S<=ws.length:=by
 unfold cold
 refine bk3 (bs5 _ _) ?_
 rw [bh4,bu0]; exact bh0 _
theorem aI2 (ws:List Int) (ls:List (Int × Int)) (S:List Int):(nextOf ws ls S).length<=ws.length:=by
 unfold nextOf
 refine bk3 (bs5 _ _) ?_
 rw [bh4,bu0]; exact bh0 _
def after (ws:List Int) (ls:List (Int × Int)) (S:List Int) (m:Nat):List (List Int):=(List.range m).map fun k=>nextOf ws ls (aS ws ls S k)
theorem S3 (ws:List Int) (ls:List (Int × Int)) (S:List Int) (m:Nat):after ws ls S (m+1)=after ws ls S m ++ [nextOf ws ls (aS ws ls S m)]:=by
 unfold after
 rw [List.range_succ,bl4]; rfl
theorem rW (ws:List Int) (ls:List (Int × Int)) (ns:List Int):∀ k,(aS ws ls ns k).length+cold ws (aS ws ls ns k)=ns.length+cold ws ns
 | 0=>rfl
 | k+1=>by
  have ih:=rW ws ls ns k
  have cs:=x3 ws ls (aS ws ls ns k)
  show (aS ws ls ns k ++ nextOf ws ls (aS ws ls ns k)).length+cold ws (aS ws ls ns k ++ nextOf ws ls (aS ws ls ns k))=_
  rw [bi3]; omega
theorem x4 {ws ns:List Int} (hu:ns.Pairwise (· < ·)) (hin:∀ x ∈ ns,0<=x/\x < (ws.length:Int)):ns.length+cold ws ns<=ws.length:=by
 have nd:ns.Nodup:=hu.imp fun h=>Int.ne_of_lt h
 have sub:ns ⊆ ((List.range ws.length).map fun (i:Nat)=>(i:Int)).filter fun x=>decide (x ∈ ns):=fun x hx=>by
  refine bj8.mpr ⟨bn2.mpr ⟨x.toNat,List.mem_range.mpr ?_,?_⟩,bh3 hx⟩
  ·have:=hin x hx; omega
  ·have:=hin x hx; omega
 have h1:=nd.length_le_of_subset sub
 have h2:=wY (fun _=>false) (fun x=>decide (x ∈ ns)) (fun _ _=>rfl) ((List.range ws.length).map fun (i:Nat)=>(i:Int))
 have h3:(((List.range ws.length).map fun (i:Nat)=>(i:Int)).filter fun x=>!false && !decide (x ∈ ns)).length=cold ws ns:=rfl
 have h4:(((List.range ws.length).map fun (i:Nat)=>(i:Int)).filter fun x=>!false).length<=ws.length:=by
  refine bk3 (bs5 _ _) ?_
  rw [bh4,bu0]; exact bh0 _
 rw [h3] at h2
 omega
theorem x5 (ws:List Int) (ls:List (Int × Int)) (ns:List Int):∀ m,(ns :: after ws ls ns m).flatten=aS ws ls ns m
 | 0=>by simp [after,aS]
 | m+1=>by
  rw [S3,<- List.cons_append,List.flatten_append,x5 ws ls ns m]
  simp [aS]
def bP (ws:List Int) (ls:List (Int × Int)) (ns:List Int) (m:Nat):Prop:=(∀ k < m,nextOf ws ls (aS ws ls ns k) ≠ [])/\nextOf ws ls (aS ws ls ns m) = []
theorem S4 {ws:List Int}{ls:List (Int × Int)}{ns:List Int}:∀ (m:Nat),(∀ k < m,nextOf ws ls (aS ws ls ns k) ≠ [])->m+cold ws (aS ws ls ns m)<=ws.length
 | 0,_=>by have:=aI1 ws ns; show 0+cold ws ns<=_; omega
 | m+1,h=>by
  have ih:=S4 m fun k hk=>h k (by omega)
  have cs:=x3 ws ls (aS ws ls ns m)
  have:1<=(nextOf ws ls (aS ws ls ns m)).length:=by
   cases e:nextOf ws ls (aS ws ls ns m) with
   | nil=>exact absurd e (h m (by omega))
   | cons _ _=>exact Nat.succ_le_succ (bl6 _)
  show m+1+cold ws (aS ws ls ns m ++ nextOf ws ls (aS ws ls ns m))<=_
  omega
theorem fH {ns:List Int}{i:Nat}{x:PV} (h:(intz ns)[i]? = some x):∃ n,x = .int n/\ns[i]? = some n:=by
 rw [bh9] at h
 cases e:ns[i]? with
 | none=>rw [e] at h; cases h
 | some n=>rw [e] at h; exact⟨n,(bj9 h).symm,rfl⟩
theorem kB {lo:Int}{n i:Nat}{x:PV} (h:(eQ lo n)[i]? = some x):x = .int (lo+i)/\i < n:=by
 have hi:i < n:=by
  have:=(bh7.mp h).1
  rwa [eR] at this
 rw [K8 hi] at h
 exact⟨(bj9 h).symm,hi⟩
def rng (n:Nat):List Int:=(List.range n).map fun (i:Nat)=>(i:Int)
theorem iC (n:Nat):(rng n).length=n:=by unfold rng; rw [bh4,bu0]
theorem p6 {n i:Nat} (h:i < n):(rng n)[i]? = some (i:Int):=by unfold rng; rw [bh9,List.getElem?_range h]; rfl
theorem gN {n:Nat}{x:Int}:x ∈ rng n ↔ 0<=x/\x < (n:Int):=by
 unfold rng
 rw [bn2]
 constructor
 ·rintro ⟨i,hi,rfl⟩
  have:=List.mem_range.mp hi
  omega
 ·intro h
  exact⟨x.toNat,List.mem_range.mpr (by omega),by omega⟩
theorem jN {α:Type}{l:List α}{p:α->Bool}{i:Nat}{x:α} (h:l[i]? = some x):(l.take (i+1)).filter p=(l.take i).filter p ++ (if p x=true then [x] else []):=by
 rw [bp1,h,List.filter_append]
 congr 1
 cases e:p x <;> simp [e]
theorem gO (a b:List Int):intz (a ++ b)=intz a ++ intz b:=bl4
theorem aX (a:List Int):(intz a).length=a.length:=bh4 _
def bC (ws:List Int) (ls:List (Int × Int)):PV:=.tup [.tup (intz ws),.tup (ls.map fun l=>.tup [.int l.1,.int l.2])]
structure Wb (ws:List Int) (ls:List (Int × Int)):Prop where
 few:ws.length<=40
 most:ls.length<=1700
 links:∀ l ∈ ls,(0<=l.1/\l.1 < ws.length)/\0<=l.2/\l.2 < ws.length
def cM (x:PV) (ns:List Int):Prop:=x = .tup (intz ns) ∨ x = .lst (intz ns)
theorem cM.seq {x:PV}{ns:List Int} (h:cM x ns):iN x=some (intz ns):=by rcases h with rfl | rfl <;> rfl
theorem cM.seqT {x:PV}{ns:List Int} (h:cM x ns):seqT x=some (intz ns):=by rcases h with rfl | rfl <;> rfl
theorem S5:∀ (ls:List (Int × Int)),flats (ls.map fun l=>PV.tup [.int l.1,.int l.2])=true
 | []=>rfl
 | l :: r=>by
  show (flat (.tup [.int l.1,.int l.2]) && flats (r.map fun l=>PV.tup [.int l.1,.int l.2]))=true
  rw [S5 r]; rfl
theorem lK (ns:List Int):flat (.tup (intz ns))=true:=cW ns
def iR:bH:=fun xs Q=>∃ ws ls,xs = [bC ws ls]/\Q (.int ws.length)
def S6:aL:=(bF (aC bT (a6 (bI (a5 0) (qC (.int 0))) a9)))
abbrev cG (t:aL) (N:List Str) (p:bH):Prop:=∀ xs Q,p xs Q->t { nx:=fun _=>Q .non,rt:=Q } (fD N xs)
theorem aI3:cG S6 ["web"] iR:=by
 rintro xs Q ⟨ws,ls,rfl,q⟩
 refine⟨_,rfl,_,_,_,rfl,rfl,rfl,_,_,rfl,rfl,trivial,?_⟩
 rw [aX]; exact q
def x6:bH:=fun xs Q=>∃ x ns,xs = [x]/\cM x ns/\ns.length<=1000/\Q (.bl (iB ns))
def inB (n:Nat) (x:Int):Bool:=decide (0<=x) && decide (x < (n:Int))
def rX:bH:=fun xs Q=>∃ ws ls n,xs = [bC ws ls,.int n]/\Q (.bl (inB ws.length n))
def S7:aL:=(bF (jC (oI (a5 1) (qC (.int 0))) (vZ (a5 1) (aC iR (a6 (a5 0) a9)))))
theorem aI4:cG S7 ["web","number"] rX:=by
 rintro xs Q ⟨ws,ls,n,rfl,q⟩
 refine⟨_,rfl,_,_,rfl,rfl,_,rfl,?_⟩
 unfold inB at q
 by_cases h:(0:Int)<=n
 ·rw [bh3 h] at q ⊢
  refine aZ ⟨_,rfl,_,rfl,ws,ls,rfl,_,_,rfl,rfl,trivial,?_⟩
  simpa using q
 ·rw [bh2 h] at q ⊢
  exact aW ⟨trivial,by simpa using q⟩
def aP (n:Nat) (ns:List Int):Bool:=iB ns && (ns.map (inB n)).all id
def mO:bH:=fun xs Q=>∃ ws ls x ns,xs = [bC ws ls,x]/\cM x ns/\ns.length<=1000/\Q (.bl (aP ws.length ns))
def S8:aL:=(bF (jC (aC x6 (a6 (a5 1) a9)) (aC vM (a6 (dX (dM (a5 1)) [none,some 0] (cA 0) iO (aC rX (a6 (a5 1) (a6 (a5 0) a9)))) a9))))
theorem mP {x:PV}{ns:List Int} (h:cM x ns):(Slot.sh (flat x) x).tag = .rd->flat x=true:=by
 cases flat x <;> intro z <;> cases z
theorem aI5:cG S8 ["web","numbers"] mO:=by
 rintro xs Q ⟨ws,ls,x,ns,rfl,hx,hl,q⟩
 refine⟨_,rfl,x,ns,rfl,hx,hl,_,rfl,?_⟩
 unfold aP at q
 cases h:iB ns with
 | false=>rw [h] at q; exact aW ⟨trivial,q⟩
 | true=>
  rw [h] at q
  refine aZ ⟨_,rfl,_,hx.seq,mP hx,by rw [aX]; omega,fun i acc=>acc=(((ns.take i).map (inB ws.length)).map PV.bl),rfl,?_,?_⟩
  ·rintro i y acc hy rfl
   obtain ⟨n,rfl,hn⟩:=fH hy
   have tk:((ns.take (i+1)).map (inB ws.length)).map PV.bl=((ns.take i).map (inB ws.length)).map PV.bl ++ [PV.bl (inB ws.length n)]:=by rw [p5 hn,bl4]; rfl
   exact⟨_,rfl,_,rfl,ws,ls,n,rfl,trivial,tk.symm⟩
  ·rintro acc rfl
   rw [aX,bk7]
   exact⟨_,rfl,trivial,by simpa using q⟩
theorem cM.noscr {x:PV}{ns:List Int} (h:cM x ns):∀ ms,([x]:List PV) ≠ [.scr ms]:=by
 rcases h with rfl | rfl <;> intro ms z <;> cases z
structure DS (ps:List (aE × PV)) (S:List Int):Prop where
 has:∀ i:Int,(c7 ps (Sum.inl i:aE)).isSome=decide (i ∈ S)
 len:ps.length<=S.length
 fl:flats (ps.map (·.2))=true
theorem DS.nil:DS [] []:=⟨fun i=>rfl,bh0 _,rfl⟩
section
variable {κ : Type} [DecidableEq κ]
theorem aI6 {k:κ}:c7 ([]:List (κ × PV)) k=none:=rfl
theorem iS {p:κ × PV}{r:List (κ × PV)}{k:κ} (e:p.1=k):c7 (p :: r) k=some p.2:=by simp [c7,br2,e]
theorem iT {p:κ × PV}{r:List (κ × PV)}{k:κ} (e : ¬ p.1=k):c7 (p :: r) k=c7 r k:=by simp [c7,br2,e]
theorem x8 (k:κ):∀ kvs:List (κ × PV),(kvs.any fun kv=>decide (kv.1=k))=(c7 kvs k).isSome
 | []=>rfl
 | p :: r=>by
  rw [List.any_cons]
  by_cases e:p.1=k
  ·simp only [iS e,bh3 e,Bool.true_or,Option.isSome_some]
  ·rw [iT e,bh2 e,Bool.false_or]; exact x8 k r
theorem S9 (k j:κ) (y:PV):∀ kvs:List (κ × PV),c7 (kvs.map fun kv=>if kv.1=k then (kv.1,y) else kv) j=(c7 kvs j).map fun x=>if j=k then y else x
 | []=>rfl
 | p :: r=>by
  have ih:=S9 k j y r
  rw [bn6]
  by_cases h:p.1=k
  ·rw [if_pos h]
   by_cases e:p.1=j
   ·rw [iS (p:=(p.1,y)) e,iS e,Option.map_some,if_pos (e.symm.trans h)]
   ·rw [iT (p:=(p.1,y)) e,iT e,ih]
  ·rw [if_neg h]
   by_cases e:p.1=j
   ·rw [iS (p:=p) e,iS e,Option.map_some,if_neg (fun z=>h (e.trans z))]
   ·rw [iT (p:=p) e,iT e,ih]
theorem T0 (k j:κ) (y:PV):∀ kvs:List (κ × PV),c7 kvs k=none->c7 (kvs ++ [(k,y)]) j=if j=k then some y else c7 kvs j
 | [],_=>by
  by_cases e:k=j
  ·rw [if_pos e.symm]; exact iS (p:=(k,y)) e
  ·rw [if_neg (fun z=>e z.symm)]; exact iT (p:=(k,y)) e
 | p :: r,hn=>by
  rw [List.cons_append]
  have hk : ¬ p.1=k:=fun z=>by rw [iS z] at hn; cases hn
  rw [iT hk] at hn
  have ih:=T0 k j y r hn
  by_cases e:p.1=j
  ·rw [iS e,iS e,if_neg (fun z=>hk (e.trans z))]
  ·rw [iT e,iT e,ih]
theorem T1 (kvs:List (κ × PV)) (k j:κ) (y:PV):c7 (dJ kvs k y) j=if j=k then some y else c7 kvs j:=by
 unfold dJ
 by_cases a:(kvs.any fun kv=>decide (kv.1=k))=true
 ·rw [if_pos a,S9]
  rw [x8] at a
  by_cases e:j=k
  ·obtain ⟨x,hx⟩:=Option.isSome_iff_exists.mp a
   rw [if_pos e,e,hx,Option.map_some,if_pos rfl]
  ·rw [if_neg e]
   cases c7 kvs j with
   | none=>rfl
   | some x=>rw [Option.map_some,if_neg e]
 ·rw [if_neg a]
  refine T0 k j y kvs ?_
  rw [x8] at a
  cases q:c7 kvs k with
  | none=>rfl
  | some x=>rw [q] at a; exact (a rfl).elim
theorem T4 (kvs:List (κ × PV)) (k:κ) (v:PV):(dJ kvs k v).length<=kvs.length+1:=by
 unfold dJ
 split
 ·rw [bh4]; omega
 ·rw [bi3,bk2,List.length_nil]; omega
end
theorem x9:∀ (xs:List PV),flats xs=true ↔ ∀ x ∈ xs,flat x=true
 | []=>by simp [flats]
 | x :: r=>by
  unfold flats
  rw [bl7,x9 r]; simp
theorem aI7 {κ:Type} [DecidableEq κ] {ps:List (κ × PV)}{k:κ}{v:PV}{p:κ × PV} (h:p ∈ dJ ps k v):p.2=v ∨ p ∈ ps:=by
 unfold dJ at h
 split at h
 ·obtain ⟨q,hq,e⟩:=bn2.mp h
  split at e
  ·subst e; exact .inl rfl
  ·subst e; exact .inr hq
 ·rcases bk0.mp h with h | h
  ·exact .inr h
  ·rw [bh8.mp h]; exact .inl rfl
theorem T5 {κ:Type} [DecidableEq κ] {ps:List (κ × PV)}{k:κ}{v:PV} (h:flats (ps.map (·.2))=true) (hv:flat v=true):flats ((dJ ps k v).map (·.2))=true:=by
 rw [x9] at h ⊢
 intro x hx
 obtain ⟨p,hp,rfl⟩:=bn2.mp hx
 rcases aI7 hp with e | e
 ·rw [e]; exact hv
 ·exact h _ (bn2.mpr ⟨p,e,rfl⟩)
theorem DS.put {ps:List (aE × PV)}{S:List Int} (h:DS ps S) (x:Int) (v:PV) (hv:flat v=true):DS (dJ ps (Sum.inl x:aE) v) (S ++ [x]):=by
 refine⟨fun i=>?_,?_,T5 h.fl hv⟩
 ·rw [T1]
  by_cases e:i=x
  ·subst e; rw [if_pos rfl]; simp
  ·rw [if_neg (fun z=>e (Sum.inl.inj z)),h.has]
   simp [e]
 ·have:=T4 ps (Sum.inl x:aE) v
  have:=h.len
  rw [bi3,bm4]; omega
theorem DS.merge {S:List Int}:∀ {mp ps:List (aE × PV)}{T:List Int},DS ps S->DS mp T->DS (i8 ps mp) (S ++ T):=by
 have key:∀ (mp:List (aE × PV)) {ps:List (aE × PV)} (i:Int),(c7 (i8 ps mp) (Sum.inl i:aE)).isSome=((c7 ps (Sum.inl i:aE)).isSome || (c7 mp (Sum.inl i:aE)).isSome):=fun mp=>by
  induction mp with
  | nil=>intro ps i; show (c7 ps (Sum.inl i:aE)).isSome=_; rw [aI6]; simp
  | cons p r ih=>
   intro ps i
   show (c7 (i8 (dJ ps p.1 p.2) r) (Sum.inl i:aE)).isSome=_
   rw [ih,T1]
   by_cases e:(Sum.inl i:aE)=p.1
   ·rw [if_pos e,iS e.symm]; simp
   ·rw [if_neg e,iT (Ne.symm e)]
 have keyl:∀ (mp:List (aE × PV)) {ps:List (aE × PV)},(i8 ps mp).length<=ps.length+mp.length:=fun mp=>by
  induction mp with
  | nil=>intro ps; exact bh0 _
  | cons p r ih=>
   intro ps
   have h1:=ih (ps:=dJ ps p.1 p.2)
   have h2:=T4 ps p.1 p.2
   show (i8 (dJ ps p.1 p.2) r).length<=_
   rw [bk2]; omega
 have keyf:∀ (mp:List (aE × PV)) {ps:List (aE × PV)},flats (ps.map (·.2))=true->flats (mp.map (·.2))=true->flats ((i8 ps mp).map (·.2))=true:=fun mp=>by
  induction mp with
  | nil=>intro ps h _; exact h
  | cons p r ih=>
   intro ps h g
   have g:(flat p.2 && flats (r.map (·.2)))=true:=g
   rw [bl7] at g
   exact ih (ps:=dJ ps p.1 p.2) (T5 h g.1) g.2
 intro mp ps T h g
 refine⟨fun i=>?_,?_,keyf mp h.fl g.fl⟩
 ·rw [key,h.has,g.has,bl1]; simp
 ·have:=keyl mp (ps:=ps)
  have:=h.len
  have:=g.len
  rw [bi3]; omega
def iD:bH:=fun xs Q=>∃ x ns,xs = [x]/\cM x ns/\ns.length<=1000/\∀ ps,DS ps ns->Q (.dK ps)
def T6:aL:=(aJ (i7 1 (qC (.dK [])))
 (aJ (dW (dM (a5 0)) (cA 2)
  (r6 1 (a5 2) (qC (.bl true))))
 (iM 1)))
theorem aI8:cG T6 ["hearths","inside","hearth"] iD:=by
 rintro xs Q ⟨x,ns,rfl,hx,hl,q⟩
 refine⟨rfl,rfl,_,rfl,_,hx.seq,mP hx,fun i ρ=>∃ y ps,ρ = [some (.sh (flat x) x),some (.own (.dK ps)),y]/\DS ps (ns.take i),⟨none,[],rfl,DS.nil⟩,?_,?_⟩
 ·rintro i y ρ hy ⟨y0,ps,rfl,d⟩
  obtain ⟨n,rfl,hn⟩:=fH hy
  have hlen:=d.len
  rw [bn9] at hlen
  refine⟨_,rfl,_,rfl,Sum.inl n,rfl,trivial,by omega,_,_,rfl,?_⟩
  rw [bp1,hn]
  exact d.put n _ rfl
 ·rintro ρ ⟨y,ps,rfl,d⟩
  rw [aX,bk7] at d
  exact⟨_,rfl,trivial,q ps d⟩
def kC:bH:=fun xs Q=>∃ x ns ps S,xs = [x,.dK ps]/\cM x ns/\DS ps S/\ns.length<=10000/\Q (.int ((ns.filter fun x=>decide (x ∈ S)).length:Nat))
def T7:aL:=(bF (aC bT (a6 (dX (dM (a5 0)) [none,some 1] (cA 0) (aU (k4 false (a5 0) (a5 1))) (a5 0)) a9)))
theorem aI9:cG T7 ["hearths","inside"] kC:=by
 rintro xs Q ⟨x,ns,ps,S,rfl,hx,d,hl,q⟩
 refine⟨_,rfl,_,hx.seq,mP hx,by rw [aX]; omega,fun i acc=>acc=intz ((ns.take i).filter fun x=>decide (x ∈ S)),rfl,?_,?_⟩
 ·rintro i y acc hy rfl
  obtain ⟨n,rfl,hn⟩:=fH hy
  have tk:=jN (p:=fun x=>decide (x ∈ S)) hn
  refine⟨_,rfl,_,rfl,_,.inl ⟨ps,Sum.inl n,rfl,rfl,rfl⟩,_,rfl,?_⟩
  show if (c7 ps (Sum.inl n:aE)).isSome=true then _ else _
  rw [d.has n]
  by_cases h:n ∈ S
  ·rw [bh3 h] at tk ⊢
   refine aZ ⟨_,rfl,trivial,?_⟩
   rw [if_pos rfl] at tk
   show _=intz (List.filter _ (List.take (i+1) ns))
   rw [tk,gO]; rfl
  ·rw [bh2 h] at tk ⊢
   refine aW ?_
   rw [if_neg (by decide),bk1] at tk
   show _=intz (List.filter _ (List.take (i+1) ns))
   rw [tk]
 ·rintro acc rfl
  rw [aX,bk7]
  refine⟨_,_,rfl,rfl,trivial,?_⟩
  rw [aX]; exact q
def gP (n:Nat) (ls:List (Int × Int)):List PV:=(List.range n).map fun (k:Nat)=>PV.lst (intz (bL ls k))
def lM:bH:=fun xs Q=>∃ ws ls,xs = [bC ws ls]/\Wb ws ls/\Q (.lst (gP ws.length ls))
theorem rY {n:Nat}{ls:List (Int × Int)}{h:Int} (h0:0<=h) (h1:h < (n:Int)):atI (gP n ls) h=some (.lst (intz (bL ls h))):=by
 refine kT h0 ?_
 unfold gP
 rw [bh9,List.getElem?_range (by omega)]
 show some (PV.lst (intz (bL ls ((h.toNat:Nat):Int))))=_
 rw [show ((h.toNat:Nat):Int)=h by omega]
def rZ:bH:=fun xs Q=>∃ ws ls ps S h,xs = [bC ws ls,.lst (gP ws.length ls),.dK ps,.int h]/\Wb ws ls/\DS ps S/\0<=h/\h < (ws.length:Int)/\Q (.bl (kin ws ls S h))
def T8:aL:=(bF (jC (k4 true (a5 3) (a5 2)) (oI (aC kC (a6 (bI (a5 1) (a5 3)) (a6 (a5 2) a9))) (bI (bI (a5 0) (qC (.int 0))) (a5 3)))))
theorem sA {ws:List Int}{h:Int} (h0:0<=h) (h1:h < (ws.length:Int)):atI (intz ws) h=some (.int (ws.getD h.toNat 0)):=by
 refine kT h0 ?_
 have:h.toNat < ws.length:=by omega
 rw [bh9,bi7,bg8 this]; rfl
theorem aJ0:cG T8 ["web","around","burning","hearth"] rZ:=by
 rintro xs Q ⟨ws,ls,ps,S,h,rfl,wb,d,h0,h1,q⟩
 refine⟨_,rfl,_,rfl,_,.inl ⟨ps,Sum.inl h,rfl,rfl,rfl⟩,_,rfl,?_⟩
 show if (!(c7 ps (Sum.inl h:aE)).isSome)=true then _ else _
 rw [d.has h]
 unfold kin at q
 by_cases hm:h ∈ S
 ·rw [bh3 hm] at q ⊢
  exact aW ⟨trivial,by simpa using q⟩
 ·rw [bh2 hm] at q ⊢
  have nl:=jV ls h
  have:=wb.most
  refine aZ ⟨_,rfl,_,rfl,_,_,_,rfl,rfl,rY h0 h1,_,rfl,_,bL ls h,ps,S,rfl,.inr rfl,d,by omega,_,rfl,_,_,_,rfl,rfl,rfl,_,rfl,_,_,_,rfl,rfl,sA h0 h1,_,_,rfl,rfl,trivial,?_⟩
  simpa using q
def p9:bH:=fun xs Q=>∃ ws ls ps S,xs = [bC ws ls,.lst (gP ws.length ls),.dK ps]/\Wb ws ls/\DS ps S/\Q (.tup (intz (nextOf ws ls S)))
def T9:aL:=(bF (aC gK (a6 (dX (jD (aC iR (a6 (a5 0) a9))) [none,some 0,some 1,some 2] (cA 0) (aU (aC rZ (a6 (a5 1) (a6 (a5 2) (a6 (a5 3) (a6 (a5 0) a9)))))) (a5 0)) a9)))
theorem aJ1:cG T9 ["web","around","burning"] p9:=by
 rintro xs Q ⟨ws,ls,ps,S,rfl,wb,d,q⟩
 have few:=wb.few
 refine⟨_,rfl,ws,ls,rfl,_,rfl,by omega,by omega,by rw [eR]; omega,fun i acc=>acc=intz (((rng ws.length).take i).filter (kin ws ls S)),rfl,?_,?_⟩
 ·rintro i y acc hy rfl
  obtain ⟨rfl,hi⟩:=kB hy
  have hi':i < ws.length:=by omega
  have tk:=jN (p:=kin ws ls S) (p6 hi')
  have e0:(0:Int)+(i:Int)=(i:Int):=by omega
  refine⟨_,rfl,_,rfl,_,rfl,_,rfl,ws,ls,ps,S,_,rfl,wb,d,by omega,by omega,_,rfl,?_⟩
  show if kin ws ls S ((0:Int)+(i:Int))=true then _ else _
  rw [e0]
  cases h:kin ws ls S (i:Int) with
  | true=>
   refine aZ ⟨_,rfl,trivial,?_⟩
   rw [h,if_pos rfl] at tk
   show _=intz (List.filter _ (List.take (i+1) _))
   rw [tk,gO]
   show _ ++ [PV.int _]=_
   rfl
  | false=>
   refine aW ?_
   rw [h,if_neg (by decide),bk1] at tk
   show _=intz (List.filter _ (List.take (i+1) _))
   rw [tk]
 ·rintro acc rfl
  rw [eR,bm0 (by rw [iC]; omega)]
  exact⟨⟨_,_,rfl,rfl,cW _,trivial,q⟩,fun ns z=>by cases z⟩
def tups (rs:List (List Int)):List PV:=rs.map fun r=>PV.tup (intz r)
theorem aJ2 {rs:List (List Int)}{i:Nat}{x:PV} (h:(tups rs)[i]? = some x):∃ r,x = .tup (intz r)/\rs[i]? = some r:=by
 unfold tups at h
 rw [bh9] at h
 cases e:rs[i]? with
 | none=>rw [e] at h; cases h
 | some n=>rw [e] at h; exact⟨n,(bj9 h).symm,rfl⟩
theorem mQ (rs:List (List Int)):(tups rs).length=rs.length:=bh4 _
theorem fR:∀ (rs:List (List Int)),flats (tups rs)=true
 | []=>rfl
 | r :: t=>by
  show (flat (.tup (intz r)) && flats (tups t))=true
  rw [lK,fR t]; rfl
theorem cQ {n:Nat}{ns:List Int} (h:aP n ns=true):iB ns=true/\∀ x ∈ ns,0<=x/\x < (n:Int):=by
 unfold aP at h
 rw [bl7,bo9] at h
 refine⟨h.1,fun x hx=>?_⟩
 have:=h.2 _ (bn2.mpr ⟨x,hx,rfl⟩)
 unfold inB at this
 simpa using this
theorem fI {n:Nat}{ns:List Int} (h:aP n ns=true):ns.length<=n:=by
 obtain ⟨h1,h2⟩:=cQ h
 have:=x4 (ws:=List.replicate n (0:Int)) (fG h1) (by rw [List.length_replicate]; exact h2)
 rw [List.length_replicate] at this
 omega
theorem sB {ws:List Int}{ls:List (Int × Int)}{ns:List Int} (h:aP ws.length ns=true) (k:Nat):(aS ws ls ns k).length<=ws.length:=by
 have h1:=rW ws ls ns k
 have h2:=x4 (fG (cQ h).1) (cQ h).2
 omega
end Core
namespace PP
open PySem L2
def U0 (te:aD):aD:=fun ρ Q=>te ρ fun x _=>∃ n:Int,x = .int n/\0<=n/\n<=1000000/\Q (.lst (eQ 0 n.toNat)) .fr
end PP
namespace Core
open PySem L2 PP
theorem aJ3 (g:Tg) (n:Int):Nw g (.int n):=by cases g <;> first | exact trivial | rfl
def pA (x:PV) (ns:List Int):Prop:=x = .scr ns ∨ x = .lst (intz ns)
theorem pA.seq {x:PV}{ns:List Int} (h:pA x ns):iN x=some (intz ns):=by rcases h with rfl | rfl <;> rfl
theorem pA.len {x:PV}{ns:List Int} (h:pA x ns):qW x=some ns.length:=by
 rcases h with rfl | rfl
 ·rfl
 ·show some (intz ns).length=_
  rw [aX]
def iU:bH:=fun xs Q=>∃ x ns k,xs = [x,.int k]/\pA x ns/\0<=k/\Q (.int (ns.getD k.toNat 0))
def U1:aL:=(aJ (bK (aU (vZ (a5 1) (aC bT (a6 (a5 0) a9)))) (bF (bI (a5 0) (a5 1))) cC)
 (bF (qC (.int 0))))
theorem aJ4:cG U1 ["script","k"] iU:=by
 rintro xs Q ⟨x,ns,k,rfl,hx,h0,q⟩
 refine⟨_,rfl,_,rfl,_,_,rfl,hx.len,_,_,rfl,rfl,_,rfl,?_⟩
 by_cases h:k < (ns.length:Int)
 ·rw [bh3 h]
  exact aZ ⟨_,rfl,_,rfl,_,_,_,hx.seq,rfl,sA h0 h,aJ3 _ _,q⟩
 ·rw [bh2 h]
  rw [bi7,List.getElem?_eq_none (by omega)] at q
  exact aW ⟨trivial,q⟩
def fJ (ls:List (Int × Int)):List PV:=ls.map fun l=>PV.tup [.int l.1,.int l.2]
def xA (l m:Int × Int):Prop:=l.1 < m.1 ∨ (l.1=m.1/\l.2 < m.2)
abbrev si (n:Int):Option Slot:=some (.sh true (.int n))
def mR:bH:=fun xs Q=>∃ i,xs = [.int i]/\Q (.bl true)
def U2 (K:PySem.W.Frag):aL:=(bF (jC (l8 K "int" (a5 0)) (vJ (l8 K "bool" (a5 0)))))
theorem cM.len {x:PV}{ns:List Int} (h:cM x ns):qW x=some ns.length:=by
 rcases h with rfl | rfl <;> (show some (intz ns).length=_; rw [aX])
theorem aJ5 {K:PySem.W.Frag} (k1:PySem.W.kitOne K (.type "int") (.type "int")=some true) (k2:PySem.W.kitOne K (.type "int") (.type "bool")=some false):cG (U2 K) ["found"] mR:=by
 rintro xs Q ⟨i,rfl,q⟩
 exact⟨_,rfl,_,_,rfl,k1,_,rfl,aZ ⟨_,rfl,_,_,rfl,k2,_,rfl,trivial,q⟩⟩
end Core
namespace PP
open PySem L2 PyProof.Rows
theorem Reps.rep {K:PySem.W.Frag}{M:Addr->Prop}{H:Hp}{us:List V}{xs:List PV} (r:Reps K M H us xs):∀ k:Nat,Reps K M H (List.replicate k us).flatten (List.replicate k xs).flatten
 | 0=>.nil
 | k+1=>by rw [bq0,bq0,bq7,bq7]; exact r.append (Reps.rep r k)
section
variable {X : Cx} {a b e : Expr} {ta tb te : aD} {tr : cE} {pos p2 p3 pos2 : Pos}
theorem U3 {tA:TA} (hg:Gl X "range") (hm:X.mg "range" = none) (ha:PA X [a] tA) (hs:starEach [a] X.env = [(false,eval a X.env)]:=by rfl) :
  PE X (.Call (.Name "range" p2) [a] [] pos) (fun σ H Q=>tA σ H fun vs H1=>∃ j:Int,vs = [.int j]/\∀ r,H1 r=none->Q (.ref r) (upd H1 r (.rng 0 j))):=by
 intro pins s σ H Q I h
 refine Call_ (gV I hg hm boot_range (bl5 (aO (ha pos pins s σ H _ I h) fun us s1 ⟨vs,H1,I1,r1,q1⟩=>?_) hs rfl))
 obtain ⟨j,e,q⟩:=q1
 subst e
 cases r1 with
 | cons r rr=>
  cases rr
  obtain ⟨t,rfl⟩:=r
  refine call_range_1 ?_
  exact⟨.ref s1.heap.objs.size,_,I1.laid (o:=.rng 0 j) (fun b ob q=>bg6 _ q) (bh0 _) ⟨_,_,_,bi0 _ rfl⟩,rfl,q _ (I1.hok.fresh (bh0 _))⟩
theorem U4:∀ {xs:List V}{us:List Value},xs.length=us.length->(∀ (i:Nat) x u,xs[i]? = some x->us[i]? = some u->aV x u)->aN xs us
 | [],[],_,_=>.nil
 | x :: xs,u :: us,hl,h=>.cons (h 0 x u rfl rfl) (U4 (by simpa using hl) fun i y w h1 h2=>h (i+1) y w (by rw [bq2]; exact h1) (by rw [bq2]; exact h2))
theorem U5 {n:Nat}{acc:Array Value} (h:ItemsOf (fun i v=>∃ t,v = .int (0+(i:Int) * 1) t) acc n):aN (gF 0 n) acc.toList:=by
 obtain ⟨h1,h2⟩:=h
 refine U4 (by rw [qK]; simp [h1]) fun i x u hx hu=>?_
 have hi:i < n:=by
  have:=(bh7.mp hx).1
  rwa [qK] at this
 unfold gF at hx
 rw [bh9,List.getElem?_range hi] at hx
 cases hx
 obtain ⟨t,rfl⟩:=h2 i u (by rw [<- bo5]; exact hu)
 exact⟨t,by congr 1; omega⟩
theorem aJ6 (hc:X.calm=true):cN X (.type "list") (fun xs H Q=>∃ r j,xs = [.ref r]/\H r=some (.rng 0 j)/\0<=j/\j<=1000000/\∀ l,H l=none->Q (.ref l) (upd H l (.lst (gF 0 j.toNat)))):=by
 intro pins s σ H xs us Q I r h
 obtain ⟨p,j,rfl,hq,h0,h1,q⟩:=h
 obtain ⟨u,rfl,rx⟩:=gX r
 cases rx
 obtain ⟨t,u,v,ho⟩:=(show bR X.prog X.w H s.heap p (.rng 0 j) from I.hok p _ hq)
 refine PySem.call_list_range (a:=0) (b:=j) (c:=1) (n:=j.toNat) (I.ok.hd hc) ho (small_one (by decide) (by decide) (by omega) (by omega)) (by rw [rangeSize_one]; split <;> omega) (by omega) fun h' tk acc' c' kp e it=>?_
 have vv:=U5 it
 have eq:acc'.toList.toArray=acc':=by simp
 exact⟨.ref s.heap.objs.size,_,I.laid (t':=tk) (o:=.lst (gF 0 j.toNat)) kp (bh0 _) ⟨by rw [qK]; exact lim (by omega),acc'.toList,c',vv,by rw [eq]; exact e⟩,rfl,q _ (I.hok.fresh (bh0 _))⟩
theorem U6 {K:PySem.W.Frag}{M:Addr->Prop}{H:Hp} (lo:Int) (n:Nat):Reps K M H (gF lo n) (eQ lo n):=by
 unfold gF eQ
 generalize List.range n=l
 induction l with
 | nil=>exact .nil
 | cons a r ih=>exact .cons (.int _) ih
theorem aJ7 (B:Bt X.mg) (ha:QE X a ta) (hc:X.calm=true:=by rfl) (hg:Gl X "list":=by rfl) (hgr:Gl X "range":=by rfl) (hs:starEach [a] X.env = [(false,eval a X.env)]:=by rfl)
  (he:starEach [.Call (.Name "range" p3) [a] [] pos2] X.env=(false,eval (.Call (.Name "range" p3) [a] [] pos2) X.env) :: starEach [] X.env:=by rfl) (hpl:(backTo pos (starEach [] X.env)).any (·.1)=false:=by rfl) :
  QE X (.Call (.Name "list" p2) [.Call (.Name "range" p3) [a] [] pos2] [] pos) (U0 ta):=
 cB (uJ (aJ6 hc) hg B.list PyProof.Rows.boot_list (cD (U3 hgr B.range (cD ha cT hs) hs) cT he) (he:=he) (hpl:=hpl)) fun σ H Q' h=>by
  obtain ⟨W,ρ,Q,px,q,k⟩:=h
  refine⟨W,ρ,_,px,q,?_⟩
  rintro v H1 x g s r ⟨n,rfl,h0,h1,q⟩
  cases r
  refine⟨n,rfl,fun r hr=>⟨r,n,rfl,bE,h0,h1,fun l hl=>?_⟩⟩
  have S:aB H (upd (upd H1 r (.rng 0 n)) l (.lst (gF 0 n.toNat))):=(s.trans (bB hr _)).trans (bB hl _)
  exact k _ _ _ .fr S (.lst (((s.trans (bB hr _))).free hl) bE (U6 0 n.toNat)) q
def xB:V->Int
 | .int i=>i
 | _=>0
def lN (H:Hp):V->List Int
 | .ref a=>match H a with
  | some (.tup us)=>us.map xB
  | _=>[]
 | _=>[]
theorem aJ8 {H:Hp}{a:Addr}{ns:List Int} (h:H a=some (.tup (ns.map V.int))):lN H (.ref a)=ns:=by
 show (match H a with | some (.tup us)=>us.map xB | _=>[])=ns
 rw [h]
 show (ns.map V.int).map xB=ns
 rw [bt3]
 exact List.map_id _
theorem U7 {K:PySem.W.Frag}{M:Addr->Prop}{H:Hp}:∀ {us:List V}{ys:List (List Int)},Reps K M H us (ys.map fun r=>PV.tup (intz r))->us.map (lN H)=ys/\∀ u ∈ us,∃ b,u = .ref b/\H b=some (.tup ((lN H u).map V.int))
 | _,[],.nil=>⟨rfl,fun u h=>nomatch h⟩
 | _,y :: ys,.cons r t=>by
  obtain ⟨a,us,rfl,h,r1⟩:=r.sqT
  obtain rfl:=r1.ofInts
  obtain ⟨h1,h2⟩:=U7 t
  have hk:=aJ8 h
  refine⟨by rw [bn6,h1,hk],fun u hu=>?_⟩
  rcases bh1.mp hu with rfl | hu
  ·exact⟨a,rfl,by rw [hk]; exact h⟩
  ·exact h2 u hu
theorem U8 {K:PySem.W.Frag}{M:Addr->Prop}{H:Hp}:∀ {us:List V},(∀ u ∈ us,∃ b,u = .ref b/\H b=some (.tup ((lN H u).map V.int)))->Reps K M H us ((us.map (lN H)).map fun r=>PV.tup (intz r))
 | [],_=>.nil
 | u :: us,h=>by
  obtain ⟨b,rfl,hb⟩:=h u bi4
  exact .cons (.tup hb (Reps.intz _)) (U8 fun v hv=>h v (bi9 _ hv))
end
def U9 (K:PySem.W.Frag):Sp:=fun vs H Q _=>∃ (a:Addr) (ns:List Int),vs = [.ref a]/\(aF K H a (ns.map V.int) ∨ aH K H a (ns.map V.int))/\ns.length<=1000/\∀ H',aB H H'->Q (.bl (Core.iB ns)) H'
def sC:Sp:=fun vs H Q _=>∃ v ws ls,vs = [v]/\G1 H v ws ls/\ws.length<=1000/\ls.length<=2000/\(∀ l ∈ ls,(0<=l.1/\l.1 < ws.length)/\0<=l.2/\l.2 < ws.length)/\
 ∀ (r:Addr) (bs:List Addr) (H':Hp),bs.length=ws.length->hZ H H' r bs (fun k=>bL ls k)->Q (.ref r) H'
section
variable {P : Program} {w : World} {K : PySem.W.Frag} {mg : Str → Option Value} {base : Heap} {f : Addr} {fd : FuncData} {k : Nat}
theorem aJ9 (F:cI P w K mg base dD k f fd ["things"] (U9 K)) (b:gY K fd ["things"] []) (kp:PySem.W.keepIn K (.ref f)=true) (m:mg "rises" = some (.ref f)):Df P w K mg base k "rises" ["things"] Core.x6:=by
 refine⟨f,fd,F.imp fun vs H Q E h=>?_,b,kp,m⟩
 obtain ⟨xs,Qp,r,⟨x,ns,rfl,hx,hl,q⟩,k⟩:=h
 obtain ⟨v,rfl,r1⟩:=r.one
 rcases hx with rfl | rfl
 ·obtain ⟨a,us,rfl,h,r2⟩:=r1.sqT
  obtain rfl:=r2.ofInts
  exact⟨a,ns,rfl,.inl (aF.of h),hl,fun H' s=>k _ H' _ s (.bl _) q⟩
 ·obtain ⟨a,us,rfl,_,h,r2⟩:=r1.sqL
  obtain rfl:=r2.ofInts
  exact⟨a,ns,rfl,.inr (aH.of h),hl,fun H' s=>k _ H' _ s (.bl _) q⟩
theorem qN {M:Addr->Prop}{H:Hp}:∀ {us:List V}{ls:List (Int × Int)},Reps K M H us (ls.map fun l=>PV.tup [.int l.1,.int l.2])->m5 H us ls
 | _,[],.nil=>.nil
 | _,l :: ls,.cons r t=>by
  obtain ⟨a,us,rfl,h,r1⟩:=r.sqT
  obtain ⟨u1,u2,rfl,q1,q2⟩:=r1.two
  cases q1; cases q2
  exact .cons ⟨a,rfl,h⟩ (qN t)
theorem V0 {M:Addr->Prop}{H:Hp}{v:V}{ws:List Int}{ls:List (Int × Int)} (r:aG K M H v (Core.bC ws ls)):G1 H v ws ls:=by
 obtain ⟨a,us,rfl,h,r1⟩:=aG.sqT r
 obtain ⟨u1,u2,rfl,q1,q2⟩:=r1.two
 obtain ⟨p,up,rfl,hp,rp⟩:=q1.sqT
 obtain ⟨q,uq,rfl,hq,rq⟩:=q2.sqT
 obtain rfl:=rp.ofInts
 exact⟨a,p,q,uq,rfl,h,hp,hq,qN rq⟩
theorem xD {M:Addr->Prop}{H:Hp}:∀ {bs:List Addr}{ls:List (Int × Int)} (off:Nat),(∀ b ∈ bs,M b)->(∀ (k:Nat) b,bs[k]? = some b->H b=some (.lst ((bL ls ((off+k:Nat):Int)).map V.int)))->Reps K M H (bs.map V.ref) ((List.range' off bs.length).map fun (k:Nat)=>PV.lst (intz (bL ls k)))
 | [],_,_,_,_=>.nil
 | b :: bs,ls,off,hm,h=>by
  refine .cons (.lst (hm b bi4) (h 0 b rfl) (Reps.intz _)) (xD (off+1) (fun c hc=>hm c (bi9 _ hc)) fun k c hk=>?_)
  have:=h (k+1) c (by rw [bq2]; exact hk)
  rw [show off+1+k=off+(k+1) by omega]; exact this
theorem aK0 (F:cI P w K mg base dD k f fd ["web"] sC) (b:gY K fd ["web"] []) (kp:PySem.W.keepIn K (.ref f)=true) (m:mg "near_lists" = some (.ref f)):Df P w K mg base k "near_lists" ["web"] Core.lM:=by
 refine⟨f,fd,F.imp fun vs H Q E h=>?_,b,kp,m⟩
 obtain ⟨xs,Qp,r,⟨ws,ls,rfl,wb,q⟩,k⟩:=h
 obtain ⟨v,rfl,r1⟩:=r.one
 have:=wb.few
 have:=wb.most
 refine⟨v,ws,ls,rfl,V0 r1,by omega,by omega,wb.links,fun t bs H' hb R=>k _ H' _ R.same (.lst R.new R.row ?_) q⟩
 have:=xD (K:=K) (M:=fun a=>H a=none) (H:=H') (bs:=bs) (ls:=ls) 0 (fun b hb=>(R.news b hb).1) fun k b hk=>by rw [Nat.zero_add]; exact R.rows k b hk
 rw [hb,<- List.range_eq_range'] at this
 exact this
end
end PP
namespace Core
open PySem L2 PP
theorem V1 (n:Nat):eQ 0 n=intz (rng n):=by
 unfold eQ rng
 show _=List.map PV.int (List.map (fun (i:Nat)=>(i:Int)) (List.range n))
 rw [bt3]
 refine List.map_congr_left fun i _=>?_
 show PV.int (0+(i:Int))=PV.int (i:Int)
 rw [Int.zero_add]
theorem xE (n:Nat):(rng n).Nodup:=by
 unfold rng
 rw [List.nodup_iff_pairwise_ne,bu1]
 exact (List.nodup_range (n:=n)).imp fun h e=>h (by omega)
def two (l:Int × Int):List Int:=[l.1,l.2]
def pB (r:List Int):Int × Int:=(r.getD 0 0,r.getD 1 0)
theorem V2 (ls:List (Int × Int)):fJ ls=(ls.map two).map fun r=>PV.tup (intz r):=by
 unfold fJ
 rw [bt3]; rfl
theorem aK1 {zs:List (List Int)}{ls:List (Int × Int)} (h:zs.Perm (ls.map two)):∃ ls':List (Int × Int),zs=ls'.map two/\ls'.Perm ls:=by
 refine⟨zs.map pB,?_,?_⟩
 ·rw [bt3]
  have:∀ z ∈ zs,(two ∘ pB) z=z:=fun z hz=>by
   obtain ⟨l,_,rfl⟩:=bn2.mp (h.mem_iff.mp hz)
   rfl
  rw [List.map_congr_left this,List.map_id']
 ·have:=h.map pB
  rw [bt3] at this
  have e:ls.map (pB ∘ two)=ls:=by
   have:∀ l ∈ ls,(pB ∘ two) l=id l:=fun l _=>rfl
   rw [List.map_congr_left this,List.map_id]
  rw [e] at this
  exact this
theorem aK2 {ls:List (Int × Int)} (so:(ls.map two).Pairwise fun u v=>HT.gZ v u=false) (nd:ls.Nodup):ls.Pairwise xA:=by
 rw [bu1] at so
 refine (List.pairwise_and_iff.mpr ⟨so,nd⟩).imp fun {a b} h=>?_
 obtain ⟨h1,h2⟩:=h
 unfold two at h1
 rw [HT.nM] at h1
 unfold xA
 by_cases e:b.1=a.1
 ·rw [if_pos e,HT.nM] at h1
  by_cases e2:b.2=a.2
  ·exact absurd (Prod.ext e.symm e2.symm) h2
  ·rw [if_neg e2] at h1
   have:=of_decide_eq_false h1
   omega
 ·rw [if_neg e] at h1
  have:=of_decide_eq_false h1
  omega
theorem aK3 (ns:List Int) {k:Int} (h:0<=k):fB (intz ns) (some k) none=intz (ns.drop k.toNat):=by
 unfold fB
 have e1:HT.aT (intz ns).length 0 (some k)=min k.toNat (intz ns).length:=by
  have:=HT.A2 (intz ns).length 0 k.toNat
  rw [show ((k.toNat:Nat):Int)=k by omega] at this
  exact this
 have e2:HT.aT (intz ns).length (intz ns).length none=(intz ns).length:=rfl
 rw [e1,e2,aX]
 rw [bm0 (by rw [bp8,aX]; omega)]
 show _=List.map PV.int _
 rw [List.map_drop]
 by_cases hk:k.toNat<=ns.length
 ·rw [Nat.min_eq_left hk]
 ·rw [Nat.min_eq_right (by omega),List.drop_of_length_le (by rw [aX]; omega),List.drop_of_length_le (by rw [aX]; omega)]
structure sD (i:Int) (ms:List Int):Prop where
 up:ms.Pairwise (· < ·)
 inn:∀ x ∈ ms,0<=x/\x < i
 len:(ms.length:Int)<=i
theorem sD.set {n:Nat}{ms:List Int} (h:sD (n:Int) ms):aP n ms=true:=by
 unfold aP
 rw [wX h.up,Bool.true_and,bo9]
 intro b hb
 obtain ⟨x,hx,rfl⟩:=bn2.mp hb
 have:=h.inn x hx
 unfold inB
 simp [this]
def dY (n:Nat) (S:List Int):List PV:=(rng n).map fun i=>PV.bl (decide (i ∈ S))
theorem mS (n:Nat) (S:List Int):(dY n S).length=n:=by unfold dY; rw [bh4,iC]
theorem V3 {n:Nat}{S:List Int}{x:Int} (h0:0<=x) (h1:x < (n:Int)):atI (dY n S) x=some (.bl (decide (x ∈ S))):=by
 refine kT h0 ?_
 unfold dY
 rw [bh9,p6 (by omega)]
 show some (PV.bl (decide (((x.toNat:Nat):Int) ∈ S)))=_
 rw [show ((x.toNat:Nat):Int)=x by omega]
theorem aK4 {n:Nat}{S:List Int}{x:Int} (h0:0<=x) (h1:x < (n:Int)):(dY n S).set x.toNat (.bl true)=dY n (S ++ [x]):=by
 refine List.ext_getElem? fun i=>?_
 by_cases hi:i < n
 ·have e1:(dY n (S ++ [x]))[i]? = some (.bl (decide ((i:Int) ∈ S ++ [x]))):=by unfold dY; rw [bh9,p6 hi]; rfl
  rw [e1]
  by_cases e:i=x.toNat
  ·subst e
   rw [bm8 (by rw [mS]; exact hi)]
   have:(((x.toNat:Nat):Int) ∈ S ++ [x]):=by rw [show ((x.toNat:Nat):Int)=x by omega]; simp
   rw [bh3 this]
  ·rw [bj6 (Ne.symm e)]
   unfold dY
   rw [bh9,p6 hi]
   have:decide ((i:Int) ∈ S ++ [x])=decide ((i:Int) ∈ S):=by
    rw [bl1]; simp; omega
   rw [this]; rfl
 ·rw [List.getElem?_eq_none (by rw [bk9,mS]; omega),List.getElem?_eq_none (by rw [mS]; omega)]
theorem aK5:∀ {a b:List Int},a.Perm b->a.Pairwise (· <= ·)->b.Pairwise (· <= ·)->a=b:=by
 intro a b h ha hb
 exact h.eq_of_pairwise (fun x y _ _ h1 h2=>Int.le_antisymm h1 h2) ha hb
def V4:bH:=fun xs Q=>∃ ns:List Int,xs = [.scr ns]/\ns.length<=63/\Q (.bl true)
structure aK6 (K:PySem.W.Frag):Prop where
 ii:PySem.W.kitOne K (.type "int") (.type "int")=some true
 ib:PySem.W.kitOne K (.type "int") (.type "bool")=some false
 tt:PySem.W.kitOne K (.type "tuple") (.type "tuple")=some true
 ll:PySem.W.kitOne K (.type "list") (.type "list")=some true
 bb:PySem.W.kitOne K (.type "bool") (.type "bool")=some true
theorem xF (K:PySem.W.Frag):aK6 K:=by
 have same:∀ n:String,PySem.W.kitMeta n=true->True:=fun _ _=>trivial
 refine⟨?_,?_,?_,?_,?_⟩
 ·unfold PySem.W.kitOne; rw [if_pos (by decide)]
 ·have e:(if PySem.W.kitMeta "bool" = true then (fastBuiltinMro "int").map (·.contains (Value.type "bool")) else none)=some false:=by decide +kernel
  unfold PySem.W.kitOne
  rw [if_neg (by decide)]
  exact e
 ·unfold PySem.W.kitOne; rw [if_pos (by decide)]
 ·unfold PySem.W.kitOne; rw [if_pos (by decide)]
 ·unfold PySem.W.kitOne; rw [if_pos (by decide)]
end Core
namespace PP
open PySem L2 PyProof.Rows
theorem aK7 {P:Program}{w:World}{K:PySem.W.Frag}{mg:Str->Option Value}{base:Heap}{k:Nat}{x:Str}{ps N:List Str}{p:bH}{st:Stmt}{f:Addr}{fd:FuncData} (F:e9 K x x st f fd) (S:FnScope N ps (aQ st))
  (len:∀ xs Q,p xs Q->xs.length=ps.length)
  (body:∀ (cdv:Value) (A:Around) (outer:List Env) (s:Shared) (H:Hp) (E:XK),bZ k (A.deeper (envOfC x (aQ st) s.heap.objs.size f cdv))->
   ∃ t,eC (cZ dD P w K mg base N x (aQ st) f cdv A outer s H E).nox (e8 st) t/\∀ xs Q,p xs Q->t { nx:=fun _=>Q .non,rt:=Q } (fD N xs)):cI P w K mg base dD (k+1) f fd ps (oB K p):=by
 refine F.ok S (fun vs H Q E h=>?_) (fun cdv A outer s H vs Q E hr h=>?_)
 ·obtain ⟨xs,Qp,r,q,_⟩:=h
  rw [r.length]; exact len xs Qp q
 ·obtain ⟨xs,Qp,r,q,k⟩:=h
  obtain ⟨t,ht,hq⟩:=body cdv A outer s H E hr
  refine⟨_,ht,fun _=>False,fD N xs,_,wG r,hq xs Qp q,?_,?_,?_,?_⟩
  ·exact fun W' σ' H' ρ' e px q=>k _ _ _ px.same .non q
  ·exact fun v H' x s r q=>k _ _ _ s r q
  ·exact fun W' σ' H' ρ' e px q=>q
  ·exact fun W' σ' H' ρ' e px q=>q
def sF (K:PySem.W.Frag):Sp:=fun vs H Q _=>∃ (a:Addr) (ns:List Int),vs = [.ref a]/\jA K H a ns/\ns.length<=63/\∀ H',Q (.bl true) H'
theorem aK8 {P:Program}{w:World}{K:PySem.W.Frag}{mg:Str->Option Value}{base:Heap}{k:Nat}{f:Addr}{fd:FuncData} (F:cI P w K mg base dD k f fd ["script"] (oB K Core.V4)):cI P w K mg base dD k f fd ["script"] (sF K):=
 F.imp fun vs H Q E h=>by
  obtain ⟨a,ns,rfl,hs,hl,q⟩:=h
  refine⟨[.scr ns],fun z=>z = .bl true,.cons (.scr hs) .nil,⟨ns,rfl,hl,rfl⟩,?_⟩
  rintro v H' x _ r rfl
  cases r
  exact q H'
theorem aK9 {K:PySem.W.Frag}{H:Hp}{a:Addr}{ns:List Int} (hO:qB H) (h:aH K H a (ns.map V.int)):jA K H a ns:=by
 rcases h with (h | ⟨o,h⟩) | h
 ·rcases hO a with e | ⟨o,xs,e⟩ <;> (rw [h] at e; cases e)
 ·exact .inl ⟨o,h⟩
 ·exact .inr h
end PP
namespace PyProof.Rows
open PySem
section
variable {prog : Program} {w : World} {A : Around} {E : Value → Shared → Prop} {s : Shared}
theorem aL0 {l:Addr}{vs:List Value}{Q:List Value->Shared->Prop} (hl:s.heap.IsTuple l vs.toArray)
  (h:Q vs { s with heap:=(s.heap.push (seqObj "list" #[] 0)).update s.heap.objs.size (Obj.mapSeq (· ++ vs.toArray)) }) (hsz:vs.length<=sizeLine) :
  wpAny (model prog w) A (collect (.ref l)) Q E s:=by
 obtain ⟨o,ho,hc,n,hd⟩:=id hl
 unfold collect
 refine bg5 (wpAny_runValue (bw1 entry_proto_collect' ?_))
 show wpAny _ _ (do again (.builtin "list.__iadd__" ⟨[<- newList [],.ref l],[]⟩)) _ _ s
 refine bg5 (wpAny_newList (bg9 ⟨Code.quiet_builtin _ (by decide +kernel),bw1 entry_list_iadd' ?_⟩))
 show wpAny _ _ (Builtin.List.listExtendWith (.ref s.heap.objs.size) (.ref l) (.ref s.heap.objs.size)) _ _ { s with heap:=s.heap.push (seqObj "list" #[] 0) }
 unfold Builtin.List.listExtendWith
 have ho':(s.heap.push (seqObj "list" #[] 0)).get? l=some o:=bg6 _ ho
 refine bg5 (wpAny_typeOf (T:="tuple") ⟨o,ho',hc⟩ ?_)
 have ht:(Value.type "tuple" == Value.type "tuple")=true:=by rfl
 rw [if_pos (by rw [ht]; simp)]
 refine bg5 (listItems_at ho' hd ?_)
 refine bg5 (listItems_at (xs:=#[]) (n:=0) (bi0 _ rfl) rfl ?_)
 rw [if_neg (by simp)]
 refine bg5 (listUpdate_at (xs:=#[]) (n:=0) (bi0 _ rfl) rfl ?_ (bl6 _) (by show (#[] ++ vs.toArray).size<=sizeLine+1; simp only [Array.size_append,bg7,List.length_nil]; omega))
 refine bg9 ?_
 show wpAny (model prog w) A (do
   let o <- load s.heap.objs.size
   match o.data with
   | .seq xs _=>pure xs.toList
   | _=>unsupported "internal:collect") Q E { s with heap:=(s.heap.push (seqObj "list" #[] 0)).update s.heap.objs.size (Obj.mapSeq (· ++ vs.toArray)) }
 refine bg5 (wpAny_load (get?_update_seq (bi0 _ rfl) _) ?_)
 show wpAny _ _ (pure ((#[]:Array Value) ++ vs.toArray).toList) Q E _
 rw [show ((#[]:Array Value) ++ vs.toArray).toList=vs by simp]
 exact bg9 h
theorem aL1 {l:Addr}{vs:List Value}{ns:List Int}{Q:Value->Shared->Prop} (hl:s.heap.IsTuple l vs.toArray) (hI:IntsAre vs ns) (h64:vs.length < 64)
  (h:∀ (out:Array Value) (ns':List Int),IntsAre out.toList ns'->ns'.Perm ns->ns'.Pairwise (· <= ·)->Q (.ref (s.heap.objs.size+1)) { s with heap:=sortedAll s.heap vs out }) :
  wpAny (model prog w) A (call (.builtin "sorted") [.ref l]) Q E s:=by
 have hsl:vs.length<=sizeLine:=bk3 (bm2 h64) (by decide)
 refine Calls.call_function_entry kind_sorted plain_sorted entry_sorted (args_sorted1 _) ?_
 unfold Builtin.«sorted»
 refine bg5 (m:=checkCount "sorted" 1 1 _) (bg9 ?_)
 refine bg5 (aL0 hl ?_ hsl)
 refine bg5 (wpAny_newList ?_)
 have hsz:((s.heap.push (seqObj "list" #[] 0)).update s.heap.objs.size (Obj.mapSeq (· ++ vs.toArray))).objs.size=s.heap.objs.size+1:=by
  rw [Heap.size_update,size_push']
 have hoL:(((s.heap.push (seqObj "list" #[] 0)).update s.heap.objs.size (Obj.mapSeq (· ++ vs.toArray))).push (seqObj "list" vs.toArray 0)).get? (s.heap.objs.size+1)=some (seqObj "list" vs.toArray 0):=by
  rw [<- hsz]; exact bi0 _ rfl
 show wpAny _ _ _ _ _ { s with heap:=((s.heap.push (seqObj "list" #[] 0)).update s.heap.objs.size (Obj.mapSeq (· ++ vs.toArray))).push (seqObj "list" vs.toArray 0) }
 rw [hsz]
 refine bg5 (bp0 (bn0 slot_list_sort ⟨_,hoL,rfl⟩ entry_list_sort (list_sort_tree hoL hI h64 fun out ns' a1 a2 a3=>⟨_,rfl,?_⟩) (args_list_sort _)))
 exact bg9 ⟨_,rfl,h out ns' a1 a2 a3⟩
end
end PyProof.Rows
namespace PP
open PySem L2 PyProof.Rows
section
variable {X : Cx} {a b e : Expr} {ta tb te : aD} {tr : cE} {pos p2 : Pos}
theorem aL2:cN X (.builtin "sorted") (fun xs H Q=>∃ a ns,xs = [.ref a]/\(aH X.K H a (ns.map V.int) ∨ aF X.K H a (ns.map V.int))/\ns.length < 64/\∀ l (ms:List Int),H l=none->ms.Perm ns->ms.Pairwise (· <= ·)->Q (.ref l) (upd H l (.lst (ms.map V.int)))):=by
 intro pins s σ H xs us Q I r h
 obtain ⟨a,ns,rfl,hs,h64,q⟩:=h
 rcases hs with hs | hs
 ·exact au4 pins s σ H _ us Q I r ⟨a,ns,rfl,hs,h64,q⟩
 obtain ⟨u,rfl,ru⟩:=gX r
 cases ru
 obtain ⟨its,rv,p,hz⟩:=I.tuple hs
 have hl:=rv.length
 rw [bh4] at hl
 refine aL1 p (pX rv) (by omega) fun out ns' a1 a2 a3=>?_
 obtain ⟨e,he⟩:=sortedAll_at s.heap its out
 have hn:s.heap.objs.size<=s.heap.objs.size+1:=Nat.le_succ _
 have hlen:ns'.length=ns.length:=a2.length_eq
 refine⟨.ref (s.heap.objs.size+1),upd H (s.heap.objs.size+1) (.lst (ns'.map V.int)),I.laid (t':=s.toks) (fun _ _=>sortedAll_old) hn ⟨?_,out.toList,e,nV a1,by simpa using he⟩,rfl,q _ ns' (I.hok.fresh hn) a2 a3⟩
 rw [bh4,hlen]
 exact bm2 (m3 (by omega))
def xG:List PV->(PV->Prop)->Prop:=fun xs Q=>∃ x ns,xs = [x]/\iN x=some (intz ns)/\ns.length < 64/\∀ ms:List Int,ms.Perm ns->ms.Pairwise (· <= ·)->Q (.lst (intz ms))
theorem aL3:gI X xG (fun xs H Q=>∃ a ns,xs = [.ref a]/\(aH X.K H a (ns.map V.int) ∨ aF X.K H a (ns.map V.int))/\ns.length < 64/\∀ l (ms:List Int),H l=none->ms.Perm ns->ms.Pairwise (· <= ·)->Q (.ref l) (upd H l (.lst (ms.map V.int)))):=by
 rintro H vs xs Q Q' r ⟨x,ns,rfl,e,hl,q⟩ k
 obtain ⟨v,rfl,r1⟩:=r.one
 obtain ⟨a,us,rfl,hs,r2⟩:=r1.seq e
 obtain rfl:=r2.ofInts
 exact⟨a,ns,rfl,hs,hl,fun l ms hl' p o=>k _ _ _ (bB hl' _) (.lst hl' bE (Reps.intz ms)) (q ms p o)⟩
theorem aL4 (B:Bt X.mg) (ha:QA X [e] tr) (hg:Gl X "sorted":=by rfl) (he:starEach [e] X.env=(false,eval e X.env) :: starEach [] X.env:=by rfl) (hpl:(backTo pos (starEach [] X.env)).any (·.1)=false:=by rfl):QE X (.Call (.Name "sorted" p2) [e] [] pos) (aC xG tr):=
 lD aL2 aL3 hg B.sorted PyProof.Rows.boot_sorted ha (he:=he) (hpl:=hpl)
def V5:PV->Tg->PV->Tg->PK->Prop:=fun x _ y _ Q=>∃ xs ys,x = .lst xs/\y = .lst ys/\flats xs=true/\flats ys=true/\xs.length+ys.length<=16000000/\Q (.lst (xs ++ ys)) .fr
abbrev xH (ta tb:aD):aD:=q2 V5 ta tb
theorem aL5:eB X V5 C1:=by
 rintro W Hs H u v x y g g' Q Q' s n r1 r2 ⟨xs,ys,rfl,rfl,f1,f2,hl,q⟩ k
 obtain ⟨a,us,rfl,_,h1,q1⟩:=r1.sqL
 obtain ⟨b,ws,rfl,_,h2,q2⟩:=r2.sqL
 have l1:=q1.length
 have l2:=q2.length
 refine⟨a,b,us,ws,rfl,rfl,h1,h2,lim (by omega),fun p hp=>k _ _ _ .fr (bB hp _) (.lst (s.free hp) bE (((q1.flat f1).append (q2.flat f2)).same (bB hp _) fun _ z=>z)) q⟩
theorem aL6 (ha:QE X a ta) (hb:QE X b tb):QE X (.BinOp a .Add b pos) (xH ta tb):=jG ar1 aL5 ha hb
end
end PP
namespace L2
open PySem PySem.Spec PyProof.Rows
def xI (K:PySem.W.Frag) (a:Addr):It:=
  ⟨fun i H=>∃ xs x,aH K H a xs/\xs[i]? = some x,
   fun i H v H'=>∃ T x,H T=none/\v = .ref T/\H'=upd H T (.tup [.int i,x])/\∀ xs,aH K H a xs->xs[i]? = some x,
   fun i H=>∃ xs,aH K H a xs/\xs.length<=i⟩
structure aL7 (e it a:Addr) (i:Nat) (h:Heap):Prop where
 ee:∃ old,IsEnum h e it i old
 s1:h.IsListIter it a i
theorem aL8 {P:Program}{w:World}{K:PySem.W.Frag}{elts:List Expr}{k:Nat}{pos:Pos} (a e it:Addr) (d:e ≠ it) :
  gW P w K (.Tuple elts k pos) (xI K a) [e,it] e (aL7 e it a):=by
 refine⟨by simp,fun i h st c hc=>?_,fun i h h' st kp=>?_,?_,?_,fun A i s Q E st q=>?_⟩
 ·simp only [bh1,bh5,bl0] at hc
  obtain ⟨old,ee⟩:=st.ee
  obtain ⟨o1,f1,g1,d1⟩:=st.s1
  rcases hc with rfl | rfl
  ·exact⟨_,ee,fun v q=>by cases q⟩
  ·exact⟨_,f1,fun v q=>by rw [d1] at q; cases q⟩
 ·obtain ⟨old,ee⟩:=st.ee
  exact⟨⟨old,kp e (by simp) _ ee⟩,st.s1.at fun o z=>kp it (by simp) o z⟩
 ·intro X hP hw hK hc i pins s σ H E I hf st hg
  subst hP hw hK
  obtain ⟨xs,x,ha,hx⟩:=hg
  obtain ⟨us,ru,pu,lu⟩:=I.list ha
  obtain ⟨ux,eux,rux⟩:=ru.get hx
  obtain ⟨old,ee⟩:=st.ee
  refine wpAny_pyNext_enum_item ee st.s1 pu.isList (by simpa using eux) d fun h' eo it' pr sz kp=>⟨_,rfl,?_⟩
  refine wpAny_letOwnedTupleGo_enum (s:={ s with heap:=h',toks:=s.toks+1 }) eo fun g zz sb=>?_
  have hzl:e < s.heap.objs.size:=bi1 ee
  have up:∀ c o,c ≠ e->c ≠ it->s.heap.get? c=some o->g.get? c=some o:=fun c o c1 c2 z=>sb.extBut c o c1 (kp c o c1 c2 z)
  have hT:H s.heap.objs.size=none:=I.hok.fresh (bh0 _)
  have prG:g.get? s.heap.objs.size=some { cls:=.type "tuple",data:=.seq #[.int i s.toks,ux] }:=sb.extBut _ _ (bp6 hzl) pr
  have fpn:∀ c u,H c=some u->c ∉ [e,it]:=fun c u z hm=>by rw [(hf c hm).1] at z; cases z
  have upH:∀ c o u,H c=some u->s.heap.get? c=some o->g.get? c=some o:=fun c o u q z=>by
   have:=fpn c u q
   simp only [bh1,bh5,bl0,not_or] at this
   exact up c o this.1 this.2 z
  have ns:∀ m,s.heap.Ns X.env.locals m->g.Ns X.env.locals m:=fun m hm=>by
   obtain ⟨o,es,ep,e1,e2⟩:=hm
   exact⟨o,es,ep,up _ o (Ne.symm (hf e (by simp)).2.1) (Ne.symm (hf it (by simp)).2.1) e1,e2⟩
  have I2:a8 X pins σ (upd H s.heap.objs.size (.tup [.int i,x])) { s with heap:=g,toks:=s.toks+1 }:=by
   refine I.step (g':=s.gens) (d':=s.drawn) (ch:=[e,it]) (fun c hc'=>?_) (fun c o _ _ hc' z _=>?_) (fun c o _ _ hc' z _=>⟨o.slots,?_⟩) (fun c o _ z n=>?_) (fun c o hc' z=>⟨o,?_⟩)
    (fun c zs z=>by rw [aR (cH z hT)]; exact z) (fun c u zs z=>by rw [aR (cH z hT)]; exact z) (fun c ps z=>⟨#[],by rw [aR (cH z hT),z]; simp⟩) ns (fun c u z=>?_) I.bare
   ·exact⟨(hf c hc').2.2.2.1,(hf c hc').2.1,(hf c hc').2.2.2.2.1,(hf c hc').2.2.2.2.2⟩
   ·simp only [bh1,bh5,bl0,not_or] at hc'
    exact up c o hc'.1 hc'.2 z
   ·simp only [bh1,bh5,bl0,not_or] at hc'
    exact up c o hc'.1 hc'.2 z
   ·rw [aR (bk4 (bi1 z))]; exact n
   ·simp only [bh1,bh5,bl0,not_or] at hc'
    exact up c o hc'.1 hc'.2 z
   ·by_cases hcT:c=s.heap.objs.size
    ·subst hcT
     rw [bE] at z; cases z
     exact⟨by show 2<=sizeLine; decide,[.int i s.toks,ux],.cons ⟨_,rfl⟩ (.cons rux .nil),⟨_,prG,rfl,_,rfl⟩,fun u e=>by rw [prG] at e; cases e; rfl⟩
    ·rw [aR hcT] at z
     refine (I.hok c u z).stay (fun c' o' hc2 q'=>?_) (fun c' q'=>by rw [aR (cH q' hT)]; exact q') fun c' zs q'=>by rw [aR (cH q' hT)]; exact q'
     rcases hc2 with rfl | hc2
     ·exact upH _ _ _ z q'
     ·exact upH _ _ _ hc2 q'
  refine⟨.ref s.heap.objs.size,_,I2,rfl,⟨_,x,hT,rfl,rfl,fun xs' ha'=>?_⟩,⟨⟨ux,by push_cast; exact zz⟩,it'.at fun o z=>sb.extBut _ o (Ne.symm d) z⟩,fun c hc'=>?_⟩
  ·rw [I.list_inj ha' ha]; exact hx
  ·obtain ⟨o,z⟩:∃ o,s.heap.get? c=some o:=by
    simp only [bh1,bh5,bl0] at hc'
    obtain ⟨o1,f1,_⟩:=st.s1
    rcases hc' with rfl | rfl
    ·exact⟨_,ee⟩
    ·exact⟨_,f1⟩
   rw [aR (bk4 (bi1 z))]; exact (hf c hc').1
 ·intro X hP hw hK hc i pins s σ H E I hf st hg
  subst hP hw hK
  obtain ⟨xs,ha,hi⟩:=hg
  obtain ⟨us,ru,pu,lu⟩:=I.list ha
  obtain ⟨old,ee⟩:=st.ee
  have hh:X.A.handled=none:=I.ok.hd hc
  have e1:=ru.length
  refine wpAny_pyNext_enum_end hh ee st.s1 pu.isList (by rw [Array.getElem?_eq_none]; simp only [bg7]; omega) fun g kp=>⟨rfl,?_⟩
  have fpn:∀ c u,H c=some u->c ∉ [e,it]:=fun c u z hm=>by rw [(hf c hm).1] at z; cases z
  have upH:∀ c o u,H c=some u->s.heap.get? c=some o->g.get? c=some o:=fun c o u q z=>by
   have:=fpn c u q
   simp only [bh1,bh5,bl0,not_or] at this
   exact kp c o this.2 z
  have ns:∀ m,s.heap.Ns X.env.locals m->g.Ns X.env.locals m:=fun m hm=>by
   obtain ⟨o,es,ep,e1,e2⟩:=hm
   exact⟨o,es,ep,kp _ o (Ne.symm (hf it (by simp)).2.1) e1,e2⟩
  refine I.step (g':=s.gens) (d':=s.drawn) (ch:=[it]) (fun c hc'=>?_) (fun c o _ _ hc' z _=>?_) (fun c o _ _ hc' z _=>⟨o.slots,?_⟩) (fun c o _ z n=>n) (fun c o hc' z=>⟨o,?_⟩)
   (fun c zs z=>z) (fun c u zs z=>z) (fun c ps z=>⟨#[],by rw [z]; simp⟩) ns (fun c u z=>?_) I.bare
  ·have hm:c ∈ [e,it]:=bi9 _ hc'
   exact⟨(hf c hm).2.2.2.1,(hf c hm).2.1,(hf c hm).2.2.2.2.1,(hf c hm).2.2.2.2.2⟩
  ·exact kp c o (fun y=>hc' (by rw [y]; simp)) z
  ·exact kp c o (fun y=>hc' (by rw [y]; simp)) z
  ·exact kp c o (fun y=>hc' (by rw [y]; simp)) z
  ·refine (I.hok c u z).stay (fun c' o' hc2 q'=>?_) (fun _ q'=>q') fun _ _ q'=>q'
   rcases hc2 with rfl | hc2
   ·exact upH _ _ _ z q'
   ·exact upH _ _ _ hc2 q'
 ·obtain ⟨old,ee⟩:=st.ee
  exact wpAny_pyIter_enum ee q
end L2
namespace Zp
open PySem PyProof.Rows
section
variable {prog : Program} {w : World} {A : Around} {E : Value → Shared → Prop} {s : Shared}
theorem aL9 {e it t:Addr}{i:Nat}{items:Array Value}{x old:Value}{Q:Option Value->Shared->Prop} (he:IsEnum s.heap e it i old) (hi:s.heap.IsTupleIter it t i) (ht:s.heap.IsTuple t items) (hx:items[i]? = some x) (ne:e ≠ it)
  (q:∀ h',IsEnumOut h' e it ((i:Int)+1) x s.heap.objs.size->h'.IsTupleIter it t (i+1)->h'.get? s.heap.objs.size=some { cls:=.type "tuple",data:=.seq #[.int i s.toks,x] }->h'.objs.size=s.heap.objs.size+1->
   (∀ b o,b ≠ e->b ≠ it->s.heap.get? b=some o->h'.get? b=some o)->Q (some (.ref s.heap.objs.size)) { s with heap:=h',toks:=s.toks+1 }):wpAny (model prog w) A (pyNext (.ref e)) Q E s:=by
 have T:s.TypeIs (.ref e) "enumerate":=⟨_,he,rfl⟩
 have slot:=PySem.F.slot_enumerate_next
 unfold pyNext
 apply bg5
 apply wpAny_attempt
 apply bn4 (name:=Str.ofString "__next__") T slot
 apply bn0 slot T PySem.F.entry_enumerate_next _ (PySem.F.args_enumerate_next_1 _)
 change wpAny _ _ (field (.ref e) 2 >>= _) _ _ _
 apply bg5
 refine bn3 he rfl (x:=.ref it) rfl ?_
 apply bg5
 refine G4 hi ht hx fun g1 it1 sb1=>?_
 have e1:IsEnum g1 e it i old:=sb1.extBut _ _ ne he
 change wpAny _ _ (field (.ref e) 3 >>= _) _ _ _
 apply bg5
 refine bn3 e1 rfl (x:=rawInt i) rfl ?_
 change wpAny _ _ (field (.ref e) 4 >>= _) _ _ _
 apply bg5
 refine bn3 e1 rfl (x:=.none) rfl ?_
 change wpAny _ _ (mkInt i >>= _) _ _ _
 apply bg5
 refine wpAny_mkInt ?_
 change wpAny _ _ (setField (.ref e) 3 (rawInt ((i:Int)+1)) >>= _) _ _ _
 apply bg5
 refine bo3 e1 (by simp) fun g2 e2 sb2=>?_
 apply bg5
 refine bo3 e2 (by simp) fun g3 e3 sb3=>?_
 have e3:IsEnum g3 e it ((i:Int)+1) old:=e3
 apply bg5
 refine wpAny_newTuple ?_ (by show 2<=sizeLine; decide)
 have e4:IsEnum (g3.push { cls:=.type "tuple",data:=.seq #[.int i s.toks,x] }) e it ((i:Int)+1) old:=bg6 _ e3
 have size:g3.objs.size=s.heap.objs.size:=by rw [sb3.1,sb2.1,sb1.1]
 change wpAny _ _ (Builtin.SmallTypes.ownedTupleIsFree (.ref e) >>= _) _ _ _
 apply bg5
 unfold Builtin.SmallTypes.ownedTupleIsFree
 apply bg5
 refine bn3 e4 rfl (x:=.none) rfl (bg9 ?_)
 simp only [if_true]
 apply bg5
 apply bu6
 apply bg5
 refine bn3 e4 rfl (x:=old) rfl ?_
 apply bg5
 refine bo3 e4 (by simp) fun g5 e5 sb5=>?_
 apply bg5
 unfold Builtin.SmallTypes.ownedTupleHandOut
 apply bg5
 refine bo3 e5 (by simp) fun g6 e6 sb6=>?_
 refine bo3 e6 (by simp) fun g7 e7 sb7=>?_
 have e7:IsEnumOut g7 e it ((i:Int)+1) x g3.objs.size:=e7
 have elt:e < g3.objs.size:=bi1 e3
 have up:∀ c o,c ≠ e->(g3.push { cls:=.type "tuple",data:=.seq #[.int i s.toks,x] }).get? c=some o->g7.get? c=some o:=fun c o c1 z=>sb7.extBut c o c1 (sb6.extBut c o c1 (sb5.extBut c o c1 z))
 have up3:∀ c o,c ≠ e->g1.get? c=some o->g7.get? c=some o:=fun c o c1 z=>up c o c1 (bg6 _ (sb3.extBut c o c1 (sb2.extBut c o c1 z)))
 have p7:g7.get? g3.objs.size=some { cls:=.type "tuple",data:=.seq #[.int i s.toks,x] }:=up _ _ (bp6 elt) (bi0 _ rfl)
 have s7:g7.objs.size=g3.objs.size+1:=by rw [sb7.1,sb6.1,sb5.1,bq4]
 apply bg5
 apply wpAny_letGo
 apply bg9
 rw [size] at e7 p7 s7
 refine⟨_,rfl,bg9 ?_⟩
 change Q (some (.ref g3.objs.size)) _
 rw [size]
 exact q g7 e7 (it1.at fun o z=>up3 it o (Ne.symm ne) z) p7 s7 fun b o b1 b2 z=>up3 b o b1 (sb1.extBut b o b2 z)
theorem aM0 {e it t:Addr}{i:Nat}{items:Array Value}{old:Value}{Q:Option Value->Shared->Prop} (hh:A.handled=none) (he:IsEnum s.heap e it i old) (hi:s.heap.IsTupleIter it t i) (ht:s.heap.IsTuple t items) (hx:items[i]? = none)
  (q:∀ h',Heap.ExtBut it s.heap h'->Q none { s with heap:=h' }):wpAny (model prog w) A (pyNext (.ref e)) Q E s:=by
 have T:s.TypeIs (.ref e) "enumerate":=⟨_,he,rfl⟩
 have slot:=PySem.F.slot_enumerate_next
 unfold pyNext
 apply bg5
 apply wpAny_attempt
 apply bn4 (name:=Str.ofString "__next__") T slot
 apply bn0 slot T PySem.F.entry_enumerate_next _ (PySem.F.args_enumerate_next_1 _)
 change wpAny _ _ (field (.ref e) 2 >>= _) _ _ _
 apply bg5
 refine bn3 he rfl (x:=.ref it) rfl ?_
 apply bg5
 refine G5 hh hi ht hx fun g2 ex eb exo=>?_
 obtain ⟨oe,eo,co⟩:=exo
 apply bg5
 refine wpAny_isInstance (T:="StopIteration") (b:=true) ⟨oe,eo,co⟩ isSubtype_stop ?_
 exact bg9 (q g2 eb)
theorem aM1 {M:Model}{A:Around}{E:Value->Shared->Prop}{s:Shared}{α:Type}{c:Prop} [Decidable c] {m n:Sem α}{Q:α->Shared->Prop} (h1:wpAny M A m Q E s) (h2:wpAny M A n Q E s):wpAny M A (if c then m else n) Q E s:=by
 split
 ·exact h1
 ·exact h2
theorem aM2 (t:Addr) (xs:Array Value):Meets (Builtin.«enumerate.__new__» ⟨[.type "enumerate",.ref t],[]⟩) (fun _ R s=>s.heap.IsTuple t xs/\R (.ok (.ret (.ref (s.heap.objs.size+1)))) { s with heap:=(s.heap.push { cls:=.type "tuple_iterator",data:=.fields #[.ref t,.int 0 0] }).push { cls:=.type "enumerate",data:=.fields #[.none,.bool false,.ref s.heap.objs.size,rawInt 0,.none,.none] } }):=
 .of_wp fun prog w A R s h=>by
  obtain ⟨hp,g,d,tk,os⟩:=s
  obtain ⟨ht,h⟩:=h
  have sub:=sub_enumerate
  have a1:Heap.IsTuple (Shared.heap ⟨hp,g,d,tk,os⟩) t xs:=ht
  wp_walk using bs6 a1
  refine wpAny_stack_any fun st=>bg9 ?_
  refine aM1 ?_ ?_
  all_goals
   apply bg5
   refine wpAny_of_eq (a:=(Value.ref t,none)) rfl ?_
   wp_walk using bs6 a1
   have e:∀ (o:Obj) (k:Heap),(k.push o).objs.size=k.objs.size+1:=fun o k=>bq4 ..
   refine⟨_,rfl,?_⟩
   simp only [e] at h ⊢
   exact h
theorem aM3 {t:Addr}{xs:Array Value}{Q:Value->Shared->Prop} (ht:s.heap.IsTuple t xs)
  (q:∀ h',IsEnum h' (s.heap.objs.size+1) s.heap.objs.size 0 .none->h'.IsTupleIter s.heap.objs.size t 0->h'.objs.size=s.heap.objs.size+2->(∀ c o,s.heap.get? c=some o->h'.get? c=some o)->Q (.ref (s.heap.objs.size+1)) { s with heap:=h' }) :
  wpAny (model prog w) A (call (.type "enumerate") [.ref t]) Q E s:=by
 refine callType_new PySem.F.called_enumerate (by decide) (PySem.F.typeCall_enumerate_1 _) (PySem.F.newCall_enumerate_1 _) (fun obj=>PySem.F.args_object_init_2 obj _) PySem.F.entry_enumerate_new (aM2 t xs) ⟨ht,?_⟩
 have e:∀ (o:Obj) (k:Heap),(k.push o).objs.size=k.objs.size+1:=fun o k=>bq4 ..
 have g0:((s.heap.push { cls:=.type "tuple_iterator",data:=.fields #[.ref t,.int 0 0] }).push { cls:=.type "enumerate",data:=.fields #[.none,.bool false,.ref s.heap.objs.size,rawInt 0,.none,.none] }).get? s.heap.objs.size=some { cls:=.type "tuple_iterator",data:=.fields #[.ref t,.int 0 0] }:=bg6 _ (bi0 _ rfl)
 have g1:((s.heap.push { cls:=.type "tuple_iterator",data:=.fields #[.ref t,.int 0 0] }).push { cls:=.type "enumerate",data:=.fields #[.none,.bool false,.ref s.heap.objs.size,rawInt 0,.none,.none] }).get? (s.heap.objs.size+1)=some { cls:=.type "enumerate",data:=.fields #[.none,.bool false,.ref s.heap.objs.size,rawInt 0,.none,.none] }:=by
  have:=bi0 (h:=s.heap.push { cls:=.type "tuple_iterator",data:=.fields #[.ref t,.int 0 0] }) (o:={ cls:=.type "enumerate",data:=.fields #[.none,.bool false,.ref s.heap.objs.size,rawInt 0,.none,.none] }) rfl
  rw [e] at this; exact this
 exact⟨⟨_,g1,rfl⟩,q _ g1 ⟨_,g0,rfl,rfl⟩ (by rw [e,e]) fun c o z=>bg6 _ (bg6 _ z)⟩
end
end Zp
namespace L2
open PySem PySem.Spec PyProof.Rows
def xJ (K:PySem.W.Frag) (a:Addr):It:=
  ⟨fun i H=>∃ xs x,aF K H a xs/\xs[i]? = some x,
   fun i H v H'=>∃ T x,H T=none/\v = .ref T/\H'=upd H T (.tup [.int i,x])/\∀ xs,aF K H a xs->xs[i]? = some x,
   fun i H=>∃ xs,aF K H a xs/\xs.length<=i⟩
structure aM4 (e it a:Addr) (i:Nat) (h:Heap):Prop where
 ee:∃ old,IsEnum h e it i old
 s1:h.IsTupleIter it a i
theorem aM5 {P:Program}{w:World}{K:PySem.W.Frag}{elts:List Expr}{k:Nat}{pos:Pos} (a e it:Addr) (d:e ≠ it) :
  gW P w K (.Tuple elts k pos) (xJ K a) [e,it] e (aM4 e it a):=by
 refine⟨by simp,fun i h st c hc=>?_,fun i h h' st kp=>?_,?_,?_,fun A i s Q E st q=>?_⟩
 ·simp only [bh1,bh5,bl0] at hc
  obtain ⟨old,ee⟩:=st.ee
  obtain ⟨o1,f1,g1,d1⟩:=st.s1
  rcases hc with rfl | rfl
  ·exact⟨_,ee,fun v q=>by cases q⟩
  ·exact⟨_,f1,fun v q=>by rw [d1] at q; cases q⟩
 ·obtain ⟨old,ee⟩:=st.ee
  exact⟨⟨old,kp e (by simp) _ ee⟩,st.s1.at fun o z=>kp it (by simp) o z⟩
 ·intro X hP hw hK hc i pins s σ H E I hf st hg
  subst hP hw hK
  obtain ⟨xs,x,ha,hx⟩:=hg
  obtain ⟨us,ru,pu,lu⟩:=I.tuple ha
  obtain ⟨ux,eux,rux⟩:=ru.get hx
  obtain ⟨old,ee⟩:=st.ee
  refine Zp.aL9 ee st.s1 pu (by simpa using eux) d fun h' eo it' pr sz kp=>⟨_,rfl,?_⟩
  refine wpAny_letOwnedTupleGo_enum (s:={ s with heap:=h',toks:=s.toks+1 }) eo fun g zz sb=>?_
  have hzl:e < s.heap.objs.size:=bi1 ee
  have up:∀ c o,c ≠ e->c ≠ it->s.heap.get? c=some o->g.get? c=some o:=fun c o c1 c2 z=>sb.extBut c o c1 (kp c o c1 c2 z)
  have hT:H s.heap.objs.size=none:=I.hok.fresh (bh0 _)
  have prG:g.get? s.heap.objs.size=some { cls:=.type "tuple",data:=.seq #[.int i s.toks,ux] }:=sb.extBut _ _ (bp6 hzl) pr
  have fpn:∀ c u,H c=some u->c ∉ [e,it]:=fun c u z hm=>by rw [(hf c hm).1] at z; cases z
  have upH:∀ c o u,H c=some u->s.heap.get? c=some o->g.get? c=some o:=fun c o u q z=>by
   have:=fpn c u q
   simp only [bh1,bh5,bl0,not_or] at this
   exact up c o this.1 this.2 z
  have ns:∀ m,s.heap.Ns X.env.locals m->g.Ns X.env.locals m:=fun m hm=>by
   obtain ⟨o,es,ep,e1,e2⟩:=hm
   exact⟨o,es,ep,up _ o (Ne.symm (hf e (by simp)).2.1) (Ne.symm (hf it (by simp)).2.1) e1,e2⟩
  have I2:a8 X pins σ (upd H s.heap.objs.size (.tup [.int i,x])) { s with heap:=g,toks:=s.toks+1 }:=by
   refine I.step (g':=s.gens) (d':=s.drawn) (ch:=[e,it]) (fun c hc'=>?_) (fun c o _ _ hc' z _=>?_) (fun c o _ _ hc' z _=>⟨o.slots,?_⟩) (fun c o _ z n=>?_) (fun c o hc' z=>⟨o,?_⟩)
    (fun c zs z=>by rw [aR (cH z hT)]; exact z) (fun c u zs z=>by rw [aR (cH z hT)]; exact z) (fun c ps z=>⟨#[],by rw [aR (cH z hT),z]; simp⟩) ns (fun c u z=>?_) I.bare
   ·exact⟨(hf c hc').2.2.2.1,(hf c hc').2.1,(hf c hc').2.2.2.2.1,(hf c hc').2.2.2.2.2⟩
   ·simp only [bh1,bh5,bl0,not_or] at hc'
    exact up c o hc'.1 hc'.2 z
   ·simp only [bh1,bh5,bl0,not_or] at hc'
    exact up c o hc'.1 hc'.2 z
   ·rw [aR (bk4 (bi1 z))]; exact n
   ·simp only [bh1,bh5,bl0,not_or] at hc'
    exact up c o hc'.1 hc'.2 z
   ·by_cases hcT:c=s.heap.objs.size
    ·subst hcT
     rw [bE] at z; cases z
     exact⟨by show 2<=sizeLine; decide,[.int i s.toks,ux],.cons ⟨_,rfl⟩ (.cons rux .nil),⟨_,prG,rfl,_,rfl⟩,fun u e=>by rw [prG] at e; cases e; rfl⟩
    ·rw [aR hcT] at z
     refine (I.hok c u z).stay (fun c' o' hc2 q'=>?_) (fun c' q'=>by rw [aR (cH q' hT)]; exact q') fun c' zs q'=>by rw [aR (cH q' hT)]; exact q'
     rcases hc2 with rfl | hc2
     ·exact upH _ _ _ z q'
     ·exact upH _ _ _ hc2 q'
  refine⟨.ref s.heap.objs.size,_,I2,rfl,⟨_,x,hT,rfl,rfl,fun xs' ha'=>?_⟩,⟨⟨ux,by push_cast; exact zz⟩,it'.at fun o z=>sb.extBut _ o (Ne.symm d) z⟩,fun c hc'=>?_⟩
  ·rw [I.tuple_inj ha' ha]; exact hx
  ·obtain ⟨o,z⟩:∃ o,s.heap.get? c=some o:=by
    simp only [bh1,bh5,bl0] at hc'
    obtain ⟨o1,f1,_⟩:=st.s1
    rcases hc' with rfl | rfl
    ·exact⟨_,ee⟩
    ·exact⟨_,f1⟩
   rw [aR (bk4 (bi1 z))]; exact (hf c hc').1
 ·intro X hP hw hK hc i pins s σ H E I hf st hg
  subst hP hw hK
  obtain ⟨xs,ha,hi⟩:=hg
  obtain ⟨us,ru,pu,lu⟩:=I.tuple ha
  obtain ⟨old,ee⟩:=st.ee
  have hh:X.A.handled=none:=I.ok.hd hc
  have e1:=ru.length
  refine Zp.aM0 hh ee st.s1 pu (by rw [Array.getElem?_eq_none]; simp only [bg7]; omega) fun g kp=>⟨rfl,?_⟩
  have fpn:∀ c u,H c=some u->c ∉ [e,it]:=fun c u z hm=>by rw [(hf c hm).1] at z; cases z
  have upH:∀ c o u,H c=some u->s.heap.get? c=some o->g.get? c=some o:=fun c o u q z=>by
   have:=fpn c u q
   simp only [bh1,bh5,bl0,not_or] at this
   exact kp c o this.2 z
  have ns:∀ m,s.heap.Ns X.env.locals m->g.Ns X.env.locals m:=fun m hm=>by
   obtain ⟨o,es,ep,e1,e2⟩:=hm
   exact⟨o,es,ep,kp _ o (Ne.symm (hf it (by simp)).2.1) e1,e2⟩
  refine I.step (g':=s.gens) (d':=s.drawn) (ch:=[it]) (fun c hc'=>?_) (fun c o _ _ hc' z _=>?_) (fun c o _ _ hc' z _=>⟨o.slots,?_⟩) (fun c o _ z n=>n) (fun c o hc' z=>⟨o,?_⟩)
   (fun c zs z=>z) (fun c u zs z=>z) (fun c ps z=>⟨#[],by rw [z]; simp⟩) ns (fun c u z=>?_) I.bare
  ·have hm:c ∈ [e,it]:=bi9 _ hc'
   exact⟨(hf c hm).2.2.2.1,(hf c hm).2.1,(hf c hm).2.2.2.2.1,(hf c hm).2.2.2.2.2⟩
  ·exact kp c o (fun y=>hc' (by rw [y]; simp)) z
  ·exact kp c o (fun y=>hc' (by rw [y]; simp)) z
  ·exact kp c o (fun y=>hc' (by rw [y]; simp)) z
  ·refine (I.hok c u z).stay (fun c' o' hc2 q'=>?_) (fun _ q'=>q') fun _ _ q'=>q'
   rcases hc2 with rfl | hc2
   ·exact upH _ _ _ z q'
   ·exact upH _ _ _ hc2 q'
 ·obtain ⟨old,ee⟩:=st.ee
  exact wpAny_pyIter_enum ee q
section
variable {X : Cx}
def V6 (K:PySem.W.Frag) (ta:TA):TI:=fun σ H R=>ta σ H fun vs H1=>∃ a,vs = [.ref a]/\((∃ xs,aH K H1 a xs/\R (xI K a) H1) ∨ (∃ xs,aF K H1 a xs/\R (xJ K a) H1))
theorem aM6 {elts:List Expr}{kt:Nat}{pt:Pos}{a:Expr}{ta:TA}{p pos:Pos} (hg:Gl X "enumerate") (hm:X.mg "enumerate" = none) (ha:PA X [a] ta) (hs:starEach [a] X.env = [(false,eval a X.env)]:=by rfl) :
  PI X (.Tuple elts kt pt) (.Call (.Name "enumerate" p) [a] [] pos) (V6 X.K ta):=by
 intro pins s σ H R I h
 refine Call_ (gV I hg hm PyProof.Rows.boot_enumerate (bl5 (aO (ha pos pins s σ H _ I h) fun us s1 ⟨vs,H1,I1,r1,q1⟩=>?_) (by rw [hs]; rfl) (by rfl)))
 obtain ⟨a',e,q⟩:=q1
 subst e
 have fresh:∀ k,H1 (s1.heap.objs.size+k)=none:=fun k=>I1.hok.fresh (bj2 _ _)
 cases r1 with
 | cons r rr=>
  cases rr
  cases r
  rcases q with ⟨xs,h1,q⟩ | ⟨xs,h1,q⟩
  ·obtain ⟨us,_,p1,_⟩:=I1.list h1
   refine call_enumerate_list p1.isList fun h' z s1' sz kp=>wpAny_pyIter_enum z ?_
   refine⟨s1.heap.objs.size+1,[s1.heap.objs.size+1,s1.heap.objs.size],_,_,H1,rfl,I1.kept (t':=s1.toks) kp,
    aL8 a' _ _ (Nat.succ_ne_self _),⟨⟨_,z⟩,s1'⟩,fun c hc=>?_,q⟩
   simp only [bh1,bh5,bl0] at hc
   rcases hc with rfl | rfl
   ·exact I1.fpOk (bj2 _ _) (fresh 1)
   ·exact I1.fpOk (bh0 _) (fresh 0)
  ·obtain ⟨us,_,p1,_⟩:=I1.tuple h1
   refine Zp.aM3 p1 fun h' z s1' sz kp=>wpAny_pyIter_enum z ?_
   refine⟨s1.heap.objs.size+1,[s1.heap.objs.size+1,s1.heap.objs.size],_,_,H1,rfl,I1.kept (t':=s1.toks) kp,
    aM5 a' _ _ (Nat.succ_ne_self _),⟨⟨_,z⟩,s1'⟩,fun c hc=>?_,q⟩
   simp only [bh1,bh5,bl0] at hc
   rcases hc with rfl | rfl
   ·exact I1.fpOk (bj2 _ _) (fresh 1)
   ·exact I1.fpOk (bh0 _) (fresh 0)
end
end L2
namespace Zp
open PySem PyProof.Rows
theorem aM7 (t b:Addr) (xs ys:Array Value) (n n2:Nat) (dd dd2:Option Addr) (sl sl2:Array (Option Value)) (hx:xs.isEmpty=true):Meets (Builtin.«tuple.__add__» ⟨[.ref t,.ref b],[]⟩)
  (fun _ R s=>s.heap.get? t=some { cls:=.type "tuple",dict:=dd,data:=.seq xs n,slots:=sl }/\s.heap.get? b=some { cls:=.type "tuple",dict:=dd2,data:=.seq ys n2,slots:=sl2 }/\R (.ok (.ret (.ref b))) s):=
 .of_wp fun prog w A R s h=>by
  obtain ⟨h1,h2,h⟩:=h
  have sub:isSubtype (Value.type "tuple") (Value.type "tuple")=pure true:=rfl
  wp_walk
  exact⟨_,rfl,h⟩
end Zp
namespace L2
open PySem PySem.Spec PyProof.Rows
section
variable {X : Cx}
def V7 (K:PySem.W.Frag):R2:=fun x y H Q=>∃ a b xs ys,x = .ref a/\y = .ref b/\aF K H a xs/\aF K H b ys/\xs.length+ys.length<=sizeLine/\
 (xs = []->Q (.ref b) H)/\(xs ≠ []->ys = []->Q (.ref a) H)/\(xs ≠ []->ys ≠ []->∀ p,H p=none->Q (.ref p) (upd H p (.tup (xs ++ ys))))
theorem aM8:c9 X (binaryOp .Add) (V7 X.K):=by
 intro pins s σ H x y v u Q I rx ry h
 obtain ⟨a,b,xs,ys,ex,ey,ha,hb,hz,q0,q1,q2⟩:=h
 by_cases hx:xs = []
 ·subst ex ey
  cases rx
  cases ry
  obtain ⟨its,r1,p1,_⟩:=I.tuple ha
  obtain ⟨its2,r2,p2,_⟩:=I.tuple hb
  have hi:its = []:=r1.nil_iff.mpr hx
  obtain ⟨⟨cls,dd,data,sl⟩,ho,hc,n,hd⟩:=id p1
  obtain ⟨⟨cls2,dd2,data2,sl2⟩,ho2,hc2,n2,hd2⟩:=id p2
  simp only at hc hd hc2 hd2
  subst hc hd hc2 hd2
  exact concat_meets ⟨_,ho,rfl⟩ ⟨_,ho2,rfl⟩ noFill_tuple_add seq_tuple_add PySem.F.slot_tuple_add PySem.F.entry_tuple_add (PySem.F.args_tuple_add_2 _ _)
   (Zp.aM7 a b its.toArray its2.toArray n n2 dd dd2 sl sl2 (by simp [hi])) ⟨ho,ho2,⟨.ref b,H,I,rfl,q0 hx⟩⟩
 ·exact ap6 pins s σ H x y v u Q I rx ry ⟨a,b,xs,ys,ex,ey,ha,hb,hx,hz,q1 hx,q2 hx⟩
end
end L2
namespace PP
open PySem L2 PyProof.Rows
def jO (xs:List PV):List PV:=xs.mapIdx fun i x=>PV.tup [.int (i:Int),x]
theorem xK (xs:List PV):(jO xs).length=xs.length:=by unfold jO; rw [List.length_mapIdx]
theorem V8 {xs:List PV}{i:Nat}{x:PV} (h:xs[i]? = some x):(jO xs)[i]? = some (.tup [.int (i:Int),x]):=by
 unfold jO; rw [List.getElem?_mapIdx,h]; rfl
theorem aM9 {xs:List PV}{i:Nat}{z:PV} (h:(jO xs)[i]? = some z):∃ x,xs[i]? = some x/\z = .tup [.int (i:Int),x]:=by
 unfold jO at h
 rw [List.getElem?_mapIdx] at h
 cases e:xs[i]? with
 | none=>rw [e] at h; cases h
 | some x=>rw [e] at h; exact⟨x,rfl,(bj9 h).symm⟩
def xL (te:aD):eO:=fun ρ Q=>te ρ fun x g=>∃ xs,(x = .lst xs ∨ x = .tup xs)/\(g = .rd->flat x=true)/\Q (jO xs) (oC g xs)
theorem aN0 {K:PySem.W.Frag}{H0:Hp}{W:Addr->Prop}{g:Bool}{H1:Hp}{a:Addr}{us:List V}{xs:List PV} (tw:∀ a,W a->∃ o,H1 a=some o/\fA o=true) (ha:∀ W' H',Ev W H1 W' H'->aH K H' a us) (r:Reps K (Ms H0 W g) H1 us xs):jX K H0 W g H1 (xI K a) (jO xs):=by
 have lr:=r.length
 have ll:=xK xs
 refine⟨fun W' H' i e hi=>⟨us,us[i]'(by omega),ha W' H' e,by simp⟩,fun W' H' i v H2 e y hi=>?_,fun W' H' e=>⟨us,ha W' H' e,by omega⟩⟩
 obtain ⟨T,x,hT,rfl,rfl,y⟩:=y
 obtain ⟨z,hz,rz⟩:=r.get (y us (ha W' _ e))
 have sm:=bB hT (HO.tup [.int (i:Int),x])
 exact⟨sm,_,V8 hz,.tup bE (.cons (.int _) (.cons ((rz.keep (e.keep tw)).same sm fun _ q=>q) .nil))⟩
theorem aN1 {K:PySem.W.Frag}{H0:Hp}{W:Addr->Prop}{g:Bool}{H1:Hp}{a:Addr}{us:List V}{xs:List PV} (tw:∀ a,W a->∃ o,H1 a=some o/\fA o=true) (ha:∀ W' H',Ev W H1 W' H'->aF K H' a us) (r:Reps K (Ms H0 W g) H1 us xs):jX K H0 W g H1 (xJ K a) (jO xs):=by
 have lr:=r.length
 have ll:=xK xs
 refine⟨fun W' H' i e hi=>⟨us,us[i]'(by omega),ha W' H' e,by simp⟩,fun W' H' i v H2 e y hi=>?_,fun W' H' e=>⟨us,ha W' H' e,by omega⟩⟩
 obtain ⟨T,x,hT,rfl,rfl,y⟩:=y
 obtain ⟨z,hz,rz⟩:=r.get (y us (ha W' _ e))
 have sm:=bB hT (HO.tup [.int (i:Int),x])
 exact⟨sm,_,V8 hz,.tup bE (.cons (.int _) (.cons ((rz.keep (e.keep tw)).same sm fun _ q=>q) .nil))⟩
section
variable {X : Cx} {σ : L2.St} {H : Hp} {te : aD} {R : It → Hp → Prop}
theorem aN2 (h:LI X (xL te) σ H R):V6 X.K (iJ (LE X te) jT) σ H R:=by
 obtain ⟨W,ρ,Q,px,q,k⟩:=h
 refine⟨W,ρ,_,px,q,?_⟩
 rintro v H1 x g s r ⟨xs,hx,hg,q⟩
 have px1:=px.mono s
 have tw:∀ a,W a->∃ o,H1 a=some o/\fA o=true:=fun a z=>(px1.wm a z).2
 rcases hx with rfl | rfl
 ·obtain ⟨a,us,rfl,m,h,r⟩:=r.sqL
  have wa : ¬ W a:=by
   cases g with
   | fr=>exact (px.new m).1
   | nw=>exact m.1
   | sh=>exact m
   | rd=>have:=hg rfl; unfold flat at this; cases this
  exact⟨a,rfl,.inl ⟨us,aH.of h,k _ _ _ _ s (aN0 tw (fun W' H' e=>aH.of (e _ _ h wa).1) (jY px (fun z=>by have:=hg z; unfold flat at this; cases this) r)) q⟩⟩
 ·obtain ⟨a,us,rfl,h,r⟩:=r.sqT
  refine⟨a,rfl,.inr ⟨us,aF.of h,k _ _ _ _ s (aN1 tw (fun W' H' e=>aF.of (e _ _ h fun z=>?_).1) (jY px (fun z=>by have:=hg z; unfold flat at this; exact this) r)) q⟩⟩
  obtain ⟨o,h',mu⟩:=tw _ z; rw [h] at h'; cases h'; cases mu
theorem aN3 {elts:List Expr}{kt:Nat}{pt p2 pos:Pos}{a:Expr}{ta:aD} (hg:Gl X "enumerate") (hm:X.mg "enumerate" = none) (ha:QE X a ta) (hs:starEach [a] X.env = [(false,eval a X.env)]:=by rfl):QI X (.Tuple elts kt pt) (.Call (.Name "enumerate" p2) [a] [] pos) (xL ta):=
 oJ (aM6 hg hm (cD ha cT hs) hs) fun _ _ _=>aN2
end
section
variable {X : Cx} {a b e o f : Expr} {ta tb te td tk tx : aD} {pos p2 apos cpos : Pos} {σ : L2.St} {H : Hp} {Q' : VK}
def V9:PV->Tg->PV->Tg->PK->Prop:=fun x _ y _ Q=>∃ xs n,x = .lst xs/\y = .int n/\flats xs=true/\-1000000<=n/\n<=1000000/\xs.length<=10/\Q (.lst (List.replicate n.toNat xs).flatten) .fr
abbrev W0 (ta tb:aD):aD:=q2 V9 ta tb
theorem aN4:eB X V9 C2:=by
 rintro W Hs H u v x y g g' Q Q' s n r1 r2 ⟨xs,m,rfl,rfl,f,h1,h2,hl,q⟩ k
 cases r2
 obtain ⟨a,us,rfl,mm,h,r⟩:=r1.sqL
 have lr:=r.length
 refine⟨a,m,us,rfl,rfl,h,by omega,by omega,lim ?_,fun p hp=>k _ _ _ .fr (bB hp _) (.lst (s.free hp) bE (((r.flat f).rep m.toNat).same (bB hp _) fun _ z=>z)) q⟩
 have h3:us.length<=10:=by omega
 have h4:m.toNat<=1000000:=by omega
 calc us.length * m.toNat<=10 * 1000000:=Nat.mul_le_mul h3 h4
  _<=16000000:=by decide
theorem aN5 (ha:QE X a ta) (hb:QE X b tb):QE X (.BinOp a .Mult b pos) (W0 ta tb):=jG ar3 aN4 ha hb
end
section
variable {X : Cx} {a b : Expr} {ta tb : aD} {pos : Pos}
def W5:PV->Tg->PV->Tg->PK->Prop:=fun x _ y _ Q=>∃ xs ys,x = .tup xs/\y = .tup ys/\flats xs=true/\flats ys=true/\xs.length+ys.length<=16000000/\Q (.tup (xs ++ ys)) .fr
abbrev sG (ta tb:aD):aD:=q2 W5 ta tb
theorem aN6:eB X W5 (V7 X.K):=by
 rintro W Hs H u v x y g g' Q Q' s n r1 r2 ⟨xs,ys,rfl,rfl,f1,f2,hl,q⟩ k
 obtain ⟨a,us,rfl,h1,q1⟩:=r1.sqT
 obtain ⟨b,ws,rfl,h2,q2⟩:=r2.sqT
 have l1:=q1.length
 have l2:=q2.length
 refine⟨a,b,us,ws,rfl,rfl,aF.of h1,aF.of h2,lim (by omega),fun z=>?_,fun _ z=>?_,fun _ _ p hp=>k _ _ _ .fr (bB hp _) (.tup bE (((q1.flat f1).append (q2.flat f2)).same (bB hp _) fun _ z=>z)) q⟩
 ·obtain rfl:xs = []:=by cases xs with
   | nil=>rfl
   | cons _ _=>rw [z] at l1; cases l1
  exact k _ _ _ .fr (aB.refl _) (.tup h2 (q2.flat f2)) q
 ·obtain rfl:ys = []:=by cases ys with
   | nil=>rfl
   | cons _ _=>rw [z] at l2; cases l2
  rw [bk1] at q
  exact k _ _ _ .fr (aB.refl _) (.tup h1 (q1.flat f1)) q
theorem xM (ha:QE X a ta) (hb:QE X b tb):QE X (.BinOp a .Add b pos) (sG ta tb):=jG aM8 aN6 ha hb
end
end PP
namespace Core
open PySem L2 PP
section
variable (ws : List Int) (ls : List (Int × Int)) (os ns : List Int)
def fU:Nat->List Int
 | 0=>[]
 | k+1=>fU k ++ (os.find? (kin ws ls (ns ++ fU k))).toList
def pC (k:Nat):Option Int:=os.find? (kin ws ls (ns ++ fU ws ls os ns k))
end
section
variable {ws : List Int} {ls : List (Int × Int)} {os ns : List Int}
theorem aN7 {k:Nat}{h:Int} (e:pC ws ls os ns k=some h):fU ws ls os ns (k+1)=fU ws ls os ns k ++ [h]:=by
 show fU ws ls os ns k ++ (pC ws ls os ns k).toList=_
 rw [e]; rfl
theorem W6 {S T:List Int}{h:Int} (hk:kin ws ls S h=true) (st:∀ x ∈ S,x ∈ T) (hn:h ∉ T):kin ws ls T h=true:=by
 unfold kin at hk ⊢
 rw [bl7] at hk ⊢
 refine⟨by rw [bh2 hn]; rfl,bh3 ?_⟩
 have h1:=bq8 hk.2
 have h2:((bL ls h).filter fun x=>decide (x ∈ S)).length<=((bL ls h).filter fun x=>decide (x ∈ T)).length:=by
  rw [<- bu7,<- bu7]
  exact List.countP_mono_left fun x _ hx=>bh3 (st x (bq8 hx))
 omega
def fV (ws:List Int) (ls:List (Int × Int)) (T:List Int):Prop:=∀ h ∈ rng ws.length,kin ws ls T h=false
theorem W7 {T:List Int} (sh:fV ws ls T) (st:∀ x ∈ ns,x ∈ T):∀ k,∀ x ∈ aS ws ls ns k,x ∈ T
 | 0,x,hx=>st x hx
 | k+1,x,hx=>by
  have ih:=W7 sh st k
  rcases bk0.mp (show x ∈ aS ws ls ns k ++ nextOf ws ls (aS ws ls ns k) from hx) with hx | hx
  ·exact ih x hx
  ·have hx:=bj8.mp hx
   by_cases e:x ∈ T
   ·exact e
   ·have:=W6 hx.2 ih e
    rw [sh x hx.1] at this; cases this
theorem W8 (n:Nat):(rng n).Nodup:=xE n
theorem aN8 {k:Nat}{h:Int} (e:pC ws ls os ns k=some h):h ∈ os/\h ∉ ns ++ fU ws ls os ns k:=
 ⟨List.mem_of_find?_eq_some e,of_decide_eq_false (wZ (List.find?_some e))⟩
theorem aN9 (po:os.Perm (rng ws.length)) (hs:aP ws.length ns=true):∀ k,(ns ++ fU ws ls os ns k).Nodup/\∀ x ∈ ns ++ fU ws ls os ns k,x ∈ rng ws.length
 | 0=>by
  rw [show fU ws ls os ns 0 = [] from rfl,bk1]
  exact⟨(fG (cQ hs).1).imp fun h=>Int.ne_of_lt h,fun x hx=>gN.mpr ((cQ hs).2 x hx)⟩
 | k+1=>by
  obtain ⟨i1,i2⟩:=aN9 po hs k
  cases e:pC ws ls os ns k with
  | none=>
   have:fU ws ls os ns (k+1)=fU ws ls os ns k:=by
    show fU ws ls os ns k ++ (pC ws ls os ns k).toList=_
    rw [e]; exact bk1 _
   rw [this]; exact⟨i1,i2⟩
  | some h=>
   obtain ⟨n1,n2⟩:=aN8 e
   rw [aN7 e,<- bj5]
   refine⟨bu2.mpr ⟨i1,bn5 _ _,fun x hx y hy=>?_⟩,fun x hx=>?_⟩
   ·rw [bh8.mp hy]; intro z; subst z; exact n2 hx
   ·rcases bk0.mp hx with hx | hx
    ·exact i2 x hx
    ·rw [bh8.mp hx]; exact po.mem_iff.mp n1
theorem xN (hs:aP ws.length ns=true):∀ k,(aS ws ls ns k).Nodup
 | 0=>(fG (cQ hs).1).imp fun h=>Int.ne_of_lt h
 | k+1=>by
  show (aS ws ls ns k ++ nextOf ws ls (aS ws ls ns k)).Nodup
  refine bu2.mpr ⟨xN hs k,(xE ws.length).filter _,fun x hx y hy=>?_⟩
  intro z; subst z
  exact of_decide_eq_false (wZ (bj8.mp hy).2) hx
end
theorem jP {i:Nat}{h:Int}{g:Bool}{ρ:bJ}{Q:bJ->Prop} (q:Q (ρ.set i (some (.sh true (.int h))))):cA i (.int h) g ρ Q:=by
 show Q (ρ.set i (some (.sh (g || true) (.int h))))
 rw [Bool.or_true]; exact q
def gQ (ns S:List Int):Int:=(ns.length:Int) - (((ns.filter fun x=>decide (x ∈ S)).length:Nat):Int)
def sH:bH:=fun xs Q=>∃ x ns ps S,xs = [x,.dK ps]/\cM x ns/\DS ps S/\ns.length<=10000/\Q (.int (gQ ns S))
def W9:aL:=(bF (l9 (aC bT (a6 (a5 0) a9)) (aC kC (a6 (a5 0) (a6 (a5 1) a9)))))
theorem aO0:cG W9 ["hearths","inside"] sH:=by
 rintro xs Q ⟨x,ns,ps,S,rfl,hx,d,hl,q⟩
 exact⟨_,rfl,_,_,rfl,hx.len,_,rfl,_,rfl,x,ns,ps,S,rfl,hx,d,hl,_,_,rfl,rfl,trivial,q⟩
def kD:bH:=fun xs Q=>∃ x ns y ms,xs = [x,y]/\cM x ns/\cM y ms/\ns.length<=10000/\ms.length<=1000/\Q (.tup (intz (ns.filter fun z=>!decide (z ∈ ms))))
def X0:aL:=(aJ (b6 2 (aC iD (a6 (a5 1) a9)))
 (bF (aC gK (a6 (dX (dM (a5 0)) [none,some 2] (cA 0) (aU (k4 true (a5 0) (a5 1))) (a5 0)) a9))))
theorem aO1:cG X0 ["hearths","some","gone"] kD:=by
 rintro xs Q ⟨x,ns,y,ms,rfl,hx,hy,hl,hm,q⟩
 refine⟨_,rfl,y,ms,rfl,hy,hm,fun ps d=>⟨trivial,?_⟩⟩
 refine⟨_,rfl,_,hx.seq,mP hx,by rw [aX]; omega,fun i acc=>acc=intz ((ns.take i).filter fun z=>!decide (z ∈ ms)),rfl,?_,?_⟩
 ·rintro i z acc hz rfl
  obtain ⟨n,rfl,hn⟩:=fH hz
  have tk:=jN (p:=fun z=>!decide (z ∈ ms)) hn
  refine⟨_,rfl,_,rfl,_,.inl ⟨ps,Sum.inl n,rfl,rfl,rfl⟩,_,rfl,?_⟩
  show if (!(c7 ps (Sum.inl n:aE)).isSome)=true then _ else _
  rw [d.has n]
  by_cases h:n ∈ ms
  ·rw [bh3 h] at tk ⊢
   refine aW ?_
   show _=intz (List.filter _ (List.take (i+1) ns))
   rw [tk]; exact congrArg intz (bk1 _).symm
  ·rw [bh2 h] at tk ⊢
   refine aZ ⟨_,rfl,trivial,?_⟩
   show _=intz (List.filter _ (List.take (i+1) ns))
   rw [tk,gO]; rfl
 ·rintro acc rfl
  rw [aX,bk7]
  exact⟨⟨_,_,rfl,rfl,cW _,trivial,q⟩,fun ns z=>by cases z⟩
def fL (ws:List Int) (ls:List (Int × Int)) (S:List Int) (h:Int):Bool:=decide (gQ (bL ls h) S < ws.getD h.toNat 0)
def stay (ws:List Int) (ls:List (Int × Int)) (S:List Int):List Int:=S.filter (fL ws ls S)
theorem sI {n:Nat}{S:List Int} (h:aP n S=true) (p:Int->Bool):aP n (S.filter p)=true:=by
 obtain ⟨h1,h2⟩:=cQ h
 have u:sD (n:Int) (S.filter p):=⟨(fG h1).filter p,fun x hx=>h2 x (bj8.mp hx).1,by
  have:=fI h
  have:=bs5 p S
  omega⟩
 exact u.set
def sJ:bH:=fun xs Q=>∃ ws ls x S,xs = [bC ws ls,.lst (gP ws.length ls),x]/\Wb ws ls/\cM x S/\aP ws.length S=true/\Q (.tup (intz (stay ws ls S)))
def X1:aL:=(aJ (b6 3 (aC iD (a6 (a5 2) a9)))
 (bF (aC gK (a6 (dX (dM (a5 2)) [none,some 3,some 1,some 0] (cA 0) (aU (vZ (aC sH (a6 (bI (a5 2) (a5 0)) (a6 (a5 1) a9))) (bI (bI (a5 3) (qC (.int 0))) (a5 0)))) (a5 0)) a9))))
theorem aO2:cG X1 ["web","around","block","inside"] sJ:=by
 rintro xs Q ⟨ws,ls,x,S,rfl,wb,hx,hs,q⟩
 have few:=wb.few
 have ln:=fI hs
 have most:=wb.most
 refine⟨_,rfl,x,S,rfl,hx,by omega,fun ps d=>⟨trivial,?_⟩⟩
 refine⟨_,rfl,_,hx.seq,mP hx,by rw [aX]; omega,fun i acc=>acc=intz ((S.take i).filter (fL ws ls S)),rfl,?_,?_⟩
 ·rintro i z acc hz rfl
  obtain ⟨h,rfl,hh⟩:=fH hz
  have hm:=(cQ hs).2 h (bj1 hh)
  have nl:=jV ls h
  have tk:=jN (p:=fL ws ls S) hh
  refine⟨_,rfl,_,rfl,_,_,_,rfl,rfl,rY hm.1 hm.2,_,rfl,_,bL ls h,ps,S,rfl,.inr rfl,d,by omega,_,rfl,_,_,_,rfl,rfl,rfl,_,rfl,_,_,_,rfl,rfl,sA hm.1 hm.2,_,_,rfl,rfl,_,rfl,?_⟩
  show if fL ws ls S h=true then _ else _
  cases hk:fL ws ls S h with
  | true=>
   rw [hk,if_pos rfl] at tk
   refine aZ ⟨_,rfl,trivial,?_⟩
   show _=intz (List.filter _ (List.take (i+1) S))
   rw [tk,gO]; rfl
  | false=>
   rw [hk,if_neg (by decide),bk1] at tk
   refine aW ?_
   show _=intz (List.filter _ (List.take (i+1) S))
   rw [tk]
 ·rintro acc rfl
  rw [aX,bk7]
  exact⟨⟨_,_,rfl,rfl,cW _,trivial,q⟩,fun ns z=>by cases z⟩
def dF (ws:List Int) (ls:List (Int × Int)) (S:List Int):Nat->List Int
 | 0=>S
 | k+1=>stay ws ls (dF ws ls S k)
theorem X2 {ws:List Int}{ls:List (Int × Int)}{S:List Int} (hs:aP ws.length S=true):∀ k,aP ws.length (dF ws ls S k)=true
 | 0=>hs
 | k+1=>sI (X2 hs k) _
theorem aO3 {S:List Int}{p:Int->Bool} (h:S.filter p ≠ S):(S.filter p).length < S.length:=by
 rcases bl9 (S.filter p).length S.length with z | z
 ·exact z
 ·exact absurd (List.filter_sublist.eq_of_length_le z) h
section
variable {ws : List Int} {ls : List (Int × Int)} {S T : List Int}
theorem aO4 {ns:List Int} (st:∀ x ∈ T,x ∈ S):gQ ns S<=gQ ns T:=by
 have h2:(ns.filter fun x=>decide (x ∈ T)).length<=(ns.filter fun x=>decide (x ∈ S)).length:=by
  rw [<- bu7,<- bu7]
  exact List.countP_mono_left fun x _ hx=>bh3 (st x (bq8 hx))
 unfold gQ; omega
theorem X3 {h:Int} (st:∀ x ∈ T,x ∈ S) (hs:fL ws ls T h=true):fL ws ls S h=true:=by
 unfold fL at hs ⊢
 have h1:=bq8 hs
 have h2:=aO4 (ns:=bL ls h) st
 exact bh3 (by omega)
theorem aO5 (hT:stay ws ls T=T) (st:∀ x ∈ T,x ∈ S):∀ x ∈ T,x ∈ stay ws ls S:=fun x hx=>
 bj8.mpr ⟨st x hx,X3 st (bj8.mp (show x ∈ stay ws ls T by rw [hT]; exact hx)).2⟩
theorem X4 (hT:stay ws ls T=T) (st:∀ x ∈ T,x ∈ S):∀ k,∀ x ∈ T,x ∈ dF ws ls S k
 | 0=>st
 | k+1=>aO5 hT (X4 hT st k)
theorem X5:∀ k,∀ x ∈ dF ws ls S k,x ∈ S
 | 0,x,hx=>hx
 | k+1,x,hx=>X5 k x (bj8.mp (show x ∈ stay ws ls (dF ws ls S k) from hx)).1
structure pD (ws:List Int) (ls:List (Int × Int)) (S G:List Int):Prop where
 cold:stay ws ls G=G
 sub:∀ x ∈ G,x ∈ S
 most:∀ U,stay ws ls U=U->(∀ x ∈ U,x ∈ S)->∀ x ∈ U,x ∈ G
theorem aO6 {k:Nat} (h:stay ws ls (dF ws ls S k)=dF ws ls S k):pD ws ls S (dF ws ls S k):=⟨h,X5 k,fun U hU st=>X4 hU st k⟩
theorem aO7 {n:Nat}{A B:List Int} (ha:aP n A=true) (hb:aP n B=true) (h:∀ x,x ∈ A ↔ x ∈ B):A=B:=by
 have ua:=fG (cQ ha).1
 have ub:=fG (cQ hb).1
 have p:A.Perm B:=(List.perm_ext_iff_of_nodup (ua.imp fun z=>Int.ne_of_lt z) (ub.imp fun z=>Int.ne_of_lt z)).mpr h
 exact aK5 p (ua.imp fun z=>Int.le_of_lt z) (ub.imp fun z=>Int.le_of_lt z)
theorem aO8 {n:Nat}{A B:List Int} (ha:pD ws ls S A) (hb:pD ws ls S B) (na:aP n A=true) (nb:aP n B=true):A=B:=
 aO7 na nb fun x=>⟨fun h=>hb.most A ha.cold ha.sub x h,fun h=>ha.most B hb.cold hb.sub x h⟩
theorem aO9 {S T:List Int}{h:Int} (hin:h ∉ S) (ht:∀ x,x ∈ bL ls h->(x ∈ T ↔ x ∉ S)):kin ws ls S h = !fL ws ls T h:=by
 have e:(((bL ls h).filter fun x=>decide (x ∈ S)).length:Int)=gQ (bL ls h) T:=by
  unfold gQ
  have:∀ L:List Int,(∀ x,x ∈ L->(x ∈ T ↔ x ∉ S))->(L.filter fun x=>decide (x ∈ S)).length+(L.filter fun x=>decide (x ∈ T)).length=L.length:=fun L hL=>by
   induction L with
   | nil=>rfl
   | cons a r ih=>
    have i:=ih fun x hx=>hL x (bi9 _ hx)
    have ha:=hL a bi4
    by_cases h1:a ∈ S
    ·have h2:a ∉ T:=fun z=>ha.mp z h1
     simp only [bv1,bh3 h1,bh2 h2,if_true,bj4,bo4,bk2]; omega
    ·have h2:a ∈ T:=ha.mpr h1
     simp only [bv1,bh3 h2,bh2 h1,if_true,bj4,bo4,bk2]; omega
  have:=this _ ht
  omega
 unfold kin fL
 rw [e,bh2 hin]
 simp only [Bool.not_false,Bool.true_and]
 by_cases hc:ws.getD h.toNat 0<=gQ (bL ls h) T
 ·rw [bh3 hc,bh2 (by omega)]; rfl
 ·rw [bh2 hc,bh3 (by omega)]; rfl
end
section
variable {ws : List Int} {ls : List (Int × Int)} {ns : List Int}
theorem X6 (wb:Wb ws ls) {h x:Int} (hx:x ∈ bL ls h):x ∈ rng ws.length:=by
 unfold bL at hx
 obtain ⟨l,hl,hx⟩:=List.mem_flatMap.mp hx
 have:=wb.links l hl
 rcases bk0.mp hx with hx | hx
 ·split at hx
  ·rw [bh8.mp hx]; exact gN.mpr this.2
  ·cases hx
 ·split at hx
  ·rw [bh8.mp hx]; exact gN.mpr this.1
  ·cases hx
def dR (n:Nat) (S:List Int):List Int:=(rng n).filter fun x=>!decide (x ∈ S)
theorem gR {n:Nat}{S:List Int}{x:Int}:x ∈ dR n S ↔ x ∈ rng n/\x ∉ S:=by
 unfold dR; rw [bj8]; simp
theorem xO (n:Nat) (S:List Int):aP n (dR n S)=true:=by
 have u:sD (n:Int) (dR n S):=⟨by
   refine List.Pairwise.filter _ ?_
   unfold rng
   rw [bu1]
   exact List.pairwise_lt_range.imp fun h=>by omega,fun x hx=>gN.mp (gR.mp hx).1,by
   have:=bs5 (fun x=>!decide (x ∈ S)) (rng n)
   rw [iC] at this
   show ((List.filter (fun x=>!decide (x ∈ S)) (rng n)).length:Int)<=_
   omega⟩
 exact u.set
theorem X7 (wb:Wb ws ls) {S:List Int}{h:Int} (hin:h ∉ S):kin ws ls S h = !fL ws ls (dR ws.length S) h:=
 aO9 hin fun x hx=>⟨fun z=>(gR.mp z).2,fun z=>gR.mpr ⟨X6 wb hx,z⟩⟩
theorem aP0 (wb:Wb ws ls) {m:Nat} (en:bP ws ls ns m):pD ws ls (dR ws.length ns) (dR ws.length (aS ws ls ns m)):=by
 have grow:∀ k,∀ x ∈ ns,x ∈ aS ws ls ns k:=fun k x hx=>by
  induction k with
  | zero=>exact hx
  | succ k ih=>exact bp3 _ ih
 refine⟨List.filter_eq_self.mpr fun h hh=>?_,fun x hx=>?_,fun U hU us x hx=>?_⟩
 ·have hm:=gR.mp hh
  have h1:=List.filter_eq_nil_iff.mp (show (rng ws.length).filter (kin ws ls (aS ws ls ns m)) = [] from en.2) h hm.1
  rw [X7 wb hm.2] at h1
  simpa using h1
 ·have hm:=gR.mp hx
  exact gR.mpr ⟨hm.1,fun z=>hm.2 (grow m x z)⟩
 ·have key:∀ k,∀ y ∈ U,y ∉ aS ws ls ns k:=fun k=>by
   induction k with
   | zero=>exact fun y hy=>(gR.mp (us y hy)).2
   | succ k ih=>
    intro y hy z
    rcases bk0.mp (show y ∈ aS ws ls ns k ++ nextOf ws ls (aS ws ls ns k) from z) with z | z
    ·exact ih y hy z
    ·have hk:=(bj8.mp z).2
     rw [X7 wb (ih y hy)] at hk
     have sy:fL ws ls U y=true:=(bj8.mp (show y ∈ stay ws ls U by rw [hU]; exact hy)).2
     have:=X3 (S:=dR ws.length (aS ws ls ns k)) (fun v hv=>gR.mpr ⟨(gR.mp (us v hv)).1,ih v hv⟩) sy
     rw [this] at hk; cases hk
  exact gR.mpr ⟨(gR.mp (us x hx)).1,key m x hx⟩
end
end Core
namespace Raw
open PySem PySem.W PyProof.Rows
section
variable {prog : Program} {w : World} {A : Around} {E : Value → Shared → Prop} {s : Shared} {T : String} {r d : Addr} {n : Nat} {P : Nat → Value → Prop} {OK : Heap → Prop}
theorem aP1 {R:Result->Shared->Prop} (K:KdlSrc prog w T r d n P OK) (hh:A.handled=none) (hok:OK s.heap) (hn:n<=sizeLine)
  (hR:∀ h' tk acc c,(∀ b o,b ≠ s.heap.objs.size->(s.heap.push { cls:=.type "list",data:=.seq ([]:List Value).toArray }).get? b=some o->h'.get? b=some o)->h'.get? s.heap.objs.size=some { cls:=.type "list",dict:=none,data:=.seq acc c,slots:=#[] }->ItemsOf P acc n->R (.ok (.ret (.ref s.heap.objs.size))) { s with heap:=h',toks:=tk }) :
  codeAny (model prog w) A (.builtin "proto.collect" ⟨[.ref r],[]⟩) R s:=by
 have lt:=K.there _ hok
 refine bw1 PySem.F.entry_proto_collect ?_
 rw [Around.under_plainId PySem.F.plain_proto_collect _]
 show wpAny _ A.in1 (newList [] >>= fun l=>again (.builtin "list.__iadd__" ⟨[l,.ref r],[]⟩)) _ _ s
 refine bg5 (bn1 ?_)
 refine bg9 ⟨plainId_quiet PySem.F.plain_list_iadd _,bw1 PySem.F.entry_list_iadd ?_⟩
 rw [Around.under_plainId PySem.F.plain_list_iadd _]
 show wpAny _ A.in1 (Builtin.List.listExtendWith (.ref s.heap.objs.size) (.ref r) (.ref s.heap.objs.size)) _ _ _
 exact kdl_extend (s:={ s with heap:=s.heap.push { cls:=.type "list",data:=.seq ([]:List Value).toArray } }) (R:=R) K hh (K.keep _ _ hok fun b _ o e=>bg6 _ e) s.heap.objs.size (bp6 lt.1) (bp6 lt.2) _ 0 (bi0 _ rfl) hR hn
theorem aP2 {Q:List Value->Shared->Prop} (K:KdlSrc prog w T r d n P OK) (hh:A.handled=none) (hok:OK s.heap) (hn:n<=sizeLine)
  (hQ:∀ h' tk acc,(∀ b o,s.heap.get? b=some o->h'.get? b=some o)->s.heap.objs.size<=h'.objs.size->ItemsOf P acc n->Q acc.toList { s with heap:=h',toks:=tk }) :
  wpAny (model prog w) A (collect (.ref r)) Q E s:=by
 unfold collect
 refine bg5 (wpAny_runValue (aP1 (s:=s) K hh hok hn fun h' tk acc c kp at1 it=>?_))
 show wpAny _ A (load s.heap.objs.size >>= _) _ _ _
 refine bg5 (wpAny_load at1 ?_)
 exact bg9 (hQ h' tk acc (fun b o e=>kp b o (bk4 (bi1 e)) (bg6 _ e)) (bm2 (bi1 at1)) it)
theorem aP3 {Q:Value->Shared->Prop}{G:List Int->Prop} (K:KdlSrc prog w T r d n P OK) (hh:A.handled=none) (hok:OK s.heap) (hn:n < 64)
  (hI:∀ acc,ItemsOf P acc n->∃ ns,IntsAre acc.toList ns/\G ns)
  (h:∀ h' tk a (out:Array Value) (ns ns':List Int) e,(∀ b o,s.heap.get? b=some o->h'.get? b=some o)->s.heap.objs.size<=a->h'.get? a=some (seqObj "list" out e)->IntsAre out.toList ns'->G ns->ns'.Perm ns->ns'.Pairwise (· <= ·)->Q (.ref a) { s with heap:=h',toks:=tk }) :
  wpAny (model prog w) A (call (.builtin "sorted") [.ref r]) Q E s:=by
 have hsl:n<=sizeLine:=bk3 (bm2 hn) (by decide)
 refine Calls.call_function_entry kind_sorted plain_sorted entry_sorted (args_sorted1 _) ?_
 unfold Builtin.«sorted»
 refine bg5 (m:=checkCount "sorted" 1 1 _) (bg9 ?_)
 refine bg5 (aP2 (s:=s) K hh hok hsl fun h' tk acc kp hs it=>?_)
 obtain ⟨ns,hi,g⟩:=hI acc it
 have hz:acc.toList.length < 64:=by rw [bl8,it.1]; exact hn
 refine bg5 (wpAny_newList ?_ (bk3 (bm2 hz) (by decide)))
 have hoL:(h'.push (seqObj "list" acc.toList.toArray 0)).get? h'.objs.size=some (seqObj "list" acc.toList.toArray 0):=bi0 _ rfl
 show wpAny _ _ _ _ _ { s with heap:=h'.push (seqObj "list" acc.toList.toArray 0),toks:=tk }
 refine bg5 (bp0 (bn0 slot_list_sort ⟨_,hoL,rfl⟩ entry_list_sort (list_sort_tree hoL hi hz fun out ns' a1 a2 a3=>⟨_,rfl,?_⟩) (args_list_sort _)))
 obtain ⟨e,he⟩:=sortedHeap_at (vs:=acc.toList) (out:=out) hoL
 refine bg9 ⟨_,rfl,h _ tk h'.objs.size out ns ns' e (fun b o hb=>?_) hs he a1 g a2 a3⟩
 have lt:=bi1 (kp b o hb)
 rw [sortedHeap_old (bk4 lt) (by rw [size_push']; exact Nat.lt_succ_of_lt lt)]
 exact bg6 _ (kp b o hb)
end
end Raw
namespace L2
open PySem PySem.Spec PyProof.Rows
section
variable {X : Cx}
theorem aP4 (hc:X.calm=true):cN X (.builtin "sorted") (fun xs H Q=>∃ a kvs ns,xs = [.ref a]/\H a=some (.dK kvs)/\kvs.map (·.1)=ns.map Sum.inl/\ns.length < 64/\∀ l (ms:List Int),H l=none->ms.Perm ns->ms.Pairwise (· <= ·)->Q (.ref l) (upd H l (.lst (ms.map V.int)))):=by
 intro pins s σ H xs us Q I r h
 obtain ⟨a,kvs,ns,rfl,ha,hk,h64,q⟩:=h
 obtain ⟨u,rfl,ru⟩:=gX r
 cases ru
 obtain ⟨es,ep,rd,far,vk,z⟩:=au7 I ha
 have hl:=vk.length
 have hl2:=congrArg List.length hk
 rw [bh4,bh4] at hl hl2
 have hsz:es.toList.length=es.size:=bl8
 have e1:(kvs.map fun p=>kV p.1)=ns.map V.int:=by
  have:(kvs.map fun p=>kV p.1)=(kvs.map (·.1)).map kV:=by rw [bt3]; rfl
  rw [this,hk,bt3]; rfl
 rw [e1] at vk
 refine Raw.aP3 (G:=fun ms=>ms=ns) (Raw.au6 far) (I.ok.hd hc) rd (by omega) (fun acc it=>⟨ns,by rw [au8 it]; exact pX vk,rfl⟩) fun h' tk l out ns1 ns' e kp hn he a1 g a2 a3=>?_
 subst g
 have hlen:ns'.length=ns1.length:=a2.length_eq
 refine⟨.ref l,upd H l (.lst (ns'.map V.int)),I.laid (t':=tk) kp hn ⟨?_,out.toList,e,nV a1,by simpa using he⟩,rfl,q _ ns' (I.hok.fresh hn) a2 a3⟩
 rw [bh4,hlen]
 exact bm2 (m3 (by omega))
end
end L2
namespace PP
open PySem L2 PyProof.Rows
section
variable {X : Cx} {a b e : Expr} {ta tb te : aD} {tr : cE} {pos p2 : Pos}
def xP:List PV->(PV->Prop)->Prop:=fun xs Q=>∃ (ps:List (aE × PV)) (ns:List Int),xs = [.dK ps]/\ps.map (·.1)=ns.map Sum.inl/\ns.length < 64/\∀ ms:List Int,ms.Perm ns->ms.Pairwise (· <= ·)->Q (.lst (intz ms))
theorem aP5:gI X xP (fun xs H Q=>∃ a kvs ns,xs = [.ref a]/\H a=some (.dK kvs)/\kvs.map (·.1)=ns.map Sum.inl/\ns.length < 64/\∀ l (ms:List Int),H l=none->ms.Perm ns->ms.Pairwise (· <= ·)->Q (.ref l) (upd H l (.lst (ms.map V.int)))):=by
 rintro H vs xs Q Q' r ⟨ps,ns,rfl,e,hl,q⟩ k
 obtain ⟨v,rfl,r1⟩:=r.one
 cases r1 with
 | @dK a kvs _ m h e2 r2=>
  exact⟨a,kvs,ns,rfl,h,e2.trans e,hl,fun l ms hl' p o=>k _ _ _ (bB hl' _) (.lst hl' bE (Reps.intz ms)) (q ms p o)⟩
theorem aP6 (B:Bt X.mg) (hc:X.calm=true) (ha:QA X [e] tr) (hg:Gl X "sorted":=by rfl) (he:starEach [e] X.env=(false,eval e X.env) :: starEach [] X.env:=by rfl) (hpl:(backTo pos (starEach [] X.env)).any (·.1)=false:=by rfl):QE X (.Call (.Name "sorted" p2) [e] [] pos) (aC xP tr):=
 lD (aP4 hc) aP5 hg B.sorted PyProof.Rows.boot_sorted ha (he:=he) (hpl:=hpl)
end
end PP
namespace Core
open PySem L2 PP
def gS (k:Nat) (r:List Int):List (aE × PV):=r.map fun h=>((Sum.inl h:aE),PV.int (k:Int))
def jQ (rs:List (List Int)):List (aE × PV):=(rs.mapIdx gS).flatten
theorem aP7 (rs:List (List Int)) (r:List Int):jQ (rs ++ [r])=jQ rs ++ gS rs.length r:=by
 unfold jQ
 rw [List.mapIdx_append,List.flatten_append]
 simp
theorem X8 (k:Nat) (r:List Int):(gS k r).map (·.1)=r.map Sum.inl:=by
 unfold gS; rw [bt3]; rfl
theorem X9:∀ (rs:List (List Int)) (g:Nat->Nat),((rs.mapIdx fun i r=>gS (g i) r).flatten).map (·.1)=rs.flatten.map (Sum.inl:Int->aE)
 | [],_=>rfl
 | r :: t,g=>by
  rw [List.mapIdx_cons,bq7,bq7,bl4,bl4,X8,X9 t fun i=>g (i+1)]
theorem Y0 (rs:List (List Int)):(jQ rs).map (·.1)=rs.flatten.map (Sum.inl:Int->aE):=X9 rs fun i=>i
theorem aP8 {ps:List (aE × PV)}{h:Int}{v:PV}{S:List Int} (e:ps.map (·.1)=S.map Sum.inl) (hn:h ∉ S):dJ ps (Sum.inl h:aE) v=ps ++ [(Sum.inl h,v)]:=by
 unfold dJ
 rw [if_neg]
 intro z
 rw [List.any_eq_true] at z
 obtain ⟨p,hp,hq⟩:=z
 have:p.1 ∈ ps.map (·.1):=bn2.mpr ⟨p,hp,rfl⟩
 rw [e,bq8 hq] at this
 obtain ⟨y,hy,e2⟩:=bn2.mp this
 exact hn (Sum.inl.inj e2 ▸ hy)
theorem aP9 {k:Nat}{r:List Int}{i:Nat}{n:Int} (h:r[i]? = some n):gS k (r.take (i+1))=gS k (r.take i) ++ [(Sum.inl n,PV.int (k:Int))]:=by
 unfold gS
 rw [bp1,h,bl4]; rfl
end Core
namespace Zp
open PySem PyProof.Rows
def fW (h:Heap) (t u:Addr):Heap:=
 ((((h.push { cls:=.type "tuple_iterator",data:=.fields #[.ref t,.int 0 0] }).push { cls:=.type "list_iterator",data:=.fields #[.ref u,.int 0 0] }).push { cls:=.type "tuple",data:=.seq #[.ref h.objs.size,.ref (h.objs.size+1)] }).push
  { cls:=.type "tuple",data:=.seq #[.none,.none] }).push { cls:=.type "zip",data:=.fields #[.none,.bool false,.bool false,.ref (h.objs.size+2),.ref (h.objs.size+3)] }
theorem aQ0 (t u:Addr) (xs ys:Array Value):Meets (Builtin.«zip.__new__» ⟨[.type "zip",.ref t,.ref u],[]⟩) (fun _ R s=>s.heap.IsTuple t xs/\s.heap.IsList u ys/\R (.ok (.ret (.ref (s.heap.objs.size+4)))) { s with heap:=fW s.heap t u }):=
 .of_wp fun prog w A R s h=>by
  obtain ⟨hp,g,d,tk,os⟩:=s
  obtain ⟨ht,hu,h⟩:=h
  have sub:=sub_zip
  have a1:Heap.IsTuple (Shared.heap ⟨hp,g,d,tk,os⟩) t xs:=ht
  have a2:Heap.IsList (Shared.heap ⟨hp.push { cls:=.type "tuple_iterator",data:=.fields #[.ref t,.int 0 0] },g,d,tk,os⟩) u ys:=hu.push _
  wp_walk using bs6 a1,wpAny_pyIter_list a2
  have e:∀ (o:Obj) (k:Heap),(k.push o).objs.size=k.objs.size+1:=fun o k=>bq4 ..
  refine⟨_,rfl,?_⟩
  simp only [fW,e] at h ⊢
  exact h
section
variable {prog : Program} {w : World} {A : Around} {E : Value → Shared → Prop} {s : Shared}
theorem Y1 {t u:Addr}{xs ys:Array Value}{Q:Value->Shared->Prop} (ht:s.heap.IsTuple t xs) (hu:s.heap.IsList u ys)
  (q:∀ h',IsZip h' (s.heap.objs.size+4) (s.heap.objs.size+2) (s.heap.objs.size+3) .none->IsPair h' (s.heap.objs.size+2) (.ref s.heap.objs.size) (.ref (s.heap.objs.size+1))->
   IsPair h' (s.heap.objs.size+3) .none .none->h'.IsTupleIter s.heap.objs.size t 0->h'.IsListIter (s.heap.objs.size+1) u 0->(∀ c o,s.heap.get? c=some o->h'.get? c=some o)->Q (.ref (s.heap.objs.size+4)) { s with heap:=h' }) :
  wpAny (model prog w) A (call (.type "zip") [.ref t,.ref u]) Q E s:=by
 refine callType_new PySem.F.called_zip (by decide) (PySem.F.typeCall_zip_2 _ _) (PySem.F.newCall_zip_2 _ _) (fun obj=>PySem.F.args_object_init_3 obj _ _) PySem.F.entry_zip_new (aQ0 t u xs ys) ⟨ht,hu,?_⟩
 have e:∀ (o:Obj) (k:Heap),(k.push o).objs.size=k.objs.size+1:=fun o k=>bq4 ..
 have p0:∀ (k:Heap) (o:Obj) (m:Nat),o.isFreed=false->m=k.objs.size->(k.push o).get? m=some o:=fun k o m f z=>by rw [z]; exact bi0 _ f
 have g0:(fW s.heap t u).get? s.heap.objs.size=some { cls:=.type "tuple_iterator",data:=.fields #[.ref t,.int 0 0] }:=by
  unfold fW
  exact bg6 _ (bg6 _ (bg6 _ (bg6 _ (p0 _ _ _ rfl rfl))))
 have g1:(fW s.heap t u).get? (s.heap.objs.size+1)=some { cls:=.type "list_iterator",data:=.fields #[.ref u,.int 0 0] }:=by
  unfold fW
  exact bg6 _ (bg6 _ (bg6 _ (p0 _ _ _ rfl (by simp only [e]))))
 have g2:(fW s.heap t u).get? (s.heap.objs.size+2)=some { cls:=.type "tuple",data:=.seq #[.ref s.heap.objs.size,.ref (s.heap.objs.size+1)] }:=by
  unfold fW
  exact bg6 _ (bg6 _ (p0 _ _ _ rfl (by simp only [e])))
 have g3:(fW s.heap t u).get? (s.heap.objs.size+3)=some { cls:=.type "tuple",data:=.seq #[.none,.none] }:=by
  unfold fW
  exact bg6 _ (p0 _ _ _ rfl (by simp only [e]))
 have g4:(fW s.heap t u).get? (s.heap.objs.size+4)=some { cls:=.type "zip",data:=.fields #[.none,.bool false,.bool false,.ref (s.heap.objs.size+2),.ref (s.heap.objs.size+3)] }:=by
  unfold fW
  exact p0 _ _ _ rfl (by simp only [e])
 refine⟨⟨_,g4,rfl⟩,q _ g4 g2 g3 ⟨_,g0,rfl,rfl⟩ ⟨_,g1,rfl,rfl⟩ fun c o z=>?_⟩
 unfold fW
 exact bg6 _ (bg6 _ (bg6 _ (bg6 _ (bg6 _ z))))
end
end Zp
namespace L2
open PySem PySem.Spec PyProof.Rows
def sK (K:PySem.W.Frag) (a b:Addr):It:=
  ⟨fun i H=>∃ xs ys x y,aF K H a xs/\aH K H b ys/\xs[i]? = some x/\ys[i]? = some y,
   fun i H v H'=>∃ T x y,H T=none/\v = .ref T/\H'=upd H T (.tup [x,y])/\∀ xs ys,aF K H a xs->aH K H b ys->xs[i]? = some x/\ys[i]? = some y,
   fun i H=>∃ xs ys,aF K H a xs/\aH K H b ys/\(i=xs.length ∨ (i < xs.length/\i=ys.length))⟩
abbrev aQ1:=qP true false
theorem Y2 {P:Program}{w:World}{K:PySem.W.Frag}{elts:List Expr}{k:Nat}{pos:Pos} (a b z TI TO i1 i2:Addr) (d : [z,TI,TO,i1,i2].Nodup) :
  gW P w K (.Tuple elts k pos) (sK K a b) [z,TI,TO,i1,i2] z (aQ1 z TI TO i1 i2 a b):=vD true false a b z TI TO i1 i2 d
section
variable {X : Cx}
def aQ2 (K:PySem.W.Frag) (ta:TA):TI:=fun σ H R=>ta σ H fun vs H1=>∃ a b xs ys,vs = [.ref a,.ref b]/\aF K H1 a xs/\aH K H1 b ys/\R (sK K a b) H1
theorem bg2 {elts:List Expr}{kt:Nat}{pt:Pos}{a b:Expr}{ta:TA}{p pos:Pos} (hg:Gl X "zip") (hm:X.mg "zip" = none) (ha:PA X [a,b] ta) (hs:starEach [a,b] X.env = [(false,eval a X.env),(false,eval b X.env)]:=by rfl) (hs2:starEach [b] X.env = [(false,eval b X.env)]:=by rfl) :
  PI X (.Tuple elts kt pt) (.Call (.Name "zip" p) [a,b] [] pos) (aQ2 X.K ta):=by
 intro pins s σ H R I h
 refine Call_ (gV I hg hm PyProof.Rows.boot_zip (bl5 (aO (ha pos pins s σ H _ I h) fun us s1 ⟨vs,H1,I1,r1,q1⟩=>?_) (by rw [hs,hs2]) (by rw [hs2]; rfl)))
 obtain ⟨a',b',xs,ys,e,h1,h2,q⟩:=q1
 subst e
 cases r1 with
 | cons r rr=>
  cases rr with
  | cons r' rr=>
   cases rr
   cases r
   cases r'
   obtain ⟨us,_,p1,_⟩:=I1.tuple h1
   obtain ⟨ws,_,p2,_⟩:=I1.list h2
   refine Zp.Y1 p1 p2.isList fun h' z ti to s1' s2' kp=>wpAny_pyIter_zip z ?_
   have fresh:∀ k,H1 (s1.heap.objs.size+k)=none:=fun k=>I1.hok.fresh (bj2 _ _)
   refine⟨s1.heap.objs.size+4,[s1.heap.objs.size+4,s1.heap.objs.size+2,s1.heap.objs.size+3,s1.heap.objs.size,s1.heap.objs.size+1],_,_,H1,rfl,I1.kept (t':=s1.toks) kp,
    Y2 a' b' _ _ _ _ _ (by simp),⟨z,ti,⟨_,_,to⟩,s1',s2'⟩,fun c hc=>?_,q⟩
   simp only [bh1,bh5,bl0] at hc
   rcases hc with rfl | rfl | rfl | rfl | rfl
   ·exact I1.fpOk (bj2 _ _) (fresh 4)
   ·exact I1.fpOk (bj2 _ _) (fresh 2)
   ·exact I1.fpOk (bj2 _ _) (fresh 3)
   ·exact I1.fpOk (bh0 _) (fresh 0)
   ·exact I1.fpOk (bj2 _ _) (fresh 1)
end
section
variable {X : Cx}
def Y3 (K:PySem.W.Frag) (ta:TA):TI:=fun σ H R=>ta σ H fun vs H1=>∃ a b,vs = [.ref a,.ref b]/\((∃ xs ys,aF K H1 a xs/\aF K H1 b ys/\R (o4 K a b) H1) ∨ ∃ xs ys,aF K H1 a xs/\aH K H1 b ys/\R (sK K a b) H1)
theorem aQ3 {elts:List Expr}{kt:Nat}{pt:Pos}{a b:Expr}{ta:TA}{p pos:Pos} (hg:Gl X "zip") (hm:X.mg "zip" = none) (ha:PA X [a,b] ta) (hs:starEach [a,b] X.env = [(false,eval a X.env),(false,eval b X.env)]:=by rfl) (hs2:starEach [b] X.env = [(false,eval b X.env)]:=by rfl) :
  PI X (.Tuple elts kt pt) (.Call (.Name "zip" p) [a,b] [] pos) (Y3 X.K ta):=by
 intro pins s σ H R I h
 refine Call_ (gV I hg hm PyProof.Rows.boot_zip (bl5 (aO (ha pos pins s σ H _ I h) fun us s1 ⟨vs,H1,I1,r1,q1⟩=>?_) (by rw [hs,hs2]) (by rw [hs2]; rfl)))
 obtain ⟨a',b',e,q1⟩:=q1
 rcases q1 with ⟨xs,ys,h1,h2,q⟩ | ⟨xs,ys,h1,h2,q⟩
 ·subst e
  cases r1 with
  | cons r rr=>
   cases rr with
   | cons r' rr=>
    cases rr
    cases r
    cases r'
    obtain ⟨us,_,p1,_⟩:=I1.tuple h1
    obtain ⟨ws,_,p2,_⟩:=I1.tuple h2
    refine Zp.G6 p1 p2 fun h' z ti to s1' s2' kp=>wpAny_pyIter_zip z ?_
    have fresh:∀ k,H1 (s1.heap.objs.size+k)=none:=fun k=>I1.hok.fresh (bj2 _ _)
    refine⟨s1.heap.objs.size+4,[s1.heap.objs.size+4,s1.heap.objs.size+2,s1.heap.objs.size+3,s1.heap.objs.size,s1.heap.objs.size+1],_,_,H1,rfl,I1.kept (t':=s1.toks) kp,
     G8 a' b' _ _ _ _ _ (by simp),⟨z,ti,⟨_,_,to⟩,s1',s2'⟩,fun c hc=>?_,q⟩
    simp only [bh1,bh5,bl0] at hc
    rcases hc with rfl | rfl | rfl | rfl | rfl
    ·exact I1.fpOk (bj2 _ _) (fresh 4)
    ·exact I1.fpOk (bj2 _ _) (fresh 2)
    ·exact I1.fpOk (bj2 _ _) (fresh 3)
    ·exact I1.fpOk (bh0 _) (fresh 0)
    ·exact I1.fpOk (bj2 _ _) (fresh 1)
 ·subst e
  cases r1 with
  | cons r rr=>
   cases rr with
   | cons r' rr=>
    cases rr
    cases r
    cases r'
    obtain ⟨us,_,p1,_⟩:=I1.tuple h1
    obtain ⟨ws,_,p2,_⟩:=I1.list h2
    refine Zp.Y1 p1 p2.isList fun h' z ti to s1' s2' kp=>wpAny_pyIter_zip z ?_
    have fresh:∀ k,H1 (s1.heap.objs.size+k)=none:=fun k=>I1.hok.fresh (bj2 _ _)
    refine⟨s1.heap.objs.size+4,[s1.heap.objs.size+4,s1.heap.objs.size+2,s1.heap.objs.size+3,s1.heap.objs.size,s1.heap.objs.size+1],_,_,H1,rfl,I1.kept (t':=s1.toks) kp,
     Y2 a' b' _ _ _ _ _ (by simp),⟨z,ti,⟨_,_,to⟩,s1',s2'⟩,fun c hc=>?_,q⟩
    simp only [bh1,bh5,bl0] at hc
    rcases hc with rfl | rfl | rfl | rfl | rfl
    ·exact I1.fpOk (bj2 _ _) (fresh 4)
    ·exact I1.fpOk (bj2 _ _) (fresh 2)
    ·exact I1.fpOk (bj2 _ _) (fresh 3)
    ·exact I1.fpOk (bh0 _) (fresh 0)
    ·exact I1.fpOk (bj2 _ _) (fresh 1)
end
end L2
namespace PP
open PySem L2 PyProof.Rows
def iV (xs ys:List PV):List PV:=List.zipWith (fun x y=>PV.tup [x,y]) xs ys
theorem Y4 (xs ys:List PV):(iV xs ys).length=min xs.length ys.length:=by unfold iV; rw [List.length_zipWith]
theorem Y5 {xs ys:List PV}{i:Nat}{x y:PV} (h:xs[i]? = some x) (h':ys[i]? = some y):(iV xs ys)[i]? = some (.tup [x,y]):=by
 unfold iV; rw [List.getElem?_zipWith,h,h']
def xQ (ta tb:aD):eO:=fun ρ Q=>ta ρ fun x _=>tb ρ fun y g=>∃ xs ys,x = .tup xs/\flats xs=true/\(y = .lst ys ∨ y = .tup ys)/\(g = .rd->flat y=true)/\Q (iV xs ys) (oC g ys)
theorem aQ4 {K:PySem.W.Frag}{H0:Hp}{W:Addr->Prop}{g:Bool}{H1:Hp}{a b:Addr}{us vs:List V}{xs ys:List PV} (tw:∀ a,W a->∃ o,H1 a=some o/\fA o=true) (ha:∀ W' H',Ev W H1 W' H'->aF K H' a us) (hb:∀ W' H',Ev W H1 W' H'->aF K H' b vs)
  (r:Reps K (Ms H0 W g) H1 us xs) (r':Reps K (Ms H0 W g) H1 vs ys):jX K H0 W g H1 (o4 K a b) (iV xs ys):=by
 have lr:=r.length
 have lr':=r'.length
 have ll:=Y4 xs ys
 refine⟨fun W' H' i e hi=>⟨us,vs,us[i]'(by omega),vs[i]'(by omega),ha W' H' e,hb W' H' e,by simp,by simp⟩,fun W' H' i v H2 e y hi=>?_,fun W' H' e=>⟨us,vs,ha W' H' e,hb W' H' e,by omega⟩⟩
 obtain ⟨T,x,y',hT,rfl,rfl,y⟩:=y
 obtain ⟨h1,h2⟩:=y us vs (ha W' _ e) (hb W' _ e)
 obtain ⟨z,hz,rz⟩:=r.get h1
 obtain ⟨z',hz',rz'⟩:=r'.get h2
 have sm:=bB hT (HO.tup [x,y'])
 exact⟨sm,_,Y5 hz hz',.tup bE (.cons ((rz.keep (e.keep tw)).same sm fun _ q=>q) (.cons ((rz'.keep (e.keep tw)).same sm fun _ q=>q) .nil))⟩
theorem aQ5 {K:PySem.W.Frag}{H0:Hp}{W:Addr->Prop}{g:Bool}{H1:Hp}{a b:Addr}{us vs:List V}{xs ys:List PV} (tw:∀ a,W a->∃ o,H1 a=some o/\fA o=true) (ha:∀ W' H',Ev W H1 W' H'->aF K H' a us) (hb:∀ W' H',Ev W H1 W' H'->aH K H' b vs)
  (r:Reps K (Ms H0 W g) H1 us xs) (r':Reps K (Ms H0 W g) H1 vs ys):jX K H0 W g H1 (sK K a b) (iV xs ys):=by
 have lr:=r.length
 have lr':=r'.length
 have ll:=Y4 xs ys
 refine⟨fun W' H' i e hi=>⟨us,vs,us[i]'(by omega),vs[i]'(by omega),ha W' H' e,hb W' H' e,by simp,by simp⟩,fun W' H' i v H2 e y hi=>?_,fun W' H' e=>⟨us,vs,ha W' H' e,hb W' H' e,by omega⟩⟩
 obtain ⟨T,x,y',hT,rfl,rfl,y⟩:=y
 obtain ⟨h1,h2⟩:=y us vs (ha W' _ e) (hb W' _ e)
 obtain ⟨z,hz,rz⟩:=r.get h1
 obtain ⟨z',hz',rz'⟩:=r'.get h2
 have sm:=bB hT (HO.tup [x,y'])
 exact⟨sm,_,Y5 hz hz',.tup bE (.cons ((rz.keep (e.keep tw)).same sm fun _ q=>q) (.cons ((rz'.keep (e.keep tw)).same sm fun _ q=>q) .nil))⟩
section
variable {X : Cx} {σ : L2.St} {H : Hp} {ta tb : aD} {R : It → Hp → Prop}
theorem aQ6 (h:LI X (xQ ta tb) σ H R):Y3 X.K (iJ (LE X ta) (iJ (LE X tb) jT)) σ H R:=by
 obtain ⟨W,ρ,Q,px,q,k⟩:=h
 refine⟨W,ρ,_,px,q,fun v0 H0 x0 g0 s0 r0 q0=>⟨W,ρ,_,px.mono s0,q0,?_⟩⟩
 rintro v H1 x g s r ⟨xs,ys,rfl,fx,hy,hg,q⟩
 have S:=s0.trans s
 have px1:=px.mono S
 have tw:∀ a,W a->∃ o,H1 a=some o/\fA o=true:=fun a z=>(px1.wm a z).2
 obtain ⟨a,us,rfl,h1,ra⟩:=(r0.same (M':=fun _=>True) s fun _ _=>trivial).sqT
 have ra2:Reps X.K (Ms X.H₀ W (oC g ys)) H1 us xs:=ra.flat fx
 have sta:∀ W' H',Ev W H1 W' H'->aF X.K H' a us:=fun W' H' e=>aF.of (e _ _ h1 fun z=>by obtain ⟨o,h',mu⟩:=tw _ z; rw [h1] at h'; cases h'; cases mu).1
 have rr:=r.same (M':=Mg X.H₀ W H g) (aB.refl _) fun c hc=>by
  cases g with
  | fr=>exact s0.free hc
  | nw=>exact hc
  | sh=>exact hc
  | rd=>exact hc
 rcases hy with rfl | rfl
 ·obtain ⟨b,vs,rfl,m,h,rb⟩:=rr.sqL
  have wa : ¬ W b:=by
   cases g with
   | fr=>exact (px.new m).1
   | nw=>exact m.1
   | sh=>exact m
   | rd=>have:=hg rfl; unfold flat at this; cases this
  exact⟨a,b,rfl,.inr ⟨us,vs,aF.of h1,aH.of h,k _ _ _ _ S (aQ5 tw sta (fun W' H' e=>aH.of (e _ _ h wa).1) ra2 (jY px (fun z=>by have:=hg z; unfold flat at this; cases this) rb)) q⟩⟩
 ·obtain ⟨b,vs,rfl,h,rb⟩:=rr.sqT
  refine⟨a,b,rfl,.inl ⟨us,vs,aF.of h1,aF.of h,k _ _ _ _ S (aQ4 tw sta (fun W' H' e=>aF.of (e _ _ h fun z=>?_).1) ra2 (jY px (fun z=>by have:=hg z; unfold flat at this; exact this) rb)) q⟩⟩
  obtain ⟨o,h',mu⟩:=tw _ z; rw [h] at h'; cases h'; cases mu
theorem aQ7 {elts:List Expr}{kt:Nat}{pt p2 pos:Pos}{a b:Expr} (B:Bt X.mg) (ha:QE X a ta) (hb:QE X b tb) (hg:Gl X "zip":=by rfl) (hs:starEach [a,b] X.env = [(false,eval a X.env),(false,eval b X.env)]:=by rfl) (hs2:starEach [b] X.env = [(false,eval b X.env)]:=by rfl):QI X (.Tuple elts kt pt) (.Call (.Name "zip" p2) [a,b] [] pos) (xQ ta tb):=
 oJ (aQ3 hg B.zip (cD ha (cD hb cT hs2) (by rw [hs,hs2])) hs hs2) fun _ _ _=>aQ6
end
end PP
namespace Core
open PySem L2 PP
theorem qM {ls:List (Int × Int)}{wts:List Int} (e:wts.length=ls.length):(ls.zip wts).map (·.2)=wts:=by
 rw [List.map_snd_zip]; omega
theorem aQ8 (n:Nat):(rng n).Pairwise (· < ·):=by
 unfold rng
 rw [bu1]
 exact (List.pairwise_lt_range (n:=n)).imp fun h=>by omega
section
variable {ws : List Int} {ls : List (Int × Int)} {ns wts : List Int} {m : Nat}
def loose (ls:List (Int × Int)) (wts ns:List Int):List ((Int × Int) × Int):=(ls.zip wts).filter fun z=>!(decide (z.1.1 ∈ ns) && decide (z.1.2 ∈ ns))
end
end Core
set_option maxHeartbeats 1000000
set_option maxHeartbeats 1000000
set_option maxHeartbeats 1000000
set_option maxHeartbeats 1000000
namespace PP
open PySem L2 PyProof.Rows
abbrev cR:=(Str->Prop)->bH
def EX (K:PySem.W.Frag) (H0:Hp) (Ep:Str->Prop):XK:=fun c d H'=>d=none/\aB H0 H'/\∃ n C,c = .ref C/\PySem.W.nsIn K mainGlobals n=some (some (.ref C))/\Ep n
def Y6 (K:PySem.W.Frag) (p:cR):Sp:=fun vs H Q E=>∃ xs Qp Ep,Reps K (fun _=>True) H vs xs/\p Ep xs Qp/\(∀ v H' x,aB H H'->aG K (fun a=>H a=none) H' v x->Qp x->Q v H')/\
 ∀ n C H',aB H H'->PySem.W.nsIn K mainGlobals n=some (some (.ref C))->Ep n->E (.ref C) none H'
structure bD (P:Program) (w:World) (K:PySem.W.Frag) (mg:Str->Option Value) (base:Heap) (k:Nat) (x:Str) (ps:List Str) (p:cR):Prop where
 ex:∃ f fd,cI P w K mg base (dQ P w) k f fd ps (Y6 K p)/\gY K fd ps []/\PySem.W.keepIn K (.ref f)=true/\mg x=some (.ref f)
section
variable {X : Cx} {σ : L2.St} {H : Hp} {D : bP} {tr : cE} {Q' : VK} {a b c e : Expr} {es : List Expr} {pos p2 cp np hp : Pos} {t : aL} {te : aD} {tc : cJ}
def eV (Ep:Str->Prop) (p:cR) (t:cE):aD:=aC (p Ep) t
theorem Y7 {p:cR}{Ep:Str->Prop} (h:LE X (eV Ep p tr) σ H Q'):uG (Y6 X.K p) [] (EX X.K X.H₀ Ep) (LA X tr) σ H Q':=by
 obtain ⟨W,ρ,Q,px,q,k⟩:=h
 refine⟨W,ρ,_,px,q,fun vs H1 xs s1 r1 q1=>⟨_,_,Ep,by rw [bk1]; exact r1.any,q1,fun v H' x s2 r2 q2=>k v H' x .fr (s1.trans s2) (r2.same (aB.refl _) fun _ z=>s1.free z) q2,fun n C H' s2 z1 z2=>⟨rfl,(px.same.trans s1).trans s2,n,C,rfl,z1,z2⟩⟩⟩
theorem fX {Ep:Str->Prop}{k j:Nat}{x:Str}{ps:List Str}{p:cR} (hX:mM X (EX X.K X.H₀ Ep)) (d:bD X.prog X.w X.K X.mg X.base k x ps p) (hr:bZ j X.A) (ha:QA X (e :: es) tr) (hkj:k<=j:=by decide) (hg:Gl X x:=by rfl) (hdb:(x == ("__debug__" : Str))=false:=by decide)
  (he:starEach (e :: es) X.env=(false,eval e X.env) :: starEach es X.env:=by rfl) (hpl:(backTo pos (starEach es X.env)).any (·.1)=false:=by rfl):QE X (.Call (.Name x p2) (e :: es) [] pos) (eV Ep p tr):=by
 obtain ⟨f,fd,F,b,kp,m⟩:=d.ex
 exact cB (uH F (hr.mono hkj) hg m kp b .nil hX.pass ha hdb he hpl) fun _ _ _=>Y7
theorem sL {k j:Nat}{x:Str}{ps:List Str}{p:cR} (d:bD X.prog X.w X.K X.mg X.base k x ps p) (hr:bZ j X.A) (ha:QA X (e :: es) tr) (hkj:k<=j:=by decide) (hg:Gl X x:=by rfl) (hdb:(x == ("__debug__" : Str))=false:=by decide)
  (he:starEach (e :: es) X.env=(false,eval e X.env) :: starEach es X.env:=by rfl) (hpl:(backTo pos (starEach es X.env)).any (·.1)=false:=by rfl):QE X (.Call (.Name x p2) (e :: es) [] pos) (aC (p fun _=>False) tr):=by
 obtain ⟨f,fd,F,b,kp,m⟩:=d.ex
 refine cB (uH F (E:=EX X.K X.H₀ fun _=>False) (hr.mono hkj) hg m kp b .nil (fun _ _ _ _ _ _ _ h=>?_) ha hdb he hpl) fun _ _ _ h=>Y7 (Ep:=fun _=>False) h
 obtain ⟨_,_,_,_,_,_,_,_,_,_,_,_,z⟩:=h
 exact z.elim
def lO (Ep:Str->Prop) (n:Str) (t:cE):aL:=fun _ ρ=>t ρ fun xs=>xs.length<=1000/\Ep n
theorem aQ9 {Ep:Str->Prop}{n:Str}{C:Addr} (hn:PySem.W.nsIn X.K mainGlobals n=some (some (.ref C))) (h:LS X (lO Ep n tr) D σ H):R9 (EX X.K X.H₀ Ep) C (LA X tr) D σ H:=by
 obtain ⟨W,ρ,D',px,q,k⟩:=h
 exact⟨W,ρ,_,px,q,fun vs H1 xs s1 r z=>⟨by rw [r.length]; exact o8 z.1,rfl,px.same.trans s1,n,C,rfl,hn,z.2⟩⟩
structure Xc (K:PySem.W.Frag) (mg:Str->Option Value) (base:Heap) (n:Str):Prop where
 ex:∃ C B newId initId bm,OwnCls n C bm newId mg base/\ExcBaseFacts B newId initId bm/\PySem.W.nsIn K mainGlobals n=some (some (.ref C))
theorem pE {Ep:Str->Prop}{n:Str} (hX:mM X (EX X.K X.H₀ Ep)) (x:Xc X.K X.mg X.base n) (ha:QA X (e :: es) tr) (hc:X.calm=true:=by rfl) (hg:Gl X n:=by rfl) (hd:(n == ("__debug__" : Str))=false:=by decide)
  (he:starEach (e :: es) X.env=(false,eval e X.env) :: starEach es X.env:=by rfl) (hpl:(backTo cp (starEach es X.env)).any (·.1)=false:=by rfl):QS X (.Raise (some (.Call (.Name n np) (e :: es) [] cp)) none pos) (lO Ep n tr):=by
 obtain ⟨C,B,newId,initId,bm,O,FB,hn⟩:=x.ex
 exact eD (aH0 hX hc O FB ha hg hd he hpl) fun _ _ _=>aQ9 hn
abbrev mT:=i6->(Str->Prop)->bJ->Prop
def LB (X:Cx) (t:mT):TB:=fun D Ex σ H=>∃ (W:Addr->Prop) (ρ:bJ) (D':i6) (Ep:Str->Prop),PX X.K X.H₀ W σ ρ H/\t D' Ep ρ/\o9 X W H D' D/\∀ n C H',aB H H'->PySem.W.nsIn X.K mainGlobals n=some (some (.ref C))->Ep n->Ex (.ref C) none H'
def QB (X:Cx) (sts:List Stmt) (t:mT):Prop:=PB X sts (LB X t)
theorem pbI {sts:List Stmt}{t t':TB} (h:PB X sts t) (m:∀ D Ex σ H,t' D Ex σ H->t D Ex σ H):PB X sts t':=fun pins s σ H D Ex I q=>h pins s σ H D Ex I (m D Ex σ H q)
def Y8 (D:i6) (i:Nat):i6:={ nx:=fun ρ=>D.nx (ρ.set i none),rt:=D.rt,bk:=fun ρ=>D.bk (ρ.set i none),ct:=fun ρ=>D.ct (ρ.set i none) }
def mU:List Str:=["BadWeb","BadSet","BadOrder","BadPrices","BadBoard","BadDeed","NotWood","NoPaper","NoSuch","TooMany","NoText","OddRound"]
def lP (n m:Str):Option Bool:=if mU.contains n then some (n == m || m == "HearthError" || m == "ValueError") else none
def xR (m:Str) (i:Nat) (tb:mT) (ts:aL):aL:=fun D ρ=>tb D (fun n=>lP n m=some true/\ts (Y8 D i) (ρ.set i (some (.sh true (.exc n))))) ρ
theorem aR0 {m:Str}{Ch:Addr}{i:Nat}{tb:mT}{ts:aL} (hs:∀ n C,lP n m=some true->PySem.W.nsIn X.K mainGlobals n=some (some (.ref C))->PySem.W.subIn X.K (.ref C) (.ref Ch)=some true) (h:LS X (xR m i tb ts) D σ H):S2 X.K Ch i (LB X tb) (LS X ts) D σ H:=by
 obtain ⟨W,ρ,D',px,q,k⟩:=h
 refine⟨W,ρ,D',_,px,q,k,fun n C H' s z1 z2 a C' oe hc na hcl=>?_⟩
 cases hc
 refine⟨hs n C z2.1 z1,W,_,Y8 D' i,(px.mono (s.trans (bB na _))).setSh (g:=true) (.exc bE z1 hcl),z2.2,?_⟩
 have k':=k.step (Ev.same (W:=W) (s.trans (bB na (.frz oe (.own a)))))
 exact⟨fun W' σ' H2 ρ' ev px' q'=>k'.nx W' _ H2 _ ev px'.setNone q',k'.rt,fun W' σ' H2 ρ' ev px' q'=>k'.bk W' _ H2 _ ev px'.setNone q',fun W' σ' H2 ρ' ev px' q'=>k'.ct W' _ H2 _ ev px'.setNone q'⟩
structure xS (K:PySem.W.Frag) (mg:Str->Option Value) (m:Str):Prop where
 ex:∃ Ch,mg m=some (.ref Ch)/\wW K Ch/\∀ n C,lP n m=some true->PySem.W.nsIn K mainGlobals n=some (some (.ref C))->PySem.W.subIn K (.ref C) (.ref Ch)=some true
theorem aR1 (i:Nat) {m n:Str}{b₀:Stmt}{suite body:List Stmt}{tb:mT}{ts:aL} (ct:xS X.K X.mg m) (hN:X.N.Nodup) (hb:QB X body tb) (hs:∀ a,eC (X.suite a) (b₀ :: suite) ts) (hstk:X.stack=X.env :: X.outer/\X.env.frame=some X.env.locals:=by exact⟨rfl,rfl⟩) (hi:X.N[i]? = some n:=by rfl) (hl:X.env.scope.names.lookup n=some .local:=by rfl) (hg:Gl X m:=by rfl)
  (hd:(m == ("__debug__" : Str))=false:=by decide):QS X (.Try body [.ExceptHandler (some (.Name m np)) (some n) (b₀ :: suite) hp] [] [] pos) (xR m i tb ts):=by
 obtain ⟨Ch,hm,c,sub⟩:=ct.ex
 exact eD (aH3 (ts:=LS X ts) hstk hb hg hm c hN hi hl (fun a=>w5 (hs a) fun _ _ _ ⟨W,ρ,D',px,q,k⟩=>⟨W,ρ,D',px,q,⟨k.nx,k.rt,k.bk,k.ct⟩⟩) hd) fun _ _ _=>aR0 sub
def hJ:V->Value
 | .ref a=>.ref a
 | .ty n=>.type n
 | _=>.none
def aR2 (K:PySem.W.Frag):List V->Hp->VK->Prop:=fun xs H Q=>∃ v v2 b,xs = [v,v2]/\hJ v2 ≠ .none/\((∃ a o C,v = .ref a/\H a=some (.frz o (.own a))/\o.cls = .ref C/\iQ K C/\PySem.W.kitOne K (.ref C) (hJ v2)=some b) ∨ (v = .non/\PySem.W.kitOne K (.type "NoneType") (hJ v2)=some b))/\Q (.bl b) H
theorem aR3:cN X (.builtin "isinstance") (aR2 X.K):=by
 intro pins s σ H xs us Q I r h
 obtain ⟨v,v2,b,rfl,hv,hk,q⟩:=h
 obtain ⟨u,u',rfl,ru,ru'⟩:=nJ r
 obtain rfl:u'=hJ v2:=by
  cases v2 <;> first | exact ru' | exact absurd rfl hv
 rcases hk with ⟨a,o,C,rfl,hH,hc,F,e⟩ | ⟨rfl,e⟩
 ·obtain ⟨h1,_⟩:=I.hok a _ hH
  cases (show u=Value.ref a from ru)
  exact bn8 (aI0 F) I.kIn ⟨o,h1,hc⟩ e (fun z=>nomatch z) fun tk=>⟨.bl b,H,I.tok tk,rfl,q⟩
 ·cases (show u=Value.none from ru)
  exact bn8 PySem.W.kitx_none I.kIn trivial e (fun z=>nomatch z) fun tk=>⟨.bl b,H,I.tok tk,rfl,q⟩
def aR4 (m:Str):PV->Option Bool
 | .exc n=>lP n m
 | .non=>some false
 | _=>none
def mV (m:Str) (te:aD):aD:=fun ρ Q=>te ρ fun x _=>∃ b,aR4 m x=some b/\Q (.bl b) .fr
structure xT (K:PySem.W.Frag) (m:Str) (v2:V):Prop where
 nn:hJ v2 ≠ .none
 ex:∀ n C b,PySem.W.nsIn K mainGlobals n=some (some (.ref C))->lP n m=some b->iQ K C/\PySem.W.kitOne K (.ref C) (hJ v2)=some b
 no:PySem.W.kitOne K (.type "NoneType") (hJ v2)=some false
theorem Y9 {x:Str}{v2:V}{px:Pos} (B:Bt X.mg) (A:xT X.K x v2) (hx:PE X (.Name x px) (tC v2)) (ha:QE X a te) (hg:Gl X "isinstance":=by rfl)
  (he:starEach [a,.Name x px] X.env=(false,eval a X.env) :: starEach [.Name x px] X.env:=by rfl) (he2:starEach [.Name x px] X.env=(false,eval (.Name x px) X.env) :: starEach [] X.env:=by rfl) (hpl:(backTo pos (starEach [.Name x px] X.env)).any (·.1)=false:=by rfl):QE X (.Call (.Name "isinstance" p2) [a,.Name x px] [] pos) (mV x te):=
 cB (nL aR3 hg B.isinst PyProof.Rows.boot_isinstance (cD ha (cD hx cT he2) he) (he:=he) (hpl:=hpl)) fun σ H Q' h=>by
  obtain ⟨W,ρ,Q,px,q,k⟩:=h
  refine⟨W,ρ,_,px,q,?_⟩
  rintro v H1 y g s r ⟨b,e,q⟩
  refine⟨v,v2,b,rfl,A.nn,?_,k _ _ _ .fr s (.bl _) q⟩
  cases r with
  | exc h z c=>
   obtain ⟨F,kt⟩:=A.ex _ _ _ z e
   exact .inl ⟨_,_,_,rfl,h,c,F,kt⟩
  | non=>cases e; exact .inr ⟨rfl,A.no⟩
  | _=>cases e
end
section
variable {X : Cx} {a : Expr} {pos p2 px : Pos} {te : aD}
structure pF (K:PySem.W.Frag) (mg:Str->Option Value) (m:Str):Prop where
 ex:∃ C,mg m=some (.ref C)/\xT K m (.ref C)
structure xU (K:PySem.W.Frag) (mg:Str->Option Value):Prop where
 mg:mg "ValueError" = none
 is:xT K "ValueError" (.ty "ValueError")
theorem Z0 {x:Str} (B:Bt X.mg) (A:pF X.K X.mg x) (ha:QE X a te) (hgx:Gl X x:=by rfl) (hdx:(x == ("__debug__" : Str))=false:=by decide) (hg:Gl X "isinstance":=by rfl)
  (he:starEach [a,.Name x px] X.env=(false,eval a X.env) :: starEach [.Name x px] X.env:=by rfl) (he2:starEach [.Name x px] X.env=(false,eval (.Name x px) X.env) :: starEach [] X.env:=by rfl) (hpl:(backTo pos (starEach [.Name x px] X.env)).any (·.1)=false:=by rfl):QE X (.Call (.Name "isinstance" p2) [a,.Name x px] [] pos) (mV x te):=by
 obtain ⟨C,m,i⟩:=A.ex
 exact Y9 B i (aj9 hgx m rfl hdx) ha hg he he2 hpl
theorem aR5 (B:Bt X.mg) (A:xU X.K X.mg) (ha:QE X a te) (hgx:Gl X "ValueError":=by rfl) (hg:Gl X "isinstance":=by rfl)
  (he:starEach [a,.Name "ValueError" px] X.env=(false,eval a X.env) :: starEach [.Name "ValueError" px] X.env:=by rfl) (he2:starEach [.Name "ValueError" px] X.env=(false,eval (.Name "ValueError" px) X.env) :: starEach [] X.env:=by rfl) (hpl:(backTo pos (starEach [.Name "ValueError" px] X.env)).any (·.1)=false:=by rfl):QE X (.Call (.Name "isinstance" p2) [a,.Name "ValueError" px] [] pos) (mV "ValueError" te):=
 Y9 B A.is (yQ (v:=.ty "ValueError") hgx A.mg PyProof.Rows.Boot.«ValueError» rfl (by decide) (by decide)) ha hg he he2 hpl
end
structure kE (K:PySem.W.Frag) (C:Addr):Prop where
 cls:PySem.W.isClsIn K C=true
 ty:PySem.W.typeIn K (.ref C)=some (.type "type")
 ga:PySem.W.findIn K (.ref C) "__getattribute__" = some (some (.builtin "BaseException.__getattribute__"))
 gt:PySem.W.findIn K (.ref C) "__getattr__" = some none
 fc:PySem.W.findIn K (.ref C) "__class__" = some (some (.builtin "object.__class__"))
 fg:PySem.W.specialIn K (.builtin "object.__class__") "__get__" = some (some (.builtin "getset_descriptor.__get__"))
 ft:PySem.W.takesIn K (.builtin "object.__class__")=some true
 ob:PySem.W.mroIn K C (.type "object")=some true
 be:PySem.W.mroIn K C (.type "BaseException")=some true
theorem kE.exc {K:PySem.W.Frag}{C:Addr} (h:kE K C):iQ K C:=⟨h.cls,h.ga,h.gt,h.fc,h.fg,h.ft,h.ob,h.be⟩
theorem xV {K:PySem.W.Frag}{h₀:Heap}{mg:Str->Option Value}{x:Str}{C:Addr}{bmB:List Value}{newId:String} (X:K.In h₀) (m:mg x=some (.ref C)) (q:PySem.W.excIn K C bmB newId=true):OwnCls x C bmB newId mg h₀:=by
 refine⟨m,?_⟩
 unfold PySem.W.excIn at q
 split at q
 case h_2=>cases q
 rename_i dd cd sl ho
 split at q
 case h_2=>cases q
 rename_i C' bm k0 k1 k2 k3 n k5 hm hs
 simp only [bl7,beq_iff_eq,Bool.not_eq_true'] at q
 obtain ⟨⟨⟨⟨⟨rfl,rfl⟩,dl⟩,ht⟩,hok⟩,hni⟩:=q
 obtain ⟨nm,bs,mro,ns,qn,hd,sn,sub,ab,col,del⟩:=cd
 dsimp only at hm dl hok hni
 subst hm dl
 obtain rfl:sl = #[k0,k1,k2,k3,some (.builtin n),k5]:=by
  obtain ⟨l⟩:=sl
  exact congrArg Array.mk hs
 exact⟨bm,ns,nm,qn,bs,hd,sn,sub,ab,col,dd,k0,k1,k2,k3,k5,_,X _ _ ho,.of_isNs (PySem.W.isNs_of_in X hok),PySem.W.nsMap_none_of_in X hok hni,PySem.W.tail_of_in X ht⟩
theorem sM {n m:Str}{b:Bool} (h:lP n m=some b):n ∈ mU/\b=(n == m || m == "HearthError" || m == "ValueError"):=by
 unfold lP at h
 split at h
 ·rename_i z
  exact⟨by simpa using z,by cases h; rfl⟩
 ·cases h
theorem sN {K:PySem.W.Frag}{C D:Addr}{b:Bool} (hd:kE K D) (ne:(C == D)=false) (s:PySem.W.subIn K (.ref C) (.ref D)=some b):PySem.W.kitOne K (.ref C) (.ref D)=some b:=by
 have ne':(Value.ref C == Value.ref D)=false:=by
  rw [beq_eq_false_iff_ne] at ne ⊢
  exact fun z=>ne (Value.ref.inj z)
 have c:=hd.cls
 unfold PySem.W.isClsIn at c
 unfold PySem.W.kitOne PySem.W.kitCls
 rw [if_neg (by rw [ne']; decide)]
 dsimp only
 rw [if_pos (by rw [c,hd.ty]; decide)]
 exact s
theorem Z1 {K:PySem.W.Frag}{C:Addr}:PySem.W.kitOne K (.ref C) (.ref C)=some true:=by
 unfold PySem.W.kitOne
 rw [if_pos (bo8 _)]
theorem xW {K:PySem.W.Frag}{C:Addr} (s:PySem.W.subIn K (.ref C) (.type "ValueError")=some true):PySem.W.kitOne K (.ref C) (.type "ValueError")=some true:=by
 unfold PySem.W.kitOne PySem.W.kitCls
 rw [if_neg (fun z=>by cases beq_iff_eq.mp z)]
 dsimp only
 rw [if_pos (by decide +kernel)]
 exact s
theorem Z2 {K:PySem.W.Frag}{D:Addr} (hd:kE K D) (s:PySem.W.subIn K (.type "NoneType") (.ref D)=some false):PySem.W.kitOne K (.type "NoneType") (.ref D)=some false:=by
 have c:=hd.cls
 unfold PySem.W.isClsIn at c
 unfold PySem.W.kitOne PySem.W.kitCls
 rw [if_neg (fun z=>by cases beq_iff_eq.mp z)]
 dsimp only
 rw [if_pos (by rw [c,hd.ty]; decide)]
 exact s
theorem aR6 {K:PySem.W.Frag}:PySem.W.kitOne K (.type "NoneType") (.type "ValueError")=some false:=by
 have e:(if PySem.W.kitMeta "ValueError" = true then (fastBuiltinMro "NoneType").map (·.contains (Value.type "ValueError")) else none)=some false:=by decide +kernel
 unfold PySem.W.kitOne
 rw [if_neg (by decide)]
 exact e
theorem bD.of {P:Program}{w:World}{K:PySem.W.Frag}{mg:Str->Option Value}{base:Heap}{k:Nat}{x:Str}{ps N:List Str}{p:cR}{st:Stmt}{f:Addr}{fd:FuncData} (F:e9 K x x st f fd) (m:mg x=some (.ref f)) (S:FnScope N ps (aQ st))
  (hb:∀ (kV doc pm:Value) (an:Option Addr) (cdv ct:Value) (us:List Value),us.length=ps.length->bindArgs (PySem.W.fnOf x x (j8 st) (e8 st) (aQ st) .none kV doc pm an cdv ct) ⟨us,[]⟩=pure (ps.zip us))
  (t:(Str->Prop)->aL) (len:∀ Ep xs Q,p Ep xs Q->xs.length=ps.length) (rd:∀ Ep xs Q,p Ep xs Q->t Ep { nx:=fun _=>Q .non,rt:=Q } (fD N xs))
  (body:∀ (cdv:Value) (A:Around) (outer:List Env) (s:Shared) (H:Hp) (E:XK) (Ep:Str->Prop),bZ k (A.deeper (envOfC x (aQ st) s.heap.objs.size f cdv))->mM (cZ (dQ P w) P w K mg base N x (aQ st) f cdv A outer s H E) (EX K H Ep)->
   eC (cZ (dQ P w) P w K mg base N x (aQ st) f cdv A outer s H E) (e8 st) (t Ep)):bD P w K mg base (k+1) x ps p:=by
 refine⟨f,fd,F.okX S (fun vs H Q E h=>?_) (fun cdv A outer s H vs Q E hr h=>?_),F.binds hb,F.kp,m⟩
 ·obtain ⟨xs,Qp,Ep,r,q,_⟩:=h
  rw [r.length]; exact len Ep xs Qp q
 ·obtain ⟨xs,Qp,Ep,r,q,k,ke⟩:=h
  have ht:=body cdv A outer s H E Ep hr (aG9 fun c d H' z=>?_)
  ·refine⟨_,ht,fun _=>False,fD N xs,_,wG r,rd Ep xs Qp q,?_,?_,?_,?_⟩
   ·exact fun W' σ' H' ρ' e px q=>k _ _ _ px.same .non q
   ·exact fun v H' x s r q=>k _ _ _ s r q
   ·exact fun W' σ' H' ρ' e px q=>q
   ·exact fun W' σ' H' ρ' e px q=>q
  ·obtain ⟨rfl,s1,n,C,rfl,z1,z2⟩:=z
   exact ke n C H' s1 z1 z2
end PP
namespace Core
open PySem L2 PP
abbrev iE (t:(Str->Prop)->aL) (N:List Str) (p:cR):Prop:=∀ Ep xs Q,p Ep xs Q->t Ep { nx:=fun _=>Q .non,rt:=Q } (fD N xs)
def iW:cR:=fun Ep xs Q=>∃ ws ls x ns,xs = [bC ws ls,x]/\cM x ns/\ns.length<=1000/\(aP ws.length ns=true->Q (.tup (intz ns)))/\(aP ws.length ns=false->Ep "BadSet")
def Z3 (Ep:Str->Prop):aL:=(aJ (bK (eM (aU (aC mO (a6 (a5 0) (a6 (a5 1) a9))))) (lO Ep "BadSet" (a6 (qC (.str "a set is of rising hearths of the web")) a9)) cC)
 (bF (aC gK (a6 (a5 1) a9))))
theorem aR7:iE Z3 ["web","hearths"] iW:=by
 rintro Ep xs Q ⟨ws,ls,x,ns,rfl,hx,hl,q1,q2⟩
 refine⟨_,rfl,_,rfl,ws,ls,x,ns,rfl,hx,hl,_,rfl,?_⟩
 cases h:aP ws.length ns with
 | true=>exact aW ⟨_,rfl,⟨_,_,rfl,hx.seqT,cW _,trivial,q1 h⟩,hx.noscr⟩
 | false=>exact aZ ⟨by decide,q2 h⟩
end Core
namespace PP
open PySem L2
theorem mW {us:List Value} (h:us.length=1):∃ a,us = [a]:=List.length_eq_one_iff.mp h
theorem xX {us:List Value} (h:us.length=2):∃ a b,us = [a,b]:=by
 cases us with
 | nil=>cases h
 | cons a r=>
  obtain ⟨b,rfl⟩:=mW (us:=r) (by simpa using h)
  exact⟨a,b,rfl⟩
theorem xY {us:List Value} (h:us.length=3):∃ a b c,us = [a,b,c]:=by
 cases us with
 | nil=>cases h
 | cons a r=>
  obtain ⟨b,c,rfl⟩:=xX (us:=r) (by simpa using h)
  exact⟨a,b,c,rfl⟩
theorem Z4 {us:List Value} (h:us.length=4):∃ a b c d,us = [a,b,c,d]:=by
 cases us with
 | nil=>cases h
 | cons a r=>
  obtain ⟨b,c,d,rfl⟩:=xY (us:=r) (by simpa using h)
  exact⟨a,b,c,d,rfl⟩
end PP
namespace Core
open PySem L2 PP
def NN (zs:List Int):Prop:=∀ z ∈ zs,(0:Int)<=z
theorem NN.app {zs:List Int}{z:Int} (h:NN zs) (hz:0<=z):NN (zs ++ [z]):=fun y hy=>by
 rcases bk0.mp hy with hy | hy
 ·exact h y hy
 ·rw [bh8.mp hy]; exact hz
theorem NN.set {zs:List Int}{z:Int} (h:NN zs) (hz:0<=z) (j:Nat):NN (zs.set j z):=fun y hy=>by
 rcases List.mem_or_eq_of_mem_set hy with hy | rfl
 ·exact h y hy
 ·exact hz
def pG (i:Nat) (S:List Int):Prop:=S.Pairwise (· < ·)/\∀ x ∈ S,0<=x/\x < (i:Int)
theorem pG.set {i:Nat}{S:List Int} (h:pG i S):aP i S=true:=by
 unfold aP
 rw [wX h.1,Bool.true_and,bo9]
 intro b hb
 obtain ⟨x,hx,rfl⟩:=bn2.mp hb
 have:=h.2 x hx
 unfold inB
 simp only [id,bl7,bi5]
 exact this
theorem aR8 (S:List Int):∀ ns:List Int,(((ns.filter fun x=>!decide (x ∈ S)).length:Nat):Int)=gQ ns S:=by
 intro ns
 unfold gQ
 induction ns with
 | nil=>rfl
 | cons x r ih=>
  by_cases h:x ∈ S
  ·simp only [bv1,h,decide_true,Bool.not_true,bj4,bo4,if_true,bk2]
   omega
  ·simp only [bv1,h,decide_false,Bool.not_false,bj4,bo4,if_true,bk2]
   omega
end Core
namespace PP
open PySem L2
section
variable {X : Cx} {a b e : Expr} {ta tb : aD} {tr : cE} {D : bP} {σ : St} {H : Hp} {pos p2 p3 p4 : Pos}
def sO (i:Nat) (ta tb:aD):aL:=fun D ρ=>∃ xs,ρ[i]? = some (some (.own (.lst xs)))/\ta ρ fun x _=>∃ k:Nat,x = .int k/\k<=xs.length/\xs.length < 16000000/\tb ρ fun y g=>Nw g y/\D.nx (ρ.set i (some (.own (.lst (xs.take k ++ y :: xs.drop k)))))
end
section
variable {X : Cx} {e : Expr} {tr : cE} {pos p2 : Pos}
def sP:List PV->(PV->Prop)->Prop:=fun xs Q=>∃ ys:List (List Int),xs = [.lst (ys.map fun r=>PV.tup (intz r))]/\ys.length<=4096/\(∀ y ∈ ys,y.length=2)/\∀ zs:List (List Int),zs.Perm ys->zs.Pairwise (fun u v=>HT.gZ v u=false)->Q (.lst (zs.map fun r=>PV.tup (intz r)))
theorem aR9:gI X sP (R8 X.K):=by
 rintro H vs xs Q Q' r ⟨ys,rfl,hl,hne,q⟩ k
 obtain ⟨v,rfl,r1⟩:=r.one
 obtain ⟨a,us,rfl,_,h,r2⟩:=r1.sqL
 obtain ⟨h1,h2⟩:=U7 r2
 have lr:=r2.length
 rw [bh4] at lr
 refine⟨a,us,lN H,rfl,aH.of h,by omega,fun y hy=>?_,fun l zs hl' pm so=>?_⟩
 ·obtain ⟨b,rfl,hb⟩:=h2 y hy
  refine⟨b,rfl,aF.of hb,hne _ ?_⟩
  rw [<- h1]; exact bn2.mpr ⟨_,hy,rfl⟩
 ·have hz:∀ u ∈ zs,∃ b,u = .ref b/\H b=some (.tup ((lN H u).map V.int)):=fun u hu=>h2 u (pm.mem_iff.mp hu)
  refine k _ _ _ (bB hl' _) (.lst hl' bE ((U8 hz).same (bB hl' _) fun _ z=>z)) (q _ ?_ ?_)
  ·rw [<- h1]; exact pm.map _
  ·rw [bu1]; exact so
theorem aS0 (B:Bt X.mg) (ha:QA X [e] tr) (hg:Gl X "sorted":=by rfl) (he:starEach [e] X.env=(false,eval e X.env) :: starEach [] X.env:=by rfl) (hpl:(backTo pos (starEach [] X.env)).any (·.1)=false:=by rfl):QE X (.Call (.Name "sorted" p2) [e] [] pos) (aC sP tr):=
 lD aG6 aR9 hg B.sorted PyProof.Rows.boot_sorted ha (he:=he) (hpl:=hpl)
end
end PP
namespace Core
open PySem L2 PP
structure WL (n:Int) (ws:List Int) (ls:List (Int × Int)):Prop where
 many:(ws.length:Int)=n
 inn:∀ l ∈ ls,0<=l.1/\l.1 < l.2/\l.2 < n
 most:ls.length<=1700
 ord:ls.Pairwise xA
 pos:∀ w ∈ ws,0<=w
theorem WL.perm {n:Int}{ws:List Int}{ls ls':List (Int × Int)} (h1:(ws.length:Int)=n) (h2:∀ l ∈ ls,0<=l.1/\l.1 < l.2/\l.2 < n) (h3:ls.length<=1700) (nd:ls.Nodup) (h4:∀ w ∈ ws,0<=w) (p:ls'.Perm ls) (so:(ls'.map two).Pairwise fun u v=>HT.gZ v u=false):WL n ws ls':=
 ⟨h1,fun l hl=>h2 l (p.mem_iff.mp hl),by rw [p.length_eq]; exact h3,aK2 so (p.nodup_iff.mpr nd),h4⟩
theorem WL.wb {n:Int}{ws:List Int}{ls:List (Int × Int)} (h:WL n ws ls) (hn:n<=40):Wb ws ls:=
 ⟨by have:=h.many; omega,h.most,fun l hl=>by have:=h.inn l hl; have:=h.many; omega⟩
def sQ:cR:=fun Ep xs Q=>∃ ws ls x S,xs = [bC ws ls,x]/\Wb ws ls/\cM x S/\S.length<=1000/\(aP ws.length S=true->Q (.bl (decide (stay ws ls S=S))))/\(aP ws.length S=false->Ep "BadSet")
def Z5 (Ep:Str->Prop):aL:=(aJ (b6 2 (eV Ep iW (a6 (a5 0) (a6 (a5 1) a9))))
 (bF (q2 (jF 2 false) (aC sJ (a6 (a5 0) (a6 (aC lM (a6 (a5 0) a9)) (a6 (a5 2) a9)))) (a5 2))))
theorem aS1:iE Z5 ["web","block","chosen"] sQ:=by
 rintro Ep xs Q ⟨ws,ls,x,S,rfl,wb,hx,hl,q,qe⟩
 refine⟨_,rfl,_,rfl,ws,ls,x,S,rfl,hx,hl,fun hs=>⟨trivial,?_⟩,qe⟩
 have q:=q hs
 refine⟨_,rfl,_,rfl,ws,ls,rfl,wb,_,rfl,ws,ls,_,S,rfl,wb,.inl rfl,hs,_,rfl,.inl ⟨_,_,rfl,rfl⟩,vX 2 _ _,trivial,?_⟩
 show Q (.bl (bQ 3 (.tup (intz (stay ws ls S))) (.tup (intz S))))
 rw [vV]; exact q
def pH (f:List Int->List (Int × Int)->List Int->(PV->Prop)->Prop):cR:=fun Ep xs Q=>∃ ws ls x ns,xs = [bC ws ls,x]/\Wb ws ls/\cM x ns/\ns.length<=1000/\(aP ws.length ns=true->f ws ls ns Q)/\(aP ws.length ns=false->Ep "BadSet")
def sR:cR:=pH fun ws ls ns Q=>∀ m,bP ws ls ns m->Q (.lst (tups (ns :: after ws ls ns m)))
def sS:cR:=pH fun ws ls ns Q=>∀ m,bP ws ls ns m->Q (.dK (jQ (ns :: after ws ls ns m)))
def mX:cR:=pH fun ws ls ns Q=>∀ ms m,bP ws ls ns m->ms.Perm (aS ws ls ns m)->ms.Pairwise (· <= ·)->Q (.tup (intz ms))
def kF:cR:=pH fun ws ls ns Q=>∀ m,bP ws ls ns m->Q (.bl (decide (((aS ws ls ns m).length:Int)=(ws.length:Int))))
def sT:cR:=pH fun ws ls ns Q=>∀ m,bP ws ls ns m->Q (.tup (intz (dR ws.length (aS ws ls ns m))))
def Z6 (Ep:Str->Prop):aL:=(aJ (i7 2 (eN (a6 (eV Ep iW (a6 (a5 0) (a6 (a5 1) a9))) a9)))
 (aJ (i7 3 (aC iD (a6 (bI (a5 2) (qC (.int 0))) a9)))
 (aJ (b6 4 (aC lM (a6 (a5 0) a9)))
 (aJ (b6 5 (aC p9 (a6 (a5 0) (a6 (a5 4) (a6 (a5 3) a9)))))
 (aJ (qV (kY (a5 5))
  (aJ (mB 2 (a5 5))
  (aJ (vT 3 (aC iD (a6 (a5 5) a9)))
  (b6 5 (aC p9 (a6 (a5 0) (a6 (a5 4) (a6 (a5 3) a9))))))))
 (iM 2))))))
theorem aS2:iE Z6 ["web","seeds","told","burning","around","lit"] sR:=by
 rintro Ep xs Q ⟨ws,ls,x,ns,rfl,wb,hx,hl,q,qe⟩
 have few:=wb.few
 refine⟨_,rfl,_,rfl,ws,ls,x,ns,rfl,hx,hl,fun hs=>?_,qe⟩
 have q:=q hs
 have ln:=fI hs
 refine⟨by show 1<=1000; decide,?_,rfl,?_,?_⟩
 ·show (flat (.tup (intz ns)) && true)=true
  rw [lK]; rfl
 ·show (flat (.tup (intz ns)) && true)=true
  rw [lK]; rfl
 refine⟨_,rfl,_,_,_,rfl,rfl,rfl,_,ns,rfl,.inl rfl,by omega,fun ps d=>⟨rfl,d.fl,?_⟩⟩
 refine⟨_,rfl,ws,ls,rfl,wb,trivial,?_⟩
 refine⟨_,rfl,_,rfl,_,rfl,ws,ls,ps,ns,rfl,wb,d,trivial,?_⟩
 refine⟨fun n ρ=>∃ k ps,ρ = [some (.sh (flat (bC ws ls)) (bC ws ls)),some (.sh (flat x) x),some (.own (.lst (tups (ns :: after ws ls ns k)))),some (.own (.dK ps)),some (.sh true (.lst (gP ws.length ls))),some (.sh true (.tup (intz (nextOf ws ls (aS ws ls ns k)))))]/\
   n=cold ws (aS ws ls ns k)/\DS ps (aS ws ls ns k)/\∀ j < k,nextOf ws ls (aS ws ls ns j) ≠ [],⟨_,0,ps,rfl,rfl,d,fun _ z=>absurd z (Nat.not_lt_zero _)⟩,?_⟩
 rintro n ρ ⟨k,ps,rfl,rfl,d,ne⟩
 refine⟨_,rfl,_,rfl,?_⟩
 cases hn:nextOf ws ls (aS ws ls ns k) with
 | nil=>exact aW ⟨_,rfl,trivial,q k ⟨ne,hn⟩⟩
 | cons y yr=>
  refine aZ ?_
  rw [<- hn]
  have cs:=x3 ws ls (aS ws ls ns k)
  have nl:1<=(nextOf ws ls (aS ws ls ns k)).length:=by rw [hn]; exact Nat.succ_le_succ (bl6 _)
  have nle:=aI2 ws ls (aS ws ls ns k)
  have sl:=sB (ls:=ls) hs k
  have dl:=d.len
  have ke:=S4 k ne
  refine⟨_,rfl,_,rfl,trivial,?_,?_⟩
  ·rw [mQ,bk2]
   unfold after
   rw [bh4,bu0]; omega
  refine⟨_,rfl,_,rfl,_,_,rfl,.inl rfl,by omega,fun mp dm=>⟨mp,rfl,.inl rfl,?_,?_⟩⟩
  ·have:=dm.len; omega
  have D7:DS (i8 ps mp) (aS ws ls ns (k+1)):=d.merge dm
  refine⟨_,rfl,_,rfl,_,rfl,ws,ls,_,_,rfl,wb,D7,trivial,?_⟩
  refine⟨_,?_,k+1,i8 ps mp,?_,rfl,D7,fun j hj=>?_⟩
  ·show cold ws (aS ws ls ns k ++ nextOf ws ls (aS ws ls ns k)) < _
   omega
  ·rw [S3,<- List.cons_append]
   unfold tups
   rw [bl4]; rfl
  ·by_cases e:j=k
   ·rw [e,hn]; exact fun z=>nomatch z
   ·exact ne j (by omega)
def Z7 (Ep:Str->Prop):aL:=(aJ (i7 2 (qC (.dK [])))
 (aJ (dW (xL (eV Ep sR (a6 (a5 0) (a6 (a5 1) a9)))) (oE 3 4)
  (dW (dM (a5 4)) (cA 5)
   (r6 2 (a5 5) (a5 3))))
 (iM 2)))
theorem aS3:iE Z7 ["web","seeds","ranks","rank","lit","hearth"] sS:=by
 rintro Ep xs Q ⟨ws,ls,x,ns,rfl,wb,hx,hl,q,qe⟩
 have few:=wb.few
 refine⟨rfl,rfl,_,rfl,_,rfl,ws,ls,x,ns,rfl,wb,hx,hl,fun hs m en=>⟨_,.inl rfl,fun z=>(by cases z),?_⟩,qe⟩
 have q:=q hs
 have fl:=x5 ws ls ns m
 have sl:=sB (ls:=ls) hs m
 have nd:=xN (ls:=ls) hs m
 generalize hrs:ns :: after ws ls ns m=rs at fl
 rw [<- fl] at sl nd
 refine⟨fun i ρ=>∃ y z u,ρ = [some (.sh (flat (bC ws ls)) (bC ws ls)),some (.sh (flat x) x),some (.own (.dK (jQ (rs.take i)))),y,z,u],⟨none,none,none,rfl⟩,?_,?_⟩
 ·rintro i y ρ hy ⟨y0,z0,u0,rfl⟩
  obtain ⟨y,hy2,rfl⟩:=aM9 hy
  obtain ⟨r,rfl,hr⟩:=aJ2 hy2
  have tk:rs.take (i+1)=rs.take i ++ [r]:=by rw [bp1,hr]; rfl
  have il:(rs.take i).length=i:=by
   have:=(bh7.mp hr).1
   rw [bn9]; omega
  have nd2:((rs.take i).flatten ++ r).Nodup/\((rs.take i).flatten ++ r).length<=rs.flatten.length:=by
   have e:rs.flatten=((rs.take i).flatten ++ r) ++ (rs.drop (i+1)).flatten:=by
    rw [<- List.flatten_singleton (l:=r),<- List.flatten_append,<- tk,<- List.flatten_append,bl2]
   rw [e] at nd ⊢
   exact⟨(bu2.mp nd).1,by rw [bi3 (as:=(rs.take i).flatten ++ r)]; omega⟩
  refine⟨_,_,rfl,_,rfl,_,rfl,fun z=>(by cases z),fun j ρ=>∃ u,ρ = [some (.sh (flat (bC ws ls)) (bC ws ls)),some (.sh (flat x) x),some (.own (.dK (jQ (rs.take i) ++ gS i (r.take j)))),some (.sh true (.int (i:Int))),some (.sh true (.tup (intz r))),u],⟨u0,?_⟩,?_,?_⟩
  ·rw [show gS i (r.take 0) = [] from rfl,bk1]
   rfl
  ·rintro j y ρ hy ⟨u1,rfl⟩
   obtain ⟨n,rfl,hn⟩:=fH hy
   have ke:(jQ (rs.take i) ++ gS i (r.take j)).map (·.1)=((rs.take i).flatten ++ r.take j).map (Sum.inl:Int->aE):=by
    rw [bl4,bl4,Y0,X8]
   have nn:n ∉ (rs.take i).flatten ++ r.take j:=by
    have:=nd2.1
    rw [<- bl2 j r,bs4 (bh7.mp hn).1,(bh7.mp hn).2,<- bj5] at this
    exact fun z=>(bu2.mp this).2.2 n z n bi4 rfl
   have le:(jQ (rs.take i) ++ gS i (r.take j)).length<=40:=by
    have e1:=congrArg List.length ke
    have e2:=nd2.2
    rw [bh4,bh4,bi3,bi3,bn9] at e1
    rw [bi3] at e2
    rw [bi3]
    omega
   refine⟨_,rfl,_,rfl,_,rfl,Sum.inl n,rfl,trivial,by omega,si n,?_⟩
   rw [aP8 ke nn,aP9 hn,bj5]
   rfl
  ·rintro ρ ⟨u,rfl⟩
   refine⟨some (.sh true (.int i)),some (.sh true (.tup (intz r))),u,?_⟩
   rw [aX,bk7,tk,aP7,il]
 ·rintro ρ ⟨y,z,u,rfl⟩
  rw [xK,mQ,bk7,<- hrs]
  exact⟨_,rfl,trivial,q m en⟩
def Z8 (Ep:Str->Prop):aL:=(bF (aC gK (a6 (aC xP (a6 (eV Ep sS (a6 (a5 0) (a6 (a5 1) a9))) a9)) a9)))
theorem aS4:iE Z8 ["web","seeds"] mX:=by
 rintro Ep xs Q ⟨ws,ls,x,ns,rfl,wb,hx,hl,q,qe⟩
 have few:=wb.few
 refine⟨_,rfl,_,rfl,ws,ls,x,ns,rfl,wb,hx,hl,fun hs m en=>?_,qe⟩
 have sl:=sB (ls:=ls) hs m
 refine⟨_,aS ws ls ns m,rfl,?_,by omega,fun ms hp ho=>⟨⟨_,_,rfl,rfl,cW _,trivial,q hs ms m en hp ho⟩,fun ns z=>by cases z⟩⟩
 rw [Y0,x5]
def Z9 (Ep:Str->Prop):aL:=(bF (dB (aC bT (a6 (eV Ep mX (a6 (a5 0) (a6 (a5 1) a9))) a9)) (aC iR (a6 (a5 0) a9))))
theorem aS5:iE Z9 ["web","seeds"] kF:=by
 rintro Ep xs Q ⟨ws,ls,x,ns,rfl,wb,hx,hl,q,qe⟩
 refine⟨_,rfl,_,rfl,ws,ls,x,ns,rfl,wb,hx,hl,fun hs ms m en hp ho=>⟨_,_,rfl,rfl,_,rfl,ws,ls,rfl,.inl ⟨_,_,rfl,rfl,trivial,?_⟩⟩,qe⟩
 rw [aX,hp.length_eq]
 exact q hs m en
def sV:bH:=fun xs Q=>∃ ws ls y ms,xs = [bC ws ls,y]/\cM y ms/\ms.length<=1000/\ws.length<=1000/\Q (.tup (intz (dR ws.length ms)))
def aa0:aL:=(bF (aC kD (a6 (U0 (aC iR (a6 (a5 0) a9))) (a6 (a5 1) a9))))
theorem aS6:cG aa0 ["web","some"] sV:=by
 rintro xs Q ⟨ws,ls,y,ms,rfl,hy,hm,hw,q⟩
 refine⟨_,rfl,ws,ls,rfl,_,rfl,by omega,by omega,?_⟩
 rw [V1]
 refine⟨_,rfl,_,rng ws.length,y,ms,rfl,.inr rfl,hy,by rw [iC]; omega,hm,trivial,q⟩
theorem aS7 {n:Nat}{S T:List Int} (h:∀ x,x ∈ S ↔ x ∈ T):dR n S=dR n T:=by
 unfold dR
 congr 1
 funext x
 by_cases z:x ∈ S
 ·rw [bh3 z,bh3 ((h x).mp z)]
 ·rw [bh2 z,bh2 (fun y=>z ((h x).mpr y))]
def aa1 (Ep:Str->Prop):aL:=(bF (aC sV (a6 (a5 0) (a6 (eV Ep mX (a6 (a5 0) (a6 (a5 1) a9))) a9))))
theorem aS8:iE aa1 ["web","seeds"] sT:=by
 rintro Ep xs Q ⟨ws,ls,x,ns,rfl,wb,hx,hl,q,qe⟩
 have few:=wb.few
 refine⟨_,rfl,_,rfl,_,rfl,ws,ls,x,ns,rfl,wb,hx,hl,fun hs ms m en hp ho=>?_,qe⟩
 have sl:=sB (ls:=ls) hs m
 refine⟨ws,ls,_,ms,rfl,.inl rfl,by rw [hp.length_eq]; omega,by omega,trivial,?_⟩
 rw [aS7 fun x=>hp.mem_iff]
 exact q hs m en
theorem aS9 (ws:List Int) (S:List Int):(dR ws.length S).length=cold ws S:=rfl
section
variable {ws : List Int} {ls : List (Int × Int)} {S : List Int}
def mY (ws:List Int) (ls:List (Int × Int)) (S:List Int):List Int:=dF ws ls S S.length
theorem aa2 (ws:List Int) (ls:List (Int × Int)) (S:List Int):∀ k,stay ws ls (dF ws ls S k)=dF ws ls S k ∨ (dF ws ls S k).length+k<=S.length
 | 0=>.inr (bh0 _)
 | k+1=>by
  rcases aa2 ws ls S k with h | h
  ·left
   show stay ws ls (stay ws ls (dF ws ls S k))=stay ws ls (dF ws ls S k)
   rw [h,h]
  ·by_cases e:stay ws ls (dF ws ls S k)=dF ws ls S k
   ·left
    show stay ws ls (stay ws ls (dF ws ls S k))=stay ws ls (dF ws ls S k)
    rw [e,e]
   ·right
    have:=aO3 e
    show (stay ws ls (dF ws ls S k)).length+(k+1)<=S.length
    unfold stay at this ⊢
    omega
theorem aT0 (ws:List Int) (ls:List (Int × Int)) (S:List Int):stay ws ls (mY ws ls S)=mY ws ls S:=by
 rcases aa2 ws ls S S.length with h | h
 ·exact h
 ·have e:dF ws ls S S.length = []:=bt6 (by omega)
  unfold mY; rw [e]; rfl
theorem aT1 (ws:List Int) (ls:List (Int × Int)) (S:List Int):pD ws ls S (mY ws ls S):=aO6 (aT0 ws ls S)
theorem aa3 (hs:aP ws.length S=true):aP ws.length (mY ws ls S)=true:=X2 hs _
end
theorem aa4 (n:Nat):∀ (a b:List (List Int)),((((tups a).zip (tups b)).all fun p=>bQ (n+1) p.1 p.2) && (tups a).length == (tups b).length)=decide (a=b)
 | [],[]=>rfl
 | [],_ :: _=>by simp [tups]
 | _ :: _,[]=>by simp [tups]
 | x :: a,y :: b=>by
  have ih:=aa4 n a b
  have e:∀ (z:List Int) (c:List (List Int)),tups (z :: c)=PV.tup (intz z) :: tups c:=fun _ _=>rfl
  rw [e,e]
  simp only [bv5,br7,bk2,vV] at ih ⊢
  by_cases h:x=y
  ·subst h
   have:((tups a).length+1 == (tups b).length+1)=((tups a).length == (tups b).length):=by simp
   rw [this,bh3 rfl,Bool.true_and,ih]
   simp
  ·rw [bh2 h,Bool.false_and,Bool.false_and]
   simp [h]
theorem aa5 (n:Nat) (a b:List (List Int)):bQ (n+2) (.lst (tups a)) (.lst (tups b))=decide (a=b):=aa4 n a b
theorem xZ (n:Nat):∀ (a b:List (List Int)),dA (n+2) (.lst (tups a)) (.lst (tups b))=true
 | [],_=>by unfold dA tups; simp
 | _ :: _,[]=>by unfold dA tups; simp
 | x :: a,y :: b=>by
  have ih:=xZ n a b
  show (((PV.tup (intz x) :: tups a).zip (PV.tup (intz y) :: tups b)).all fun p=>dA (n+1) p.1 p.2)=true
  rw [bv5,br7,vX,Bool.true_and]
  exact ih
theorem aa6 (n:Nat) (a:Int):(List.replicate n [PV.int a]).flatten=intz (List.replicate n a):=by
 induction n with
 | zero=>rfl
 | succ n ih=>rw [bq0,bq0,bq7,ih]; rfl
section
variable {ws : List Int} {ls : List (Int × Int)}
def cne (ws:List Int) (ls:List (Int × Int)) (S:List Int):Bool:=!decide (S = []) && decide (stay ws ls S=S)
end
theorem yA {b:Bool}{A B:Prop} (a:A) (c:B):if b=true then A else B:=by
 cases b with
 | true=>exact aZ a
 | false=>exact aW c
end Core
namespace PP
open PySem L2
section
variable {X : Cx} {a b : Expr} {ta tb : aD} {pos : Pos}
theorem aT2 {K:PySem.W.Frag}{M M':Addr->Prop}{H:Hp}{v:V}{m n:List Int} (r1:aG K M H v (.tup (intz m))) (r2:aG K M' H v (.tup (intz n))):m=n:=by
 obtain ⟨p,us,rfl,h1,q1⟩:=r1.sqT
 obtain ⟨p2,ws,e,h2,q2⟩:=r2.sqT
 cases e
 rw [h1] at h2
 cases h2
 have:=(q1.ofInts).symm.trans q2.ofInts
 exact (List.map_inj_right fun _ _ e=>by cases e; rfl).mp this
end
end PP
namespace Core
open PySem L2 PP
def far (ns S:List Int):Bool:=decide (((S.filter fun x=>decide (x ∈ ns)).length:Int)=0)
theorem aT3 {ws:List Int}{ls:List (Int × Int)}{S:List Int}{k:Nat} (hS:aP ws.length S=true):decide (((aS ws ls S k).length:Int)=(ws.length:Int))=decide (dR ws.length (aS ws ls S k) = []):=by
 have len:(aS ws ls S k).length+(dR ws.length (aS ws ls S k)).length<=ws.length:=by
  have h1:=rW ws ls S k
  have h2:=x4 (fG (cQ hS).1) (cQ hS).2
  rw [aS9]; omega
 rw [bl1,bi5,bi5]
 refine⟨fun z=>bt6 (by omega),fun z=>?_⟩
 have all:∀ x ∈ rng ws.length,x ∈ aS ws ls S k:=fun x hx=>Decidable.byContradiction fun y=>by
  have:=gR.mpr ⟨hx,y⟩
  rw [z] at this; cases this
 have:=(xE ws.length).length_le_of_subset all
 rw [iC] at this
 omega
end Core
namespace PP
open PySem L2
section
variable {X : Cx} {σ : St} {H : Hp} {D : bP} {te : aD} {e : Expr} {pos : Pos}
def sW (i:Nat) (tk:aD):aL:=fun D ρ=>∃ xs,ρ[i]? = some (some (.own (.lst xs)))/\tk ρ fun n _=>∃ m:Nat,n = .int m/\xs.length<=16000000/\m < xs.length/\D.nx (ρ.set i (some (.own (.lst (xs.eraseIdx m)))))
theorem aT4 {i:Nat}{tk:aD} (h:LS X (sW i tk) D σ H):pP (uQ X.K "list" C0 (gU i) (iJ (LE X tk) jT)) D σ H:=by
 obtain ⟨W,ρ,D',px,⟨xs,hi,q⟩,k⟩:=h
 obtain ⟨v,ev,a,rfl,wa,us,ea,r⟩:=px.sl i _ hi
 refine⟨_,ev,m6 (aH.of ea),W,ρ,_,px,q,?_⟩
 rintro w H1 n g s rn ⟨m,rfl,hl,hm,q⟩
 cases rn
 have ea1:=s _ _ ea
 have r1:=r.same (M':=Ms X.H₀ W true) s fun _ z=>z
 have lr:=r.length
 have lm:m < us.length:=by omega
 refine⟨a,us,m,m,us[m],rfl,rfl,ea1,by omega,by omega,ay9 lm,bg8 lm,?_⟩
 exact k.nx W _ _ _ ((Ev.same s).trans (Ev.upd wa)) ((px.mono s).updL hi ev wa ((r1.eraseIdx m).keep (.upd ea1 rfl fun b m=>⟨iL wa m,m⟩))) q
theorem aT5 (i:Nat) {x:Str}{apos cpos xpos:Pos} (ha:QE X e te) (hN:X.N[i]? = some x:=by rfl) (hv:fZ X.env.scope x:=by first | exact Or.inl rfl | exact Or.inr (Or.inl rfl) | exact Or.inr (Or.inr rfl)) (hd:(x == ("__debug__" : Str))=false:=by decide) (hcd:(x == ("__classdict__" : Str))=false:=by decide)
  (hbase:attributeBase (.Name x xpos) "pop" X.env (eval (.Name x xpos) X.env)=eval (.Name x xpos) X.env:=by rfl)
  (hfew:((backTo cpos (starEach [e] X.env)).all (fun x=>!x.1) && (backToKw cpos (keywordEach [] X.env)).all (fun x=>x.1.isSome) && decide (([e]:List Expr).length+([]:List Keyword).length+(if ([]:List Keyword).isEmpty then 0 else 1) < 30))=true:=by rfl)
  (hline:(apos.endLine == cpos.line)=true:=by rfl) (hs:starEach [e] X.env=(false,eval e X.env) :: starEach [] X.env:=by rfl) (hplain:(backTo cpos (starEach [] X.env)).any (·.1)=false:=by rfl)
  (hsw:swapsWith (.Call (.Attribute (.Name x xpos) "pop" apos) [e] [] cpos) none pos.line X.env=pure false:=by rfl) :
  QS X (.Expr (.Call (.Attribute (.Name x xpos) "pop" apos) [e] [] cpos) pos) (sW i te):=
 eD (kL (lY br4 PySem.F.slot_list_pop PySem.F.type_list_pop ar0 (iI hN hv hd hcd) (cD ha cT hs) hbase hfew hline hs hplain) hsw) fun _ _ _=>aT4
end
end PP
namespace Core
open PySem L2 PP
def aa7 (ws:List Int) (ls:List (Int × Int)):List Int->List Int->Bool
 | _,[]=>true
 | B,h :: R=>inB ws.length h && (kin ws ls B h && aa7 ws ls (B ++ [h]) R)
def sp6:aL:=(bK (aU (oH (a5 7) (qC (.int 5)))) (sO 4 (a5 6) (bI (eN (a6 (l0 (qC (.int 1))) (a6 (a5 2) (a6 (l9 (l0 (qC (.int 1))) (a5 5)) (a6 (dN (a5 2) (a5 5)) a9))))) (bU (fP (a5 3) (qC (.int 97))) (qC (.int 4))))) cC)
def sp5:aL:=(bK (kW (aU (dB (a5 7) (qC (.int 5)))) (aU (oH (a5 2) (qC (.int 0))))) (sO 4 (a5 6) (bU (fP (a5 3) (qC (.int 97))) (a5 2))) sp6)
def sp4:aL:=(bK (kW (aU (dB (a5 7) (qC (.int 4)))) (aU (oH (aC bT (a6 (a5 1) a9)) (qC (.int 0))))) (sO 4 (a5 6) (bI (a5 1) (bU (fP (a5 3) (qC (.int 97))) (aC bT (a6 (a5 1) a9))))) sp5)
def sp3:aL:=(bK (kW (aU (dB (a5 7) (qC (.int 3)))) (aU (oH (aC bT (a6 (a5 4) a9)) (qC (.int 0))))) (sO 4 (a5 6) (bI (a5 4) (bU (fP (a5 3) (qC (.int 97))) (aC bT (a6 (a5 4) a9))))) sp4)
def yB:aL:=(bK (kW (aU (dB (a5 7) (qC (.int 2)))) (aU (oH (aC bT (a6 (a5 4) a9)) (qC (.int 0))))) (sW 4 (bU (a5 6) (aC bT (a6 (a5 4) a9)))) sp3)
end Core
namespace Raw
open PySem PySem.W PySem.Calls PyProof.Rows
theorem yC {xs:List Nat} (a:xs.Pairwise (· < ·)) {i k:Nat} (hk:k < xs.length) (h:i<=k):xs.getD i 0<=xs.getD k 0:=by
 rcases bl9 i k with z | z
 ·have:=bm5.mp a i k (by omega) hk z
  rw [bi7,bi7,bg8 (by omega),bg8 hk]
  exact bm2 this
 ·rw [Nat.le_antisymm h z]; exact bh0 _
theorem aT6 {xs:Array Nat}{i j:Nat} (h:i < xs.size):xs.getD i j=xs.toList.getD i 0:=by
 rw [bi7,bo5,Array.getD_eq_getD_getElem?,Array.getElem?_eq_getElem h]; rfl
theorem yD {xs:Array Nat}{j:Nat} (a:xs.toList.Pairwise (· < ·)):∀ (fuel lo hi:Nat),lo<=hi->hi<=xs.size->hi - lo<=fuel->(∀ i,i < lo->xs.toList.getD i 0 < j)->(∀ i,hi<=i->i < xs.size->j<=xs.toList.getD i 0)->
  SetTable.below.go xs j fuel lo hi<=xs.size/\(∀ i,i < SetTable.below.go xs j fuel lo hi->xs.toList.getD i 0 < j)/\∀ i,SetTable.below.go xs j fuel lo hi<=i->i < xs.size->j<=xs.toList.getD i 0
 | 0,lo,hi,h1,h2,h3,h4,h5=>by
  have e:lo=hi:=by omega
  subst e
  exact⟨h2,h4,h5⟩
 | fuel+1,lo,hi,h1,h2,h3,h4,h5=>by
  have sz:xs.toList.length=xs.size:=bl8
  unfold SetTable.below.go
  by_cases lt:lo < hi
  ·rw [if_pos lt]
   dsimp only
   have m1:lo<=(lo+hi) / 2:=by omega
   have m2:(lo+hi) / 2 < hi:=by omega
   rw [aT6 (by omega)]
   by_cases c:xs.toList.getD ((lo+hi) / 2) 0 < j
   ·rw [if_pos c]
    exact yD a fuel _ _ (by omega) h2 (by omega) (fun i hi'=>Nat.lt_of_le_of_lt (yC a (by omega) (by omega)) c) h5
   ·rw [if_neg c]
    exact yD a fuel _ _ (by omega) (by omega) (by omega) h4 fun i h6 h7=>bk3 (bv0 c) (yC a (by omega) h6)
  ·rw [if_neg lt]
   have e:lo=hi:=by omega
   subst e
   exact⟨h2,h4,h5⟩
theorem aT7 {xs:Array Nat}{j:Nat} (a:xs.toList.Pairwise (· < ·)):SetTable.below xs j<=xs.size/\(∀ i,i < SetTable.below xs j->xs.toList.getD i 0 < j)/\∀ i,SetTable.below xs j<=i->i < xs.size->j<=xs.toList.getD i 0:=
 yD a xs.size 0 xs.size (bl6 _) (bh0 _) (by omega) (fun i h=>absurd h (Nat.not_lt_zero _)) fun i h1 h2=>absurd h2 (by omega)
theorem aT8 {α:Type} (xs:Array α) (p:Nat) (x:α):(SetTable.insertAt xs p x).toList=xs.toList.take p ++ x :: xs.toList.drop p:=by
 unfold SetTable.insertAt
 simp
 exact bm0 (by simp)
theorem aT9 {xs:Array Nat}{j:Nat} (a:xs.toList.Pairwise (· < ·)) (ne:xs[SetTable.below xs j]? ≠ some j):(SetTable.insertAt xs (SetTable.below xs j) j).toList.Pairwise (· < ·):=by
 obtain ⟨b1,b2,b3⟩:=aT7 (j:=j) a
 have sz:xs.toList.length=xs.size:=bl8
 rw [aT8]
 refine bm1.mpr ⟨a.sublist (List.take_sublist _ _),List.pairwise_cons.mpr ⟨fun x hx=>?_,a.sublist (List.drop_sublist _ _)⟩,fun x hx y hy=>?_⟩
 ·obtain ⟨i,hi,e⟩:=bq6 hx
  rw [bp8] at hi
  rw [List.getElem_drop] at e
  have h1:=b3 (SetTable.below xs j) (bh0 _) (by omega)
  have h2:=yC a (i:=SetTable.below xs j) (k:=SetTable.below xs j+i) (by omega) (by omega)
  have h3:xs.toList.getD (SetTable.below xs j+i) 0=x:=by rw [bi7,bg8 (by omega),e]; rfl
  rcases bl9 j x with z | z
  ·exact z
  ·exfalso
   have h4:xs.toList.getD (SetTable.below xs j) 0=j:=by omega
   rw [bi7,bg8 (by omega)] at h4
   refine ne ?_
   rw [<- bo5,bg8 (by omega)]
   exact congrArg some h4
 ·have hx':x < j:=by
   obtain ⟨i,hi,e⟩:=bq6 hx
   rw [bn9] at hi
   rw [List.getElem_take] at e
   have:=b2 i (by omega)
   rw [bi7,bg8 (by omega),e] at this
   exact this
  rcases bh1.mp hy with e | hy
  ·rw [e]; exact hx'
  ·obtain ⟨i,hi,e⟩:=bq6 hy
   rw [bp8] at hi
   rw [List.getElem_drop] at e
   have:=b3 (SetTable.below xs j+i) (by omega) (by omega)
   rw [bi7,bg8 (by omega),e] at this
   exact bi2 hx' this
structure iF (b:Bool) (t:SetTable):Prop where
 asc:t.place.toList.Pairwise (· < ·)
 dm:t.dummies = #[]
 led:t.led=b
theorem aa8 (j:Nat):SetTable.has #[] j=false:=by
 unfold SetTable.has
 simp
theorem aa9 {t:SetTable} (dm:t.dummies = #[]) {h:Int}{j:Nat}{d:Option Nat}:∀ (fuel:Nat) (p:SetTable.Probe),p.dummy=none->SetTable.probe.go t (fun _=>h+1) h fuel p=some (.empty j d)->d=none/\t.slot j = .empty
 | 0,p,_,e=>by cases e
 | fuel+1,p,hp,e=>by
  unfold SetTable.probe.go at e
  have adv:∀ p:SetTable.Probe,p.dummy=none->(t.advance p).dummy=none:=fun p hp=>by
   unfold SetTable.advance
   split <;> exact hp
  cases hs:t.slot p.j with
  | empty=>
   rw [hs] at e
   cases e
   exact⟨hp,hs⟩
  | dummy=>
   exfalso
   unfold SetTable.slot at hs
   dsimp only at hs
   rw [dm,aa8] at hs
   split at hs <;> cases hs
  | live i=>
   rw [hs] at e
   dsimp only at e
   rw [if_neg (by simp; omega)] at e
   exact aa9 dm fuel _ (adv p hp) e
theorem aU0 {t:SetTable} (dm:t.dummies = #[]) {h:Int}{sl:Nat}{d:Bool} (e:t.freeSlot h=some (sl,d)):t.slot sl = .empty:=by
 unfold SetTable.freeSlot at e
 split at e
 ·rename_i j dummy hm
  obtain ⟨e1,e2⟩:=aa9 dm _ _ rfl hm
  subst e1
  cases e
  exact e2
 ·cases e
theorem sX {b:Bool}{t:SetTable} (h:iF b t) (n:Nat):iF b (t.standIn n):=⟨by
 show (Array.range n).toList.Pairwise (· < ·)
 rw [Array.toList_range]; exact List.pairwise_lt_range,rfl,h.led⟩
theorem aU1 {b:Bool}{t:SetTable} (h:iF b t) {j:Nat} (hs:t.slot j = .empty):iF b (t.put j).1:=by
 refine⟨?_,?_,h.led⟩
 ·refine aT9 h.asc fun e=>?_
  unfold SetTable.slot at hs
  dsimp only at hs
  rw [if_pos (by rw [e]; exact bo8 _)] at hs
  cases hs
 ·show (if SetTable.has t.dummies j then SetTable.eraseAt t.dummies (SetTable.below t.dummies j) else t.dummies) = #[]
  rw [h.dm,aa8]; rfl
theorem aU2 {b:Bool}{t:SetTable} (h:iF b t) (es:Array (Int × Value)) (k:Int) (x:Value):iF b (layNew t es k x).2.1:=by
 unfold layNew
 split
 ·rename_i sl wd e
  have p:=aU1 h (aU0 h.dm e)
  show iF b (SetTable.orStandIn _ _)
  unfold SetTable.orStandIn
  split
  ·exact p
  ·exact sX p _
 ·exact sX h _
theorem aU3 {b:Bool}{t:SetTable} (h:iF b t) (es:Array (Int × Value)) (n:Nat):iF b (relayAll t es n).2.1:=by
 unfold relayAll
 split
 ·rename_i t' order e
  dsimp only
  split
  ·show iF b t'
   unfold SetTable.relaid SetTable.laid at e
   cases hc:SetTable.layClean (SetTable.sizeAbove n - 1) (es.map (·.1)) with
   | none=>rw [hc] at e; cases e
   | some owner=>
    rw [hc] at e
    cases e
    refine⟨?_,rfl,h.led⟩
    show (List.map _ _).Pairwise (· < ·)
    refine bu1.mpr (List.Pairwise.filterMap _ (R:=(· < ·)) ?_ List.pairwise_lt_range)
    intro i i' hlt x hx y hy
    cases ho:owner.getD i none with
    | none=>rw [ho] at hx; cases hx
    | some v=>
     rw [ho] at hx
     cases ho2:owner.getD i' none with
     | none=>rw [ho2] at hy; cases hy
     | some v2=>
      rw [ho2] at hy
      cases hx; cases hy
      exact hlt
  ·exact sX h _
 ·exact sX h _
theorem ab0 {us vs:List Value} (p:us.Perm vs):∀ {ns:List Int},IntsAre vs ns->∃ ms,IntsAre us ms/\ms.Perm ns:=by
 induction p with
 | nil=>intro ns h; exact⟨ns,h,List.Perm.refl _⟩
 | cons x _ ih=>
  intro ns h
  cases h with
  | cons n t r=>
   obtain ⟨ms,h1,h2⟩:=ih r
   exact⟨n :: ms,.cons n t h1,h2.cons n⟩
 | swap x y l=>
  intro ns h
  cases h with
  | cons n t r=>
   cases r with
   | cons n' t' r=>
    exact⟨n' :: n :: _,.cons n' t' (.cons n t r),List.Perm.swap _ _ _⟩
 | trans _ _ ih1 ih2=>
  intro ns h
  obtain ⟨ms,h1,h2⟩:=ih2 h
  obtain ⟨ms',h3,h4⟩:=ih1 h1
  exact⟨ms',h3,h4.trans h2⟩
theorem ab1:∀ {us:List Value}{ns:List Int},IntsAre us ns->∀ (k:Int) (t:Nat),IntsAre (us ++ [.int k t]) (ns ++ [k])
 | _,_,.nil,k,t=>.cons k t .nil
 | _,_,.cons n u r,k,t=>.cons n u (ab1 r k t)
theorem sY:∀ {us:List Value}{ns:List Int},IntsAre us ns->∀ k:Int,k ∈ ns ↔ ∃ t,Value.int k t ∈ us
 | _,_,.nil,k=>⟨(fun h=>nomatch h),(fun ⟨_,h⟩=>nomatch h)⟩
 | _,_,.cons n u r,k=>by
  constructor
  ·intro h
   rcases bh1.mp h with e | h
   ·exact⟨u,by rw [e]; exact bi4⟩
   ·obtain ⟨t,ht⟩:=(sY r k).mp h
    exact⟨t,bi9 _ ht⟩
  ·rintro ⟨t,h⟩
   rcases bh1.mp h with e | h
   ·cases e; exact bi4
   ·exact bi9 _ ((sY r k).mpr ⟨t,h⟩)
abbrev pI (es:Array (Int × Value)) (ep:Nat) (t:SetTable):Obj:={ cls:=.type "set",dict:=none,data:=.set es ep t,slots:=#[] }
section
variable {prog : Program} {w : World} {A : Around} {E : Value → Shared → Prop} {s : Shared}
def aU4 (prog:Program) (w:World) (es:Array (Int × Value)) (t:SetTable) (ms:List Int):Prop:=ElemsOf (intKind prog w) es.toList/\IntsAre (es.toList.map (·.2)) ms/\es.size < scanBound/\t.fits es.size=true/\iF (!w.params.followText "set-order") t
def ab2 (prog:Program) (w:World) (h:Heap) (a:Addr) (ms:List Int):Prop:=∃ es ep t,h.get? a=some (pI es ep t)/\aU4 prog w es t ms
theorem ab3 {h:Heap}{a:Addr}{es es':Array (Int × Value)}{ep:Nat}{t t':SetTable} (ho:h.get? a=some (pI es ep t)):(h.update a (Obj.putSet es' t')).get? a=some (pI es' (ep+1) t'):=by
 have:=Heap.get?_update_self (Obj.putSet es' t') ho (by rw [putSet_of es' t' (rfl:(pI es ep t).data=_)]; rfl)
 rw [putSet_of es' t' (rfl:(pI es ep t).data=_)] at this
 exact this
theorem add_int {a:Addr}{ms:List Int}{k:Int}{u:Nat}{Q:Bool->Shared->Prop} (hS:ab2 prog w s.heap a ms) (room:ms.length+1 < scanBound)
  (h:∀ b h' ms',Heap.SameBut a s.heap h'->ab2 prog w h' a ms'->(k ∈ ms->ms'.Perm ms)->(k ∉ ms->ms'.Perm (ms ++ [k]))->Q b { s with heap:=h' }) :
  wpAny (model prog w) A (setAddHashed a (.int k u) ((intKind prog w).hash k)) Q E s:=by
 obtain ⟨es,ep,t,ho,hel,hi,hb,hf,tk⟩:=hS
 have key:(intKind prog w).is k (.int k u)=true:=intKind_is _ _ _ _
 have ln:ms.length=es.size:=by
  have:=IntsAre.length hi
  rw [bh4,bl8] at this
  exact this.symm
 have isk:∀ v,(intKind prog w).is k v=true->∃ u,v = .int k u:=fun v hv=>Value.isInt_shape hv
 unfold setAddHashed setAddHashedIn
 refine bp0 (bg5 (wpAny_setState_of ho rfl hf ?_))
 dsimp only
 rw [byScan_of (knd:=intKind prog w) (x:=.int k u) rfl hb hel,if_pos rfl]
 unfold setAddByScan
 refine bg5 (bg5 (bu6 ?_))
 refine bg5 (wpAny_setScan_of key ho rfl hf hel ?_)
 cases hr:List.findIdx? (fun e=>(intKind prog w).is k e.2) es.toList with
 | some j=>
  dsimp only
  obtain ⟨hj,hp,_⟩:=List.findIdx?_eq_some_iff_getElem.mp hr
  have km:k ∈ ms:=by
   obtain ⟨u',e⟩:=isk _ hp
   exact (sY hi k).mpr ⟨u',by rw [<- e]; exact bn2.mpr ⟨_,br5 hj,rfl⟩⟩
  have e:s={ s with heap:=s.heap }:=by cases s; rfl
  rw [e]
  exact bg9 (bg9 (h _ s.heap ms (Heap.SameBut.refl a s.heap) ⟨es,ep,t,ho,hel,hi,hb,hf,tk⟩ (fun _=>List.Perm.refl _) fun n=>absurd km n))
 | none=>
  dsimp only
  have km:k ∉ ms:=fun z=>by
   obtain ⟨u',hm⟩:=(sY hi k).mp z
   obtain ⟨e,he,e2⟩:=bn2.mp hm
   have:=List.findIdx?_eq_none_iff.mp hr e he
   rw [e2,intKind_is _ _ _ _] at this; cases this
  have lp:=layNew_perm t es ((intKind prog w).hash k) (.int k u)
  have lf:=layNew_fits t es ((intKind prog w).hash k) (.int k u)
  have lk:=aU2 tk es ((intKind prog w).hash k) (.int k u)
  generalize hL:layNew t es ((intKind prog w).hash k) (.int k u)=L at lp lf lk ⊢
  obtain ⟨es1,t1,wd,gave⟩:=L
  dsimp only at lp lf lk ⊢
  rw [Array.toList_push] at lp
  have el1:ElemsOf (intKind prog w) es1.toList:=(hel.push key rfl).perm lp
  have sz1:es1.size=es.size+1:=by rw [<- bl8,lp.length_eq,bi3,bl8]; rfl
  obtain ⟨ms1,i1,p1⟩:∃ ms1,IntsAre (es1.toList.map (·.2)) ms1/\ms1.Perm (ms ++ [k]):=ab0 (lp.map (·.2)) (by rw [bl4]; exact ab1 hi k u)
  have hb1:es1.size < scanBound:=by omega
  have gw:∀ (b:Bool) (s₁:Shared) (Q':Unit->Shared->Prop),Q' () s₁->wpAny (model prog w) A (match b with | true=>rule "set.scan.the-table-gave-way" | false=>pure ()) Q' E s₁:=fun b s₁ Q' hq=>by
   cases b
   ·exact bg9 hq
   ·exact bu6 hq
  refine bg5 (gw _ _ _ ?_)
  split <;> (
   show wpAny _ _ (storeSet a es1 t1 >>= _) _ _ _
   simp only [↓reduceIte]
   refine bg5 (wpAny_storeSet_of ho rfl ?_ (fits_of_scanBound hb1))
   have ho1:=ab3 (es':=es1) (t':=t1) ho
   have sb1:=bu8 s.heap a (Obj.putSet es1 t1)
   split
   ·have rp:=relayAll_perm t1 es1 (SetTable.grown es1.size)
    have rf:=relayAll_fits t1 es1 (SetTable.grown es1.size)
    have rk:=aU3 lk es1 (SetTable.grown es1.size)
    generalize relayAll t1 es1 (SetTable.grown es1.size)=L at rp rf rk ⊢
    obtain ⟨es2,t2,gave2⟩:=L
    dsimp only at rp rf rk ⊢
    have sz2:es2.size=es1.size:=by rw [<- bl8,rp.length_eq,bl8]
    obtain ⟨ms2,i2,p2⟩:=ab0 (rp.map (·.2)) i1
    refine bg5 (gw _ _ _ ?_)
    refine bg5 (wpAny_storeSet_of ho1 rfl ?_ (fits_of_scanBound (by omega)))
    exact bg9 (bg9 (h _ _ ms2 (sb1.trans (bu8 _ a _)) ⟨es2,_,t2,ab3 ho1,el1.perm rp,i2,by omega,rf,rk⟩ (fun z=>absurd z km) fun _=>p2.trans p1))
   ·exact bg9 (bg9 (h _ _ ms1 sb1 ⟨es1,_,t1,ho1,el1,i1,hb1,lf,lk⟩ (fun z=>absurd z km) fun _=>p1)))
end
section
variable {prog : Program} {w : World} {A : Around} {E : Value → Shared → Prop} {s : Shared} {r : Addr} {b : Int} {t u v : Tok} {n : Nat}
theorem aU5 {R:Result->Shared->Prop} (hh:A.handled=none) (hr:IsRange s.heap r 0 b 1 t u v) (sm:Builtin.Range.small 0 b 1=true) (hn:Builtin.Range.rangeSize 0 b 1=n) (hl:n<=2 ^ 24)
  (hR:∀ h' tk acc c,(∀ b o,b ≠ s.heap.objs.size->(s.heap.push { cls:=.type "list",data:=.seq ([]:List Value).toArray }).get? b=some o->h'.get? b=some o)->h'.get? s.heap.objs.size=some { cls:=.type "list",dict:=none,data:=.seq acc c,slots:=#[] }->ItemsOf (fun i v=>∃ t,v = .int (0+i * 1) t) acc n->R (.ok (.ret (.ref s.heap.objs.size))) { s with heap:=h',toks:=tk }) :
  codeAny (model prog w) A (.builtin "proto.collect" ⟨[.ref r],[]⟩) R s:=by
 refine bw1 PySem.F.entry_proto_collect ?_
 rw [Around.under_plainId PySem.F.plain_proto_collect _]
 show wpAny _ A.in1 (newList [] >>= fun l=>again (.builtin "list.__iadd__" ⟨[l,.ref r],[]⟩)) _ _ s
 refine bg5 (bn1 ?_)
 refine bg9 ⟨plainId_quiet PySem.F.plain_list_iadd _,bw1 PySem.F.entry_list_iadd ?_⟩
 rw [Around.under_plainId PySem.F.plain_list_iadd _]
 show wpAny _ A.in1 (Builtin.List.listExtendWith (.ref s.heap.objs.size) (.ref r) (.ref s.heap.objs.size)) _ _ _
 exact wpAny_extend_range (s:={ s with heap:=s.heap.push { cls:=.type "list",data:=.seq ([]:List Value).toArray } }) (R:=R) hh (bg6 _ hr) sm hn hl s.heap.objs.size _ 0 (bi0 _ rfl) hR
theorem aU6 {Q:List Value->Shared->Prop} (hh:A.handled=none) (hr:IsRange s.heap r 0 b 1 t u v) (sm:Builtin.Range.small 0 b 1=true) (hn:Builtin.Range.rangeSize 0 b 1=n) (hl:n<=2 ^ 24)
  (hQ:∀ h' tk acc,(∀ b o,s.heap.get? b=some o->h'.get? b=some o)->ItemsOf (fun i v=>∃ t,v = .int (0+i * 1) t) acc n->Q acc.toList { s with heap:=h',toks:=tk }):wpAny (model prog w) A (collect (.ref r)) Q E s:=by
 unfold collect
 refine bg5 (wpAny_runValue (aU5 (s:=s) hh hr sm hn hl fun h' tk acc c kp at1 it=>?_))
 show wpAny _ A (load s.heap.objs.size >>= _) _ _ _
 refine bg5 (wpAny_load at1 ?_)
 exact bg9 (hQ h' tk acc (fun b o e=>kp b o (bk4 (bi1 e)) (bg6 _ e)) it)
theorem aU7 (r:Addr) (b:Int) (t u v:Tok) (n:Nat) (sm:Builtin.Range.small 0 b 1=true) (hn:Builtin.Range.rangeSize 0 b 1=n) (hl:n<=2 ^ 24) :
  Meets (Builtin.«tuple.__new__» ⟨[.type "tuple",.ref r],[]⟩) (fun A R s=>A.handled=none/\IsRange s.heap r 0 b 1 t u v/\∀ (h':Heap) tk (acc:Array Value),(∀ b o',s.heap.get? b=some o'->h'.get? b=some o')->ItemsOf (fun i v=>∃ t,v = .int (0+i * 1) t) acc n->R (.ok (.ret (.ref h'.objs.size))) { s with heap:=h'.push { cls:=.type "tuple",data:=.seq acc },toks:=tk }):=
 .of_wp fun prog w A R s h=>by
  obtain ⟨hp,g,d,tk,os⟩:=s
  obtain ⟨hh,ht,h⟩:=h
  have hsub:=sub_tuple_self
  have hinit:=init_tuple_lookup
  have hmh:=madeHere_tuple
  have hT:Shared.TypeIs ⟨hp,g,d,tk,os⟩ (.ref r) "range":=⟨_,ht,rfl⟩
  unfold Builtin.«tuple.__new__»
  generalize pi:collect=CC
  wp_walk using wpAny_loadPart' ht,wpAny_typeOf hT
  subst pi
  refine aU6 (s:=⟨hp,g,d,tk,os⟩) hh ht sm hn hl fun h' tk' acc kp it=>?_
  refine bg5 (bg9 ?_)
  show wpAny _ _ (Builtin.Tuple.tupleExact acc.toList.toArray >>= fun v=>ret v) _ _ _
  unfold Builtin.Tuple.tupleExact
  refine bg5 (bn1 ?_ (by show acc.toList.toArray.size<=sizeLine; rw [bg7,bl8,it.1,sizeLine_eq]; omega))
  refine bg9 ⟨_,rfl,?_⟩
  have e:acc.toList.toArray=acc:=by simp
  rw [e]
  exact h h' tk' acc kp it
theorem aU8 {Q:Value->Shared->Prop} (hh:A.handled=none) (hr:IsRange s.heap r 0 b 1 t u v) (sm:Builtin.Range.small 0 b 1=true) (hn:Builtin.Range.rangeSize 0 b 1=n) (hl:n<=2 ^ 24)
  (h:∀ (h':Heap) tk (acc:Array Value),(∀ b o',s.heap.get? b=some o'->h'.get? b=some o')->ItemsOf (fun i v=>∃ t,v = .int (0+i * 1) t) acc n->Q (.ref h'.objs.size) { s with heap:=h'.push { cls:=.type "tuple",data:=.seq acc },toks:=tk }) :
  wpAny (model prog w) A (call (.type "tuple") [.ref r]) Q E s:=
 callType_new F.called_tuple (by decide) (F.typeCall_tuple_1 _) (F.newCall_tuple_1 _) (fun obj=>F.args_object_init_2 obj _) F.entry_tuple_new (aU7 r b t u v n sm hn hl) ⟨by simp [hh],hr,fun h' tk acc hk it=>⟨⟨_,bi0 _ rfl,rfl⟩,h h' tk acc hk it⟩⟩
end
end Raw
namespace PP
open PySem L2
section
variable {X : Cx} {a b : Expr} {ta tb : aD} {pos pos2 p2 p3 : Pos}
theorem aU9 (hc:X.calm=true):cN X (.type "tuple") (fun xs H Q=>∃ r j,xs = [.ref r]/\H r=some (.rng 0 j)/\0<=j/\j<=1000000/\∀ l,H l=none->Q (.ref l) (upd H l (.tup (gF 0 j.toNat)))):=by
 intro pins s σ H xs us Q I r h
 obtain ⟨p,j,rfl,hq,h0,h1,q⟩:=h
 obtain ⟨u,rfl,rx⟩:=gX r
 cases rx
 obtain ⟨t,u,v,ho⟩:=(show bR X.prog X.w H s.heap p (.rng 0 j) from I.hok p _ hq)
 refine Raw.aU8 (b:=j) (n:=j.toNat) (I.ok.hd hc) ho (small_one (by decide) (by decide) (by omega) (by omega)) (by rw [rangeSize_one]; split <;> omega) (by omega) fun h' tk acc kp it=>?_
 have vv:=U5 it
 have eq:acc.toList.toArray=acc:=by simp
 have I1:a8 X pins σ H { s with heap:=h',toks:=tk }:=I.kept (t':=tk) kp
 have I2:a8 X pins σ (upd H h'.objs.size (.tup (gF 0 j.toNat))) { s with heap:=h'.push { cls:=.type "tuple",data:=.seq acc.toList.toArray },toks:=tk }:=
  I1.laid (t':=tk) (fun b o e=>bg6 _ e) (bh0 _) (show bR X.prog X.w _ _ _ (.tup _) from ⟨by rw [qK]; exact lim (by omega),acc.toList,vv,PyProof.Rows.IsTup.new _ _,gT.new _ _ rfl⟩)
 rw [eq] at I2
 exact⟨.ref h'.objs.size,_,I2,rfl,q _ (I1.hok.fresh (bh0 _))⟩
def ab4 (te:aD):aD:=fun ρ Q=>te ρ fun x _=>∃ n:Int,x = .int n/\0<=n/\n<=1000000/\Q (.tup (eQ 0 n.toNat)) .fr
theorem aV0 (B:Bt X.mg) (ha:QE X a ta) (hc:X.calm=true:=by rfl) (hg:Gl X "tuple":=by rfl) (hgr:Gl X "range":=by rfl) (hs:starEach [a] X.env = [(false,eval a X.env)]:=by rfl)
  (he:starEach [.Call (.Name "range" p3) [a] [] pos2] X.env=(false,eval (.Call (.Name "range" p3) [a] [] pos2) X.env) :: starEach [] X.env:=by rfl) (hpl:(backTo pos (starEach [] X.env)).any (·.1)=false:=by rfl) :
  QE X (.Call (.Name "tuple" p2) [.Call (.Name "range" p3) [a] [] pos2] [] pos) (ab4 ta):=
 cB (uJ (aU9 hc) hg B.tuple PyProof.Rows.boot_tuple (cD (U3 hgr B.range (cD ha cT hs) hs) cT he) (he:=he) (hpl:=hpl)) fun σ H Q' h=>by
  obtain ⟨W,ρ,Q,px,q,k⟩:=h
  refine⟨W,ρ,_,px,q,?_⟩
  rintro v H1 x g s r ⟨n,rfl,h0,h1,q⟩
  cases r
  refine⟨n,rfl,fun r hr=>⟨r,n,rfl,bE,h0,h1,fun l hl=>?_⟩⟩
  have S:aB H (upd (upd H1 r (.rng 0 n)) l (.tup (gF 0 n.toNat))):=(s.trans (bB hr _)).trans (bB hl _)
  exact k _ _ _ .fr S (.tup bE (U6 0 n.toNat)) q
end
end PP
namespace Core
open PySem L2 PP
section
variable {ws : List Int} {ls : List (Int × Int)} {A T : List Int} {m : Nat}
theorem aV1:∀ m,∀ y ∈ A,y ∈ aS ws ls A m:=fun m y hy=>by
 induction m with
 | zero=>exact hy
 | succ m ih=>exact bp3 _ ih
theorem aV2 (en:bP ws ls A m):fV ws ls (aS ws ls A m):=fun h hh=>by
 have:=List.filter_eq_nil_iff.mp (show (rng ws.length).filter (kin ws ls (aS ws ls A m)) = [] from en.2) h hh
 simpa using this
end
def pJ:bH:=fun xs Q=>∃ a k:Int,xs = [.int a,.int k]/\0<=k/\k<=1000/\∀ z,0<=z->Q (.int z)
def ab5:aL:=(aJ (b6 2 (bU (dN (dN (dN (bU (a5 0) (qC (.int 2147483647))) (oG (oG (qC (.int 69621)) (a5 1)) (a5 1))) (oG (qC (.int 40692)) (a5 1))) (qC (.int 1))) (qC (.int 2147483647))))
 (aJ (b6 2 (bU (oG (a5 2) (qC (.int 48271))) (qC (.int 2147483647))))
 (bF (bU (oG (a5 2) (a5 2)) (qC (.int 2147483647))))))
theorem aV3:cG ab5 ["number","k","turn"] pJ:=by
 rintro xs Q ⟨a,k,rfl,k0,k1,q⟩
 have big:(0:Int) < 2147483647:=by decide
 refine⟨_,rfl,_,_,rfl,rfl,big,_,rfl,_,_,rfl,rfl,.inl ⟨by decide,by decide⟩,_,rfl,_,_,rfl,rfl,.inr ⟨by show -(2 ^ 64) < k; omega,by show k < 2 ^ 64; omega⟩,_,_,rfl,rfl,_,rfl,_,_,rfl,rfl,.inl ⟨by decide,by decide⟩,_,_,rfl,rfl,_,_,rfl,rfl,_,_,rfl,rfl,big,trivial,?_⟩
 refine⟨_,rfl,_,_,rfl,rfl,.inr ⟨by decide,by decide⟩,_,_,rfl,rfl,big,trivial,?_⟩
 dsimp only
 have t0:0<=(a % 2147483647+69621 * k * k+40692 * k+1) % 2147483647 * 48271 % 2147483647:=bs1 _ (by decide)
 have t1:(a % 2147483647+69621 * k * k+40692 * k+1) % 2147483647 * 48271 % 2147483647 < 2147483647:=bv8 _ (by decide)
 generalize (a % 2147483647+69621 * k * k+40692 * k+1) % 2147483647 * 48271 % 2147483647=t at t0 t1
 exact⟨_,rfl,_,rfl,_,_,rfl,rfl,.inl ⟨by show -(2 ^ 64) < t; omega,by show t < 2 ^ 64; omega⟩,_,_,rfl,rfl,big,trivial,q _ (bs1 _ (by decide))⟩
def sZ:bH:=fun xs Q=>∃ (ns:List Int) (most:Int),xs = [.scr ns,.int most]/\0<=most/\∀ z,0<=z->z<=most->Q (.int z)
def ab6:aL:=(aJ (b6 2 (aC iU (a6 (a5 0) (a6 (qC (.int 0)) a9))))
 (aJ (bK (aU (dB (bU (a5 2) (qC (.int 3))) (qC (.int 0)))) (bF (aC qX (a6 (a5 1) (a6 (aC vN (a6 (qC (.int 0)) (a6 (l9 (aC bT (a6 (a5 0) a9)) (qC (.int 4))) a9))) a9)))) cC)
 (aJ (bK (aU (dB (bU (a5 2) (qC (.int 8))) (qC (.int 1)))) (bF (bU (dN (fP (a5 2) (qC (.int 24))) (qC (.int 5))) (dN (a5 1) (qC (.int 1))))) cC)
 (bF (bU (dN (fP (a5 2) (qC (.int 3))) (qC (.int 2))) (dN (aC qX (a6 (qC (.int 6)) (a6 (a5 1) a9))) (qC (.int 1))))))))
theorem aV4:cG ab6 ["script","most","number"] sZ:=by
 rintro xs Q ⟨ns,most,rfl,hm,q⟩
 refine⟨_,rfl,_,ns,0,rfl,.inl rfl,by decide,trivial,?_⟩
 generalize ns.getD (0:Int).toNat 0=c
 refine⟨_,rfl,_,_,rfl,rfl,(by show (0:Int) < 3; decide),.inl ⟨_,_,rfl,rfl,_,rfl,yA ?_ ?_⟩⟩
 ·refine⟨_,rfl,_,rfl,_,_,rfl,rfl,_,_,rfl,rfl,_,_,rfl,_,_,rfl,trivial,q _ ?_ ?_⟩ <;> split <;> split <;> omega
 refine⟨_,rfl,_,_,rfl,rfl,(by show (0:Int) < 8; decide),.inl ⟨_,_,rfl,rfl,_,rfl,yA ?_ ?_⟩⟩
 ·have hp:0 < most+1:=by omega
  refine⟨_,rfl,_,_,rfl,rfl,⟨by decide,by decide⟩,_,_,rfl,rfl,_,rfl,_,_,rfl,rfl,_,_,rfl,rfl,hp,trivial,q _ (bs1 _ (by omega)) ?_⟩
  have:=bv8 (c / 24+5) hp
  omega
 ·have hp:0 < (if most < 6 then most else 6)+1:=by split <;> omega
  refine⟨_,rfl,_,_,rfl,rfl,⟨by decide,by decide⟩,_,_,rfl,rfl,_,rfl,_,_,rfl,_,_,rfl,rfl,_,_,rfl,rfl,hp,trivial,q _ (bs1 _ (by omega)) ?_⟩
  have:=bv8 (c / 3+2) hp
  have hm:(if most < 6 then most else 6)<=most:=by split <;> omega
  omega
def ab7 (mx:Int):bH:=fun xs Q=>∃ (ns:List Int) (most:Int),xs = [.scr ns,.int most]/\ns.length<=63/\0<=most/\most<=mx/\∀ n ws ls,0<=n->n<=most->WL n ws ls->Q (bC ws ls)
def ab8 (R:List PV->(PV->Prop)->Prop):aL:=(aJ (b6 13 (dX (jD (a5 2)) [none,some 5,some 8] (cA 0) iO (bU (bI (a5 1) (a5 0)) (dN (bI (a5 2) (a5 0)) (qC (.int 2))))))
 (bF (cX (a6 (aC gK (a6 (a5 13) a9)) (a6 (aC gK (a6 (aC R (a6 (a5 7) a9)) a9)) a9)))))
def ab9:aL:=(aJ (b6 12 (a5 10))
   (aJ (b6 10 (fP (a5 10) (a5 3)))
   (aJ (bK (eM (aU (a5 4))) (b6 12 (aC pJ (a6 (bI (a5 5) (a5 9)) (a6 (dN (a5 11) (qC (.int 60))) a9)))) cC)
   (bK (aU (dB (bU (a5 12) (a5 3)) (qC (.int 1)))) (aJ (mB 7 (cX (a6 (a5 11) (a6 (a5 9) a9))))
    (aJ (gJ 8 (a5 11) (dN (bI (a5 8) (a5 11)) (qC (.int 1))))
    (gJ 8 (a5 9) (dN (bI (a5 8) (a5 9)) (qC (.int 1)))))) cC))))
def yE (R:List PV->(PV->Prop)->Prop):aL:=(aJ (dW (jD (a5 2)) (cA 9)
  (aJ (b6 10 (fP (bI (a5 5) (a5 9)) (qC (.int 64))))
  (dW (jD (a5 9)) (cA 11) ab9)))
 (ab8 R))
def ac0 (R:List PV->(PV->Prop)->Prop):aL:=(aJ (b6 2 (aC sZ (a6 (a5 0) (a6 (a5 1) a9))))
 (aJ (b6 3 (dN (qC (.int 2)) (bU (aC iU (a6 (a5 0) (a6 (qC (.int 1)) a9))) (qC (.int 4)))))
 (aJ (b6 4 (dB (bU (fP (aC iU (a6 (a5 0) (a6 (qC (.int 1)) a9))) (qC (.int 8))) (qC (.int 2))) (qC (.int 1))))
 (aJ (i7 5 (r9 (a5 0) (oF (qC (.int 4))) (oF (dN (qC (.int 4)) (a5 2)))))
 (aJ (dW (vP (aC bT (a6 (a5 5) a9)) (a5 2)) (cA 6)
  (mB 5 (aC pJ (a6 (aC iU (a6 (a5 0) (a6 (qC (.int 1)) a9))) (a6 (a5 6) a9)))))
 (aJ (i7 7 (eN a9))
 (aJ (i7 8 (W0 (eN (a6 (qC (.int 0)) a9)) (a5 2)))
 (yE R))))))))
structure LK (i j:Nat) (ls:List (Int × Int)):Prop where
 inn:∀ l ∈ ls,0<=l.1/\l.1 < l.2/\(l.2 < (i:Int) ∨ (l.2=(i:Int)/\l.1 < (j:Int)))
 nd:ls.Nodup
 few:ls.length<=40 * i+j
theorem LK.same {i j:Nat}{ls:List (Int × Int)} (h:LK i j ls):LK i (j+1) ls:=
 ⟨fun l hl=>by have:=h.inn l hl; omega,h.nd,by have:=h.few; omega⟩
theorem LK.app {i j:Nat}{ls:List (Int × Int)} (h:LK i j ls) (hj:j < i):LK i (j+1) (ls ++ [((j:Int),(i:Int))]):=by
 refine⟨fun l hl=>?_,bu2.mpr ⟨h.nd,bn5 _ _,fun a ha b hb e=>?_⟩,by rw [bi3,bm4]; have:=h.few; omega⟩
 ·rcases bk0.mp hl with z | z
  ·have:=h.inn l z; omega
  ·rw [bh8.mp z]; dsimp only; omega
 ·rw [bh8.mp hb] at e
  subst e
  have:=h.inn _ ha
  dsimp only at this
  omega
theorem LK.next {i:Nat}{ls:List (Int × Int)} (h:LK i i ls) (hi:i<=40):LK (i+1) 0 ls:=
 ⟨fun l hl=>by have:=h.inn l hl; omega,h.nd,by have:=h.few; omega⟩
theorem mZ {ws:List Int}{j:Nat} (h:j < ws.length):L2.atI (intz ws) (j:Int)=some (.int (ws.getD j 0)):=by
 have gw:ws[j]? = some (ws.getD j 0):=by rw [bi7,bg8 h]; rfl
 exact nN (by rw [bh9,gw]; rfl)
theorem yF {ws:List Int} (h:NN ws) (j:Nat):0<=ws.getD j 0:=by
 rw [bi7]
 cases hj:ws[j]? with
 | none=>exact bs0 0
 | some w=>exact h w (bj1 hj)
theorem G3 (ns:List Int) (lo hi:Option Int):∃ zs:List Int,fB (intz ns) lo hi=intz zs/\zs.length<=ns.length:=by
 refine⟨(ns.drop (HT.aT (intz ns).length 0 lo)).take (HT.aT (intz ns).length (intz ns).length hi - HT.aT (intz ns).length 0 lo),?_,?_⟩
 ·unfold fB intz; rw [List.map_take,List.map_drop]
 ·rw [bn9,bp8]; omega
def t5 (R:List PV->(PV->Prop)->Prop) (m:Nat):Prop:=∀ (ls:List (Int × Int)) (Q:PV->Prop),ls.length<=40 * m->(∀ ls':List (Int × Int),ls'.Perm ls->(ls'.map two).Pairwise (fun u v=>HT.gZ v u=false)->Q (.lst (fJ ls')))->(∀ l ∈ ls,0<=l.1/\l.1 < l.2/\l.2 < (m:Int))->ls.Nodup->R [.lst (fJ ls)] Q
theorem aV5 {m:Nat}{sp:Int}{dg:Bool}{cs cts:List Int}{lks:List (Int × Int)}{i j:Nat}{nb:Int}{s0 s1 y6 y12 y13:Option Slot}{D:bJ->Prop}{Q:PV->Prop}{ct bk:bJ->Prop} (yB:2<=sp/\sp<=5) (hc:m<=cs.length) (hi:i < m) (hj:j < i) (m40:m<=40) (lk:LK i j lks) (cl:cts.length=m) (nn:NN cts)
  (k:∀ (nb dr:Int) (lks':List (Int × Int)) (cts':List Int),LK i (j+1) lks'->cts'.length=m->NN cts'->D [s0,s1,si m,si sp,some (.sh true (.bl dg)),some (.own (.lst (intz cs))),y6,some (.own (.lst (fJ lks'))),some (.own (.lst (intz cts'))),si i,si nb,si j,si dr,y13]) :
  ab9 { nx:=D,rt:=Q,ct:=ct,bk:=bk } [s0,s1,si m,si sp,some (.sh true (.bl dg)),some (.own (.lst (intz cs))),y6,some (.own (.lst (fJ lks))),some (.own (.lst (intz cts))),si i,si nb,si j,y12,y13]:=by
 refine⟨_,rfl,trivial,?_⟩
 refine⟨_,rfl,_,rfl,_,_,rfl,rfl,⟨by omega,by omega⟩,trivial,?_⟩
 dsimp only
 generalize nb / sp=nb2
 have fin:∀ dr:Int,(bK (aU (dB (bU (a5 12) (a5 3)) (qC (.int 1)))) (aJ (mB 7 (cX (a6 (a5 11) (a6 (a5 9) a9))))
    (aJ (gJ 8 (a5 11) (dN (bI (a5 8) (a5 11)) (qC (.int 1))))
    (gJ 8 (a5 9) (dN (bI (a5 8) (a5 9)) (qC (.int 1)))))) cC) { nx:=D,rt:=Q,ct:=ct,bk:=bk } [s0,s1,si m,si sp,some (.sh true (.bl dg)),some (.own (.lst (intz cs))),y6,some (.own (.lst (fJ lks))),some (.own (.lst (intz cts))),si i,si nb2,si j,si dr,y13]:=fun dr=>by
  refine⟨_,rfl,_,rfl,_,_,rfl,rfl,by show 0 < sp; omega,.inl ⟨_,_,rfl,rfl,_,rfl,yA ?_ (k nb2 dr lks cts lk.same cl nn)⟩⟩
  have pl:(fJ lks).length=lks.length:=bh4 _
  have fw:=lk.few
  refine⟨_,rfl,_,rfl,_,rfl,by show 2<=1000; decide,rfl,trivial,by rw [pl]; omega,?_⟩
  have a1:=mZ (ws:=cts) (j:=j) (by omega)
  refine⟨_,rfl,_,rfl,_,_,_,rfl,rfl,a1,_,_,rfl,rfl,_,rfl,_,rfl,j,j,rfl,?_,trivial,?_⟩
  ·rw [aX]; unfold dC; rw [if_pos (by omega),if_pos (by omega)]; rfl
  have e1:(intz cts).set j (.int (cts.getD j 0+1))=intz (cts.set j (cts.getD j 0+1)):=(List.map_set ..).symm
  have n1:NN (cts.set j (cts.getD j 0+1)):=nn.set (by have:=yF nn j; omega) _
  dsimp only
  rw [e1]
  have l1:(cts.set j (cts.getD j 0+1)).length=m:=by rw [bk9]; exact cl
  generalize cts.set j (cts.getD j 0+1)=ct2 at n1 l1
  have a2:=mZ (ws:=ct2) (j:=i) (by omega)
  refine⟨_,rfl,_,rfl,_,_,_,rfl,rfl,a2,_,_,rfl,rfl,_,rfl,_,rfl,i,i,rfl,?_,trivial,?_⟩
  ·rw [aX]; unfold dC; rw [if_pos (by omega),if_pos (by omega)]; rfl
  have e2:(intz ct2).set i (.int (ct2.getD i 0+1))=intz (ct2.set i (ct2.getD i 0+1)):=(List.map_set ..).symm
  have n2:NN (ct2.set i (ct2.getD i 0+1)):=n1.set (by have:=yF n1 i; omega) _
  dsimp only
  rw [e2]
  have:=k nb2 dr (lks ++ [((j:Int),(i:Int))]) (ct2.set i (ct2.getD i 0+1)) (lk.app hj) (by rw [bk9]; exact l1) n2
  unfold fJ at this ⊢
  rw [bl4] at this
  exact this
 refine⟨_,rfl,_,rfl,?_⟩
 cases dg with
 | true=>exact aW (fin nb)
 | false=>
  have a0:=mZ (ws:=cs) (j:=i) (by omega)
  exact aZ ⟨_,rfl,_,rfl,_,_,_,rfl,rfl,a0,_,rfl,_,_,rfl,rfl,_,_,rfl,by omega,by omega,fun z _=>⟨trivial,fin z⟩⟩
theorem aV6 {R:List PV->(PV->Prop)->Prop}{m:Nat}{cs cts:List Int}{lks:List (Int × Int)}{s0 s1 y3 y4 y6 y9 y10 y11 y12:Option Slot}{Q:PV->Prop} (hR:t5 R m) (hc:m<=cs.length) (m40:m<=40) (lk:LK m 0 lks) (cl:cts.length=m) (nn:NN cts) (q:∀ ws ls,WL m ws ls->Q (bC ws ls)) :
  ab8 R { nx:=fun _=>Q .non,rt:=Q } [s0,s1,si m,y3,y4,some (.own (.lst (intz cs))),y6,some (.own (.lst (fJ lks))),some (.own (.lst (intz cts))),y9,y10,y11,y12,none]:=by
 refine⟨_,rfl,m,rfl,by omega,by omega,by rw [eR]; omega,fun i acc=>∃ zs:List Int,acc=intz zs/\zs.length=i/\NN zs,⟨[],rfl,rfl,fun z hz=>by cases hz⟩,?_,?_⟩
 ·rintro i y acc hy ⟨zs,rfl,zl,zn⟩
  obtain ⟨rfl,hi⟩:=kB hy
  have hi:i < m:=by omega
  refine jP ?_
  rw [Int.zero_add]
  have a1:=mZ (ws:=cs) (j:=i) (by omega)
  have a2:=mZ (ws:=cts) (j:=i) (by omega)
  have p1:=yF nn i
  refine⟨_,rfl,_,rfl,_,_,_,rfl,rfl,a1,_,rfl,_,rfl,_,_,_,rfl,rfl,a2,_,_,rfl,rfl,_,_,rfl,rfl,by show 0 < cts.getD i 0+2; omega,trivial,zs ++ [cs.getD i 0 % (cts.getD i 0+2)],by rw [gO]; rfl,by rw [bi3,zl]; rfl,zn.app (bs1 _ (by omega))⟩
 rintro acc ⟨ws,rfl,wl,wn⟩
 rw [eR,bl3] at wl
 refine⟨trivial,?_⟩
 have fp:∀ ls:List (Int × Int),flats (fJ ls)=true:=S5
 have inn:∀ l ∈ lks,0<=l.1/\l.1 < l.2/\l.2 < (m:Int):=fun l hl=>by have:=lk.inn l hl; omega
 refine⟨_,rfl,⟨_,_,rfl,rfl,cW _,?_⟩,(fun ns e=>by cases e)⟩
 refine⟨_,rfl,hR lks _ (by have:=lk.few; omega) (fun ls' pl so=>?_) inn lk.nd⟩
 refine⟨⟨_,_,rfl,rfl,fp _,by show 2<=1000; decide,?_,trivial,?_⟩,(fun ns e=>by cases e)⟩
 ·show (flats (intz ws) && (flats (fJ ls') && true))=true
  rw [cW,fp]; rfl
 ·exact q ws ls' (WL.perm (by omega) inn (by have:=lk.few; omega) lk.nd wn pl so)
theorem aV7 {R:List PV->(PV->Prop)->Prop}{m:Nat}{sp:Int}{dg:Bool}{cs cts:List Int}{s0 s1 y6:Option Slot}{Q:PV->Prop} (hR:t5 R m) (yB:2<=sp/\sp<=5) (hc:m<=cs.length) (m40:m<=40) (cl:cts.length=m) (nn:NN cts) (q:∀ ws ls,WL m ws ls->Q (bC ws ls)) :
  yE R { nx:=fun _=>Q .non,rt:=Q } [s0,s1,si m,si sp,some (.sh true (.bl dg)),some (.own (.lst (intz cs))),y6,some (.own (.lst [])),some (.own (.lst (intz cts))),none,none,none,none,none]:=by
 refine⟨_,rfl,m,rfl,by omega,by omega,fun i ρ=>∃ (lks:List (Int × Int)) (cts:List Int) (y9 y10 y11 y12:Option Slot),ρ = [s0,s1,si m,si sp,some (.sh true (.bl dg)),some (.own (.lst (intz cs))),y6,some (.own (.lst (fJ lks))),some (.own (.lst (intz cts))),y9,y10,y11,y12,none]/\LK i 0 lks/\cts.length=m/\NN cts,⟨[],cts,none,none,none,none,rfl,⟨(fun l hl=>by cases hl),bw4,bl6 _⟩,cl,nn⟩,?_,?_⟩
 ·rintro i y ρ hy ⟨lks,cts,y9,y10,y11,y12,rfl,lk,cl,nn⟩
  obtain ⟨rfl,hi⟩:=kB hy
  have hi:i < m:=by omega
  refine jP ?_
  rw [Int.zero_add]
  have a1:=mZ (ws:=cs) (j:=i) (by omega)
  refine⟨_,rfl,_,rfl,_,_,_,rfl,rfl,a1,_,_,rfl,rfl,⟨by decide,by decide⟩,trivial,?_⟩
  dsimp only
  generalize cs.getD i 0 / 64=nb
  refine⟨_,rfl,i,rfl,by omega,by omega,fun j ρ=>∃ (nb:Int) (lks:List (Int × Int)) (cts:List Int) (y11 y12:Option Slot),ρ = [s0,s1,si m,si sp,some (.sh true (.bl dg)),some (.own (.lst (intz cs))),y6,some (.own (.lst (fJ lks))),some (.own (.lst (intz cts))),si i,si nb,y11,y12,none]/\LK i j lks/\cts.length=m/\NN cts,⟨nb,lks,cts,y11,y12,rfl,lk,cl,nn⟩,?_,?_⟩
  ·rintro j y ρ hy ⟨nb,lks,cts,y11,y12,rfl,lk,cl,nn⟩
   obtain ⟨rfl,hj⟩:=kB hy
   have hj:j < i:=by omega
   refine jP ?_
   rw [Int.zero_add]
   exact aV5 yB hc hi hj m40 lk cl nn fun nb dr lks' cts' h1 h2 h3=>⟨nb,lks',cts',si j,si dr,rfl,h1,h2,h3⟩
  ·rintro ρ ⟨nb,lks,cts,y11,y12,rfl,lk,cl,nn⟩
   rw [eR,bl3] at lk
   exact⟨lks,cts,si i,si nb,y11,y12,rfl,lk.next (by omega),cl,nn⟩
 ·rintro ρ ⟨lks,cts,y9,y10,y11,y12,rfl,lk,cl,nn⟩
  rw [eR,bl3] at lk
  exact aV6 hR hc m40 lk cl nn q
theorem aV8 {R:List PV->(PV->Prop)->Prop}{mx:Int} (mx40:mx<=40) (hR:∀ m:Nat,(m:Int)<=mx->t5 R m):cG (ac0 R) ["script","most","many","sparse","digits","cells","k","links","counts","other","number","one","draw","wants"] (ab7 mx):=by
 rintro xs Q ⟨ns,most,rfl,hl,h0,h1,q⟩
 refine⟨_,rfl,_,rfl,ns,most,rfl,h0,fun z z0 z1=>⟨trivial,?_⟩⟩
 obtain ⟨m,rfl⟩:∃ m:Nat,z=m:=⟨z.toNat,by omega⟩
 refine⟨_,rfl,_,ns,1,rfl,.inl rfl,by decide,_,_,rfl,rfl,(by show (0:Int) < 4; decide),_,_,rfl,rfl,trivial,?_⟩
 dsimp only
 have s2:2<=2+ns.getD (1:Int).toNat 0 % 4/\2+ns.getD (1:Int).toNat 0 % 4<=5:=by
  have:=bs1 (ns.getD (1:Int).toNat 0) (show (4:Int) ≠ 0 by decide)
  have:=bv8 (ns.getD (1:Int).toNat 0) (show (0:Int) < 4 by decide)
  omega
 generalize 2+ns.getD (1:Int).toNat 0 % 4=sp at s2
 refine⟨_,rfl,_,ns,1,rfl,.inl rfl,by decide,_,_,rfl,rfl,⟨by decide,by decide⟩,_,_,rfl,rfl,(by show (0:Int) < 2; decide),.inl ⟨_,_,rfl,rfl,trivial,?_⟩⟩
 generalize (if false=true then !decide (ns.getD (1:Int).toNat 0 / 8 % 2=1) else decide (ns.getD (1:Int).toNat 0 / 8 % 2=1))=dg
 obtain ⟨zs,ez,zl⟩:=G3 ns (some 4) (some (4+(m:Int)))
 refine⟨_,rfl,_,rfl,_,rfl,_,_,rfl,rfl,_,rfl,_,rfl,cW _,rfl,?_,?_⟩
 ·show flats (fB (intz ns) (some 4) (some (4+(m:Int))))=true
  rw [ez]; exact cW _
 show (aJ _ _) _ [_,_,_,_,_,some (Slot.own (.lst (fB (intz ns) (some 4) (some (4+(m:Int)))))),_,_,_,_,_,_,_,_]
 rw [ez]
 refine⟨_,rfl,_,_,rfl,rfl,_,rfl,(zs.length:Int),(m:Int),by rw [aX],rfl,⟨by omega,by omega,by omega,by omega⟩,fun i ρ=>∃ (cs:List Int) (y6:Option Slot),ρ = [some (.sh (flat (.scr ns)) (.scr ns)),si most,si m,si sp,some (.sh true (.bl dg)),some (.own (.lst (intz cs))),y6,none,none,none,none,none,none,none]/\cs.length=zs.length+i,⟨zs,none,rfl,rfl⟩,?_,?_⟩
 ·rintro i y ρ hy ⟨cs,y6,rfl,cl⟩
  obtain ⟨rfl,hi⟩:=kB hy
  refine jP ?_
  refine⟨_,rfl,_,rfl,_,ns,1,rfl,.inl rfl,by decide,_,rfl,_,_,rfl,by omega,by omega,fun z _=>⟨trivial,by rw [aX]; omega,cs ++ [z],_,by rw [gO]; rfl,by rw [bi3,cl]; rfl⟩⟩
 rintro ρ ⟨cs,y6,rfl,cl⟩
 rw [eR] at cl
 have hc:m<=cs.length:=by omega
 refine⟨by decide,rfl,rfl,rfl,?_⟩
 refine⟨by show 1<=1000; decide,rfl,_,rfl,_,_,rfl,rfl,rfl,by omega,by omega,by show 1<=10; decide,rfl,?_,?_⟩
 ·show flats (List.replicate (m:Int).toNat [PV.int 0]).flatten=true
  rw [aa6]; exact cW _
 show yE R _ [_,_,_,_,_,_,_,_,some (Slot.own (.lst (List.replicate (m:Int).toNat [PV.int 0]).flatten)),_,_,_,_,_]
 rw [aa6,bl3]
 exact aV7 (hR m (by omega)) s2 hc (by omega) List.length_replicate (fun z hz=>by rw [List.eq_of_mem_replicate hz]; exact bs0 0) fun ws ls w=>q m ws ls z0 z1 w
theorem aV9 {m:Nat} (h:m<=40):t5 sP m:=fun ls Q hl q inn nd=>by
 refine⟨ls.map two,by rw [V2],by rw [bh4]; omega,fun y hy=>by obtain ⟨l,_,rfl⟩:=bn2.mp hy; rfl,fun Z pz so=>?_⟩
 obtain ⟨ls',rfl,pl⟩:=aK1 pz
 have:=q ls' pl so
 rw [V2] at this
 exact this
end Core
namespace PP
open PySem L2
section
variable {P : Program} {w : World} {K : PySem.W.Frag} {mg : Str → Option Value} {base : Heap} {k : Nat} {f : Addr} {fd : FuncData}
theorem aW0 (F:cI P w K mg base dD k f fd ["web"] sC) (b:gY K fd ["web"] []) (kp:PySem.W.keepIn K (.ref f)=true) (m:mg "_law_beside" = some (.ref f)):Df P w K mg base k "_law_beside" ["web"] Core.lM:=by
 refine⟨f,fd,F.imp fun vs H Q E h=>?_,b,kp,m⟩
 obtain ⟨xs,Qp,r,⟨ws,ls,rfl,wb,q⟩,k⟩:=h
 obtain ⟨v,rfl,r1⟩:=r.one
 have:=wb.few
 have:=wb.most
 refine⟨v,ws,ls,rfl,V0 r1,by omega,by omega,wb.links,fun t bs H' hb R=>k _ H' _ R.same (.lst R.new R.row ?_) q⟩
 have:=xD (K:=K) (M:=fun a=>H a=none) (H:=H') (bs:=bs) (ls:=ls) 0 (fun b hb=>(R.news b hb).1) fun k b hk=>by rw [Nat.zero_add]; exact R.rows k b hk
 rw [hb,<- List.range_eq_range'] at this
 exact this
end
end PP
namespace Core
open PySem L2 PP
noncomputable def bX (ws:List Int) (ls:List (Int × Int)) (C:List Int):Bool:=@decide (∀ U:List Int,fV ws ls U->(∀ x ∈ C,x ∈ U)->∀ h ∈ rng ws.length,h ∈ U) (Classical.propDecidable _)
section
variable {ws : List Int} {ls : List (Int × Int)} {C D : List Int}
theorem pK:bX ws ls C=true ↔ ∀ U:List Int,fV ws ls U->(∀ x ∈ C,x ∈ U)->∀ h ∈ rng ws.length,h ∈ U:=
 ⟨fun z=>@bq8 _ (Classical.propDecidable _) z,fun z=>@bh3 _ (Classical.propDecidable _) z⟩
theorem aW1 (h:∀ x ∈ C,x ∈ D) (f:bX ws ls C=true):bX ws ls D=true:=
 pK.mpr fun U sU hU=>pK.mp f U sU fun x hx=>hU x (h x hx)
theorem ac1 {T:List Int} (sh:fV ws ls T) (sub:∀ x ∈ C,x ∈ T) (le:∀ U,fV ws ls U->(∀ x ∈ C,x ∈ U)->∀ x ∈ T,x ∈ U):bX ws ls C=true ↔ ∀ h ∈ rng ws.length,h ∈ T:=
 ⟨fun f=>pK.mp f T sh sub,fun a=>pK.mpr fun U sU hU h hh=>le U sU hU h (a h hh)⟩
theorem t6 {m:Nat} (hs:aP ws.length C=true) (en:bP ws ls C m):bX ws ls C=decide (((aS ws ls C m).length:Int)=(ws.length:Int)):=by
 have st:∀ m,∀ x ∈ aS ws ls C m,x ∈ rng ws.length:=fun m=>by
  induction m with
  | zero=>exact fun x hx=>gN.mpr ((cQ hs).2 x hx)
  | succ m ih=>
   intro x hx
   rcases bk0.mp (show x ∈ aS ws ls C m ++ nextOf ws ls (aS ws ls C m) from hx) with hx | hx
   ·exact ih x hx
   ·exact (bj8.mp hx).1
 have nd:=xN (ls:=ls) hs m
 have le:=nd.length_le_of_subset (st m)
 rw [iC] at le
 rw [bl1,bi5,ac1 (aV2 en) (aV1 m) fun U sU hU x hx=>W7 sU hU m x hx]
 constructor
 ·intro a
  have:=(W8 ws.length).length_le_of_subset a
  rw [iC] at this
  omega
 ·intro e
  refine fun h hh=>Classical.byContradiction fun hn=>?_
  have:=(bu5.mpr ⟨hn,nd⟩).length_le_of_subset fun x hx=>(bh1.mp hx).elim (fun e=>by rw [e]; exact hh) (st m x)
  rw [iC,bk2] at this
  omega
end
abbrev t7:bH:=lM
def t8:bH:=fun xs Q=>∃ ws ls x ns,xs = [bC ws ls,x]/\Wb ws ls/\cM x ns/\(∀ x ∈ ns,x ∈ rng ws.length)/\∀ T,fV ws ls T->(∀ x ∈ ns,x ∈ T)->(∀ U,fV ws ls U->(∀ x ∈ ns,x ∈ U)->∀ x ∈ T,x ∈ U)->Q (.lst (dY ws.length T))
def ac2:aL:=(aJ (b6 2 (aC t7 (a6 (a5 0) a9)))
 (aJ (i7 3 (dX (jD (aC bT (a6 (bI (a5 0) (qC (.int 0))) a9))) [none,some 1] (cA 0) iO (q2 (k6 false) (a5 0) (a5 1))))
 (aJ (b6 4 (qC (.bl true)))
 (aJ (qV (aU (a5 4))
  (aJ (b6 4 (qC (.bl false)))
  (dW (jD (aC bT (a6 (bI (a5 0) (qC (.int 0))) a9))) (cA 5)
   (aJ (b6 6 (aC bT (a6 (dX (dM (bI (a5 2) (a5 5))) [none,some 3] (cA 0) (kY (bI (a5 1) (a5 0))) (a5 0)) a9)))
   (bK (kW (eM (kY (bI (a5 3) (a5 5)))) (aU (oI (a5 6) (bI (bI (a5 0) (qC (.int 0))) (a5 5))))) (aJ (gJ 3 (a5 5) (qC (.bl true)))
    (b6 4 (qC (.bl true)))) cC)))))
 (iM 3)))))
theorem aW2:cG ac2 ["web","seeds","beside","burning","left","hearth","count"] t8:=by
 rintro xs Q ⟨ws,ls,x,ns,rfl,wb,hx,inn,q⟩
 have few:=wb.few
 refine⟨_,rfl,ws,ls,rfl,wb,trivial,?_⟩
 refine⟨_,rfl,_,_,_,rfl,rfl,rfl,_,_,rfl,rfl,_,rfl,by rw [aX]; omega,by rw [aX]; omega,by rw [eR,aX]; omega,fun i acc=>acc=((rng ws.length).take i).map fun i=>PV.bl (decide (i ∈ ns)),rfl,?_,?_⟩
 ·rintro i y acc hy rfl
  obtain ⟨rfl,hi⟩:=kB hy
  rw [aX] at hi
  have hi:i < ws.length:=by omega
  refine⟨_,rfl,_,rfl,_,ns,rfl,hx.seq,trivial,?_⟩
  have tk:=p5 (f:=fun (i:Int)=>PV.bl (decide (i ∈ ns))) (p6 hi)
  show _=List.map _ (List.take (i+1) _)
  rw [tk,Int.zero_add]; rfl
 rintro bu rfl
 rw [eR,aX,bm0 (by rw [iC]; omega)]
 have flb:∀ S,flats (dY ws.length S)=true:=fun S=>by
  rw [x9]
  intro x hx
  unfold dY at hx
  obtain ⟨i,_,rfl⟩:=bn2.mp hx
  rfl
 refine⟨rfl,flb ns,?_⟩
 refine⟨trivial,?_⟩
 refine⟨fun n ρ=>∃ (T:List Int) (g:Bool) (y5 y6:Option Slot),ρ = [some (.sh (flat (bC ws ls)) (bC ws ls)),some (.sh (flat x) x),some (.sh true (.lst (gP ws.length ls))),some (.own (.lst (dY ws.length T))),some (.sh true (.bl g)),y5,y6]/\
   (∀ x ∈ ns,x ∈ T)/\(∀ U,fV ws ls U->(∀ x ∈ ns,x ∈ U)->∀ x ∈ T,x ∈ U)/\(g=false->fV ws ls T)/\n=2 * ((rng ws.length).filter fun z=>!decide (z ∈ T)).length+(if g=true then 1 else 0),⟨_,ns,true,none,none,rfl,fun _ h=>h,fun _ _ h=>h,(fun z=>by cases z),rfl⟩,?_⟩
 rintro n ρ ⟨T,g,y5,y6,rfl,sub,le,sh,rfl⟩
 refine⟨_,rfl,_,rfl,?_⟩
 cases g with
 | false=>exact aW ⟨_,rfl,trivial,q T (sh rfl) sub le⟩
 | true=>
  refine aZ ⟨trivial,?_⟩
  refine⟨_,rfl,_,_,_,rfl,rfl,rfl,_,_,rfl,rfl,_,rfl,by rw [aX]; omega,by rw [aX]; omega,fun i ρ=>∃ (T2:List Int) (g2:Bool) (y5 y6:Option Slot),ρ = [some (.sh (flat (bC ws ls)) (bC ws ls)),some (.sh (flat x) x),some (.sh true (.lst (gP ws.length ls))),some (.own (.lst (dY ws.length T2))),some (.sh true (.bl g2)),y5,y6]/\
   (∀ x ∈ ns,x ∈ T2)/\(∀ U,fV ws ls U->(∀ x ∈ ns,x ∈ U)->∀ x ∈ T2,x ∈ U)/\(g2=false->T2=T/\∀ j:Nat,j < i->kin ws ls T j=false)/\(g2=true->((rng ws.length).filter fun z=>!decide (z ∈ T2)).length < ((rng ws.length).filter fun z=>!decide (z ∈ T)).length),⟨T,false,y5,y6,rfl,sub,le,(fun _=>⟨rfl,fun j hj=>absurd hj (Nat.not_lt_zero _)⟩),fun z=>by cases z⟩,?_,?_⟩
  ·rintro i y ρ hy ⟨T2,g2,y5,y6,rfl,sub2,le2,h0,h1⟩
   obtain ⟨rfl,hi⟩:=kB hy
   have hi:i < ws.length:=by rw [aX,bl3] at hi; exact hi
   refine jP ?_
   rw [Int.zero_add]
   have hr:(i:Int) ∈ rng ws.length:=gN.mpr ⟨by omega,by omega⟩
   refine⟨_,rfl,_,rfl,_,_,_,rfl,rfl,rY (by omega) (by omega),_,rfl,(fun z=>by cases z),?_,fun j acc=>acc=intz (((bL ls (i:Int)).take j).filter fun z=>decide (z ∈ T2)),rfl,?_,?_⟩
   ·rw [aX]; have:=jV ls (i:Int); have:=wb.most; omega
   ·rintro j z acc hz rfl
    obtain ⟨o,rfl,ho⟩:=fH hz
    have tk:=jN (p:=fun z=>decide (z ∈ T2)) ho
    have om:=gN.mp (X6 wb (bj1 ho))
    refine⟨_,rfl,_,rfl,_,_,_,rfl,rfl,V3 om.1 om.2,_,rfl,?_⟩
    show if decide (o ∈ T2)=true then _ else _
    cases hm:decide (o ∈ T2) with
    | true=>
     rw [hm] at tk
     refine aZ ⟨_,rfl,trivial,?_⟩
     dsimp only
     rw [tk,gO]; rfl
    | false=>
     rw [hm] at tk
     refine aW ?_
     dsimp only
     rw [tk]; exact congrArg intz (bk1 _).symm
   rintro acc rfl
   rw [aX,bk7]
   have ix:L2.atI (intz ws) (i:Int)=some (.int (ws.getD (i:Int).toNat 0)):=sA (by omega) (by omega)
   refine⟨_,_,rfl,rfl,trivial,?_⟩
   refine⟨_,rfl,_,rfl,_,_,_,rfl,rfl,V3 (by omega) (by omega),_,rfl,?_⟩
   show if (!decide ((i:Int) ∈ T2))=true then _ else _
   have stay:kin ws ls T2 (i:Int)=false->∃ (T3:List Int) (g3:Bool) (y5 y6':Option Slot),[some (Slot.sh (flat (bC ws ls)) (bC ws ls)),some (.sh (flat x) x),some (.sh true (.lst (gP ws.length ls))),some (.own (.lst (dY ws.length T2))),some (.sh true (.bl g2)),si (i:Int),some (.sh true (.int (((bL ls (i:Int)).filter fun z=>decide (z ∈ T2)).length:Nat)))] = [some (.sh (flat (bC ws ls)) (bC ws ls)),some (.sh (flat x) x),some (.sh true (.lst (gP ws.length ls))),some (.own (.lst (dY ws.length T3))),some (.sh true (.bl g3)),y5,y6']/\
     (∀ x ∈ ns,x ∈ T3)/\(∀ U,fV ws ls U->(∀ x ∈ ns,x ∈ U)->∀ x ∈ T3,x ∈ U)/\(g3=false->T3=T/\∀ j:Nat,j < i+1->kin ws ls T j=false)/\(g3=true->((rng ws.length).filter fun z=>!decide (z ∈ T3)).length < ((rng ws.length).filter fun z=>!decide (z ∈ T)).length):=fun hk=>by
    refine⟨T2,g2,_,_,rfl,sub2,le2,fun z=>?_,h1⟩
    obtain ⟨e,a⟩:=h0 z
    refine⟨e,fun j hj=>?_⟩
    by_cases je:j=i
    ·rw [je,<- e]; exact hk
    ·exact a j (by omega)
   by_cases hm:(i:Int) ∈ T2
   ·have hk:kin ws ls T2 (i:Int)=false:=by unfold kin; rw [bh3 hm]; rfl
    rw [bh3 hm]
    have:=stay hk
    refine aW (aW ?_)
    dsimp only
    rw [aX]
    exact this
   ·rw [bh2 hm]
    refine aZ ⟨_,rfl,_,rfl,_,_,_,rfl,rfl,rfl,_,rfl,_,_,_,rfl,rfl,ix,_,_,rfl,rfl,_,rfl,?_⟩
    have ek:kin ws ls T2 (i:Int)=decide ((((bL ls (i:Int)).filter fun z=>decide (z ∈ T2)).length:Int) >= ws.getD (i:Int).toNat 0):=by unfold kin; rw [bh2 hm]; rfl
    dsimp only
    rw [aX]
    rw [<- ek]
    cases hk:kin ws ls T2 (i:Int) with
    | false=>exact aW (stay hk)
    | true=>
     refine aZ ⟨_,rfl,_,rfl,_,i,rfl,?_,trivial,?_⟩
     ·unfold dC
      rw [mS,if_pos (by omega),if_pos (by omega),bl3]
     have bs:=aK4 (n:=ws.length) (S:=T2) (x:=(i:Int)) (by omega) (by omega)
     rw [bl3] at bs
     rw [bs]
     refine⟨trivial,T2 ++ [(i:Int)],true,_,_,rfl,fun x hx=>bp3 _ (sub2 x hx),fun U sU hU x hx=>?_,(fun z=>by cases z),fun _=>?_⟩
     ·rcases bk0.mp hx with hx | hx
      ·exact le2 U sU hU x hx
      ·rw [bh8.mp hx]
       refine Classical.byContradiction fun hn=>?_
       have:=W6 hk (le2 U sU hU) hn
       rw [sU (i:Int) hr] at this; cases this
     ·have lt:((rng ws.length).filter fun z=>!decide (z ∈ T2 ++ [(i:Int)])).length < ((rng ws.length).filter fun z=>!decide (z ∈ T2)).length:=by
       have n1:((rng ws.length).filter fun z=>!decide (z ∈ T2 ++ [(i:Int)])).Nodup:=(W8 _).filter _
       have n2:(i:Int) ∉ (rng ws.length).filter fun z=>!decide (z ∈ T2 ++ [(i:Int)]):=fun z=>by
        have:=(bj8.mp z).2
        rw [bh3 (bk6 _ (List.mem_singleton_self _))] at this; cases this
       have:=(bu5.mpr ⟨n2,n1⟩).length_le_of_subset (l₂:=(rng ws.length).filter fun z=>!decide (z ∈ T2)) fun z hz=>by
        rcases bh1.mp hz with e | hz
        ·rw [e]; exact bj8.mpr ⟨hr,by rw [bh2 hm]; rfl⟩
        ·have h2:=bj8.mp hz
         refine bj8.mpr ⟨h2.1,?_⟩
         rw [bh2 fun w=>?_]; rfl
         rw [bh3 (bp3 _ w)] at h2; exact absurd h2.2 (by decide)
       rw [bk2] at this
       omega
      cases g2 with
      | true=>have:=h1 rfl; omega
      | false=>have e:=(h0 rfl).1; rw [e] at lt ⊢; exact lt
  ·rintro ρ ⟨T2,g2,y5,y6,rfl,sub2,le2,h0,h1⟩
   rw [eR,aX,bl3] at h0
   cases g2 with
   | true=>exact⟨_,by have:=h1 rfl; rw [if_pos rfl]; omega,T2,true,y5,y6,rfl,sub2,le2,(fun z=>by cases z),rfl⟩
   | false=>
    obtain ⟨e,sh2⟩:=h0 rfl
    subst e
    refine⟨_,by rw [if_pos rfl,if_neg (by decide)]; omega,T2,false,y5,y6,rfl,sub2,le2,(fun _ h hh=>?_),rfl⟩
    have hm:=gN.mp hh
    have:=sh2 h.toNat (by omega)
    rwa [show ((h.toNat:Nat):Int)=h by omega] at this
def t9:bH:=fun xs Q=>∃ ws ls x ns,xs = [bC ws ls,x]/\Wb ws ls/\cM x ns/\(∀ x ∈ ns,x ∈ rng ws.length)/\Q (.bl (bX ws ls ns))
def ac3:aL:=(bF (dB (aC bT (a6 (dX (dM (aC t8 (a6 (a5 0) (a6 (a5 1) a9)))) [none] (cA 0) (eM (kY (a5 0))) (a5 0)) a9)) (qC (.int 0))))
theorem aW3:cG ac3 ["web","seeds"] t9:=by
 rintro xs Q ⟨ws,ls,x,ns,rfl,wb,hx,inn,q⟩
 have few:=wb.few
 refine⟨_,rfl,_,rfl,ws,ls,x,ns,rfl,wb,hx,inn,fun T sh sub le=>?_⟩
 refine⟨_,rfl,(fun z=>by cases z),by rw [mS]; omega,fun i acc=>acc.length=(((rng ws.length).take i).filter fun z=>!decide (z ∈ T)).length,rfl,?_,?_⟩
 ·rintro i y acc hy e
  unfold dY at hy
  rw [bh9] at hy
  cases hz:(rng ws.length)[i]? with
  | none=>rw [hz] at hy; cases hy
  | some z=>
   rw [hz] at hy
   cases hy
   have tk:=jN (p:=fun z=>!decide (z ∈ T)) hz
   refine⟨_,rfl,_,rfl,?_⟩
   show if (!decide (z ∈ T))=true then _ else _
   cases hm:decide (z ∈ T) with
   | true=>
    rw [hm] at tk
    refine aW ?_
    dsimp only
    rw [tk,e]; exact congrArg List.length (bk1 _).symm
   | false=>
    rw [hm] at tk
    refine aZ ⟨_,rfl,trivial,?_⟩
    dsimp only
    rw [tk,bi3,bi3,e]; rfl
 ·intro acc e
  rw [mS,bm0 (by rw [iC]; exact bh0 _)] at e
  refine⟨_,_,rfl,rfl,.inl ⟨_,_,rfl,rfl,trivial,?_⟩⟩
  have ef:bX ws ls ns=decide ((acc.length:Int)=0):=by
   rw [bl1,bi5,ac1 sh sub le,e]
   constructor
   ·intro a
    rw [List.filter_eq_nil_iff.mpr fun z hz=>by rw [bh3 (a z hz)]; decide]; rfl
   ·intro z h hh
    have nl:(rng ws.length).filter (fun z=>!decide (z ∈ T)) = []:=bt6 (by omega)
    have:=List.filter_eq_nil_iff.mp nl h hh
    simpa using this
  rw [ef] at q
  exact q
noncomputable def dG (ws:List Int) (ls:List (Int × Int)):List Int->List Int->List Int
 | [],L=>L
 | s :: r,L=>dG ws ls r (if bX ws ls (L.filter fun z=>!decide (z ∈ [s]))=true then L.filter fun z=>!decide (z ∈ [s]) else L)
section
variable {ws : List Int} {ls : List (Int × Int)}
theorem aW4 {G L:List Int}{i:Nat}{h:Int} (e:G[i]? = some h):dG ws ls (G.drop i) L=dG ws ls (G.drop (i+1)) (if bX ws ls (L.filter fun z=>!decide (z ∈ [h]))=true then L.filter fun z=>!decide (z ∈ [h]) else L):=by
 obtain ⟨hi,e'⟩:=bh7.mp e
 rw [bs4 hi,e']; rfl
theorem tD:∀ (G L:List Int),∀ x ∈ dG ws ls G L,x ∈ L
 | [],L,x,hx=>hx
 | s :: r,L,x,hx=>by
  have:=tD r _ x hx
  split at this
  ·exact (bj8.mp this).1
  ·exact this
theorem ac4 {n:Nat}:∀ (G L:List Int),aP n L=true->aP n (dG ws ls G L)=true
 | [],L,h=>h
 | s :: r,L,h=>by
  refine ac4 r _ ?_
  split
  ·exact sI h _
  ·exact h
theorem ac5:∀ (G L:List Int),bX ws ls L=true->bX ws ls (dG ws ls G L)=true
 | [],L,h=>h
 | s :: r,L,h=>by
  refine ac5 r _ ?_
  split
  ·rename_i z; exact z
  ·exact h
theorem ac6:∀ (G L:List Int),∀ x ∈ G,x ∈ dG ws ls G L->∀ C,(∀ y ∈ C,y ∈ dG ws ls G L)->x ∉ C->bX ws ls C=false
 | s :: r,L,x,hx,hp,C,hC,xC=>by
  have hp':x ∈ dG ws ls r (if bX ws ls (L.filter fun z=>!decide (z ∈ [s]))=true then L.filter fun z=>!decide (z ∈ [s]) else L):=hp
  have hC':∀ y ∈ C,y ∈ dG ws ls r (if bX ws ls (L.filter fun z=>!decide (z ∈ [s]))=true then L.filter fun z=>!decide (z ∈ [s]) else L):=hC
  by_cases e:x=s
  ·subst e
   by_cases f:bX ws ls (L.filter fun z=>!decide (z ∈ [x]))=true
   ·rw [if_pos f] at hp'
    have:=bj8.mp (tD _ _ x hp')
    rw [bh3 (List.mem_singleton_self _)] at this; exact absurd this.2 (by decide)
   ·rw [if_neg f] at hC'
    cases g:bX ws ls C with
    | false=>rfl
    | true=>
     refine absurd (aW1 (fun y hy=>?_) g) f
     refine bj8.mpr ⟨tD _ _ y (hC' y hy),?_⟩
     rw [bh2 fun z=>xC (by rw [<- bh8.mp z]; exact hy)]; rfl
  ·rcases bh1.mp hx with z | z
   ·exact absurd z e
   ·exact ac6 r _ x z hp' C hC' xC
end
def ac7 (f:List Int->List (Int × Int)->List Int->(PV->Prop)->Prop):cR:=fun Ep xs Q=>∃ ws ls x ns,xs = [bC ws ls,x]/\Wb ws ls/\cM x ns/\ns.length<=1000/\(aP ws.length ns=true->(bX ws ls ns=true->f ws ls ns Q)/\(bX ws ls ns=false->Ep "NoSuch"))/\(aP ws.length ns=false->Ep "BadSet")
def nA:cR:=ac7 fun ws ls ns Q=>Q (.tup (intz ns))
def ac8 (Ep:Str->Prop):aL:=(aJ (b6 2 (eV Ep iW (a6 (a5 0) (a6 (a5 1) a9))))
 (aJ (bK (eM (aU (eV Ep kF (a6 (a5 0) (a6 (a5 2) a9))))) (lO Ep "NoSuch" (a6 (qC (.str "the seeds do not light the web")) a9)) cC)
 (iM 2)))
theorem aW5:iE ac8 ["web","seeds","chosen"] nA:=by
 rintro Ep xs Q ⟨ws,ls,x,ns,rfl,wb,hx,hl,q,qe⟩
 have few:=wb.few
 refine⟨_,rfl,_,rfl,ws,ls,x,ns,rfl,hx,hl,fun hs=>⟨trivial,?_⟩,qe⟩
 obtain ⟨q0,q1⟩:=q hs
 have ln:=fI hs
 refine⟨_,rfl,_,rfl,ws,ls,_,ns,rfl,wb,.inl rfl,by omega,fun _ m en=>⟨_,rfl,?_⟩,fun z=>by rw [hs] at z; cases z⟩
 rw [<- t6 hs en]
 cases f:bX ws ls ns with
 | true=>exact aW ⟨_,rfl,trivial,q0 f⟩
 | false=>exact aZ ⟨by show 1<=1000; decide,q1 f⟩
def tE:cR:=ac7 fun ws ls ns Q=>Q (.tup (intz (dG ws ls ns ns)))
def ac9 (Ep:Str->Prop):aL:=(aJ (b6 2 (eV Ep nA (a6 (a5 0) (a6 (a5 1) a9))))
 (aJ (b6 3 (a5 2))
 (aJ (dW (dM (a5 2)) (cA 4)
  (aJ (b6 5 (aC kD (a6 (a5 3) (a6 (eN (a6 (a5 4) a9)) a9))))
  (bK (aU (eV Ep kF (a6 (a5 0) (a6 (a5 5) a9)))) (b6 3 (a5 5)) cC)))
 (iM 3))))
theorem aW6:iE ac9 ["web","seeds","chosen","left","seed","fewer"] tE:=by
 rintro Ep xs Q ⟨ws,ls,x,ns,rfl,wb,hx,hl,q,qe⟩
 have few:=wb.few
 refine⟨_,rfl,_,rfl,ws,ls,x,ns,rfl,wb,hx,hl,fun hs=>⟨fun f=>⟨trivial,?_⟩,(q hs).2⟩,qe⟩
 have q0:Q (.tup (intz (dG ws ls ns ns))):=(q hs).1 f
 have ln:=fI hs
 refine⟨_,rfl,trivial,?_⟩
 refine⟨_,rfl,_,rfl,(fun z=>by cases z),fun i ρ=>∃ (L:List Int) (y4 y5:Option Slot),ρ = [some (.sh (flat (bC ws ls)) (bC ws ls)),some (.sh (flat x) x),some (.sh true (.tup (intz ns))),some (.sh true (.tup (intz L))),y4,y5]/\aP ws.length L=true/\dG ws ls (ns.drop i) L=dG ws ls ns ns,⟨ns,none,none,rfl,hs,rfl⟩,?_,?_⟩
 ·rintro i y ρ hy ⟨L,y4,y5,rfl,lset,inv⟩
  obtain ⟨h,rfl,hh⟩:=fH hy
  rw [aW4 hh] at inv
  have ll:=fI lset
  refine jP ?_
  refine⟨_,rfl,_,rfl,by show 1<=1000; decide,rfl,_,L,_,[h],rfl,.inl rfl,.inr rfl,by omega,(by show 1<=1000; decide),trivial,?_⟩
  have s2:aP ws.length (L.filter fun z=>!decide (z ∈ [h]))=true:=sI lset _
  generalize L.filter (fun z=>!decide (z ∈ [h]))=M at inv s2
  have ml:=fI s2
  refine⟨_,rfl,_,rfl,ws,ls,_,M,rfl,wb,.inl rfl,by omega,fun _ m en=>⟨_,rfl,?_⟩,fun z=>by rw [s2] at z; cases z⟩
  rw [<- t6 s2 en]
  cases g:bX ws ls M with
  | true=>rw [if_pos g] at inv; exact aZ ⟨_,rfl,trivial,M,_,_,rfl,s2,inv⟩
  | false=>rw [if_neg (by rw [g]; decide)] at inv; exact aW ⟨L,_,_,rfl,lset,inv⟩
 ·rintro ρ ⟨L,y4,y5,rfl,lset,inv⟩
  rw [aX,List.drop_of_length_le (bh0 _)] at inv
  have inv:L=dG ws ls ns ns:=inv
  exact⟨_,rfl,trivial,by rw [inv]; exact q0⟩
def aW7 (K:PySem.W.Frag):aL:=(aJ (bK (eM (aU (l8 K "tuple" (a5 0)))) (bF (qC (.bl false))) cC)
 (aJ (b6 2 (l0 (qC (.int 1))))
 (aJ (dW (dM (a5 0)) (cA 3)
  (aJ (bK (jB (eM (aU (aC mR (a6 (a5 3) a9)))) (jB (aU (qLe (a5 3) (a5 2))) (aU (oI (a5 3) (a5 1))))) (bF (qC (.bl false))) cC)
  (b6 2 (a5 3))))
 (bF (qC (.bl true))))))
def tF:bH:=fun xs Q=>∃ (n:Nat) (c:Int),xs = [.int n,.int c]/\∀ ys,ys.length<=2->aP n ys=false->Q (.tup (intz ys))
def ad0:aL:=(aJ (b6 2 (bU (fP (a5 1) (qC (.int 8))) (M6 (qC (.int 10)) (qC (.int 30)))))
 (aJ (b6 3 (eN (a6 (cX (a6 (l9 (l0 (qC (.int 1))) (a5 2)) a9)) (a6 (cX (a6 (a5 0) a9)) (a6 (cX (a6 (dN (a5 0) (a5 2)) a9)) (a6 (cX (a6 (qC (.int 0)) (a6 (qC (.int 0)) a9))) (a6 (cX (a6 (qC (.int 1)) (a6 (qC (.int 0)) a9))) (a6 (cX (a6 (l0 (qC (.int 1))) (a6 (qC (.int 0)) a9))) a9))))))))
 (bF (bI (a5 3) (bU (a5 1) (aC bT (a6 (a5 3) a9)))))))
theorem tG {n:Nat}{ys:List Int}{x:Int} (hx:x ∈ ys) (b:x < 0 ∨ (n:Int)<=x):aP n ys=false:=by
 cases h:aP n ys with
 | false=>rfl
 | true=>have:=(cQ h).2 x hx; omega
theorem ad1 {n:Nat}{a b:Int} (h : ¬ a < b):aP n [a,b]=false:=by
 cases hs:aP n [a,b] with
 | false=>rfl
 | true=>
  have:=(List.pairwise_cons.mp (fG (cQ hs).1)).1 b bi4
  exact absurd this h
theorem aW8:cG ad0 ["many","number","far","some"] tF:=by
 rintro xs Q ⟨n,c,rfl,q⟩
 refine⟨_,rfl,_,_,rfl,rfl,⟨by decide,by decide⟩,_,_,rfl,rfl,⟨by decide,by decide,by decide⟩,_,_,rfl,rfl,(by show (0:Int) < 10 ^ (30:Int).toNat; decide),trivial,?_⟩
 dsimp only
 have f0:0<=c / 8 % 10 ^ (30:Int).toNat:=bs1 _ (by decide)
 generalize c / 8 % 10 ^ (30:Int).toNat=f at f0
 refine⟨_,rfl,_,rfl,_,_,rfl,rfl,by show 1<=1000; decide,rfl,_,rfl,by show 1<=1000; decide,rfl,_,rfl,_,rfl,_,_,rfl,rfl,by show 1<=1000; decide,rfl,by show 2<=1000; decide,rfl,by show 2<=1000; decide,rfl,_,rfl,by show 2<=1000; decide,rfl,by show 6<=1000; decide,rfl,trivial,?_⟩
 have j0:0<=c % 6:=bs1 _ (by decide)
 have j1:c % 6 < 6:=bv8 _ (by decide)
 have odd:∃ ys:List Int,ys.length<=2/\aP n ys=false/\L2.atI [PV.tup [.int (-1 - f)],.tup [.int n],.tup [.int (n+f)],.tup [.int 0,.int 0],.tup [.int 1,.int 0],.tup [.int (-1),.int 0]] (c % 6)=some (.tup (intz ys)):=by
  generalize c % 6=j at j0 j1
  rcases (show j=0 ∨ j=1 ∨ j=2 ∨ j=3 ∨ j=4 ∨ j=5 by omega) with rfl | rfl | rfl | rfl | rfl | rfl
  ·exact⟨[-1 - f],by show 1<=2; decide,tG bi4 (by omega),rfl⟩
  ·exact⟨[n],by show 1<=2; decide,tG bi4 (by omega),rfl⟩
  ·exact⟨[n+f],by show 1<=2; decide,tG bi4 (by omega),rfl⟩
  ·exact⟨[0,0],by decide,ad1 (by decide),rfl⟩
  ·exact⟨[1,0],by decide,ad1 (by decide),rfl⟩
  ·exact⟨[-1,0],by decide,tG bi4 (by omega),rfl⟩
 obtain ⟨ys,yl,yn,at6⟩:=odd
 refine⟨_,rfl,_,rfl,_,rfl,_,_,rfl,rfl,_,_,rfl,rfl,(by show (0:Int) < 6; decide),?_⟩
 exact⟨_,_,_,rfl,rfl,at6,trivial,q ys yl yn⟩
abbrev tH:bH:=ab7 20
abbrev ad2:aL:=ac0 sP
theorem aW9:cG ad2 ["script","most","many","sparse","digits","cells","k","links","counts","other","number","one","draw","wants"] tH:=aV8 (by decide) fun m h=>aV9 (by omega)
end Core
namespace PP
open PySem L2
section
variable {X : Cx} {a b : Expr} {ta tb : aD} {pos : Pos}
def ad3 (K:PySem.W.Frag):R2:=fun x y H Q=>∃ p us ns,∃ rs:List (List Int),y = .ref p/\H p=some (.tup us)/\aG K (fun _=>True) H x (.tup (intz ns))/\Reps K (fun _=>True) H us (rs.map fun r=>PV.tup (intz r))/\Q (.bl (decide (ns ∈ rs))) H
open Classical in
theorem aX0 (hu:X.A.units+3 < cLine):c9 X (compareOp .In) (ad3 X.K):=by
 intro pins s σ H x y v u Q I rx ry h
 obtain ⟨p,us,ns,rs,rfl,hp,rn,rr,q⟩:=h
 cases ry
 obtain ⟨its,r,pl,hz⟩:=I.tuple (aF.of (K:=X.K) hp)
 obtain ⟨px,ws,rfl,hx,qx⟩:=rn.sqT
 have lr:=r.length
 have lp:=rr.length
 rw [bh4] at lp
 let f:Value->Bool:=fun w=>decide (∃ v',aV v' w/\aG X.K (fun _=>True) H v' (.tup (intz ns)))
 have key:∀ j (w:Value),its[j]? = some w->∃ m,rs[j]? = some m/\SeqAt.EqAt X.A.in1 s w v (decide (m=ns))/\(f w=decide (m=ns)):=fun j w hw=>by
  have hj:=(bh7.mp hw).1
  have h1:j < us.length:=by omega
  obtain ⟨w',hw',rw'⟩:=r.get (bg8 h1)
  rw [hw] at hw'
  cases hw'
  obtain ⟨m',hm',rm⟩:=rr.get (bg8 h1)
  rw [bh9] at hm'
  cases hm:rs[j]? with
  | none=>rw [hm] at hm'; cases hm'
  | some m=>
   rw [hm] at hm'
   cases hm'
   refine⟨m,hm,?_,?_⟩
   ·have:=N7 I 2 (A:=X.A.in1) (by show X.A.units+1+2 < cLine; omega) rm rn rw' rx (by exact vX 1 m ns)
    rw [vV 1] at this
    exact this
   ·have:(∃ v',aV v' w/\aG X.K (fun _=>True) H v' (.tup (intz ns))) ↔ m=ns:=by
     refine⟨fun ⟨v',h1',h2'⟩=>?_,fun e=>⟨_,rw',by rw [<- e]; exact rm⟩⟩
     obtain ⟨p1,w1,e1,_,_⟩:=rm.sqT
     obtain ⟨p2,w2,e2,_,_⟩:=h2'.sqT
     rw [e1] at rw' rm
     rw [e2] at h1' h2'
     cases rw'
     cases h1'
     exact aT2 rm h2'
    show decide _=decide _
    exact decide_eq_decide.mpr this
 refine SeqAt.in_tupleAt f pl (fun w hw=>?_) ⟨.bl _,H,I,rfl,?_⟩
 ·have hw:w ∈ its:=by simpa using hw
  obtain ⟨j,hj⟩:=List.getElem?_of_mem hw
  obtain ⟨m,_,h1,h2⟩:=key j w hj
  rw [h2]; exact h1
 ·have:its.toArray.any f=decide (ns ∈ rs):=by
   rw [show its.toArray.any f=its.any f by simp,bl1,List.any_eq_true,bi5]
   refine⟨fun ⟨w,hw,e⟩=>?_,fun h=>?_⟩
   ·obtain ⟨j,hj⟩:=List.getElem?_of_mem hw
    obtain ⟨m,hm,_,h2⟩:=key j w hj
    rw [h2,bi5] at e
    rw [<- e]; exact bj1 hm
   ·obtain ⟨j,hj⟩:=List.getElem?_of_mem h
    have hl:=(bh7.mp hj).1
    obtain ⟨m,hm,_,h2⟩:=key j its[j] (bg8 (by omega))
    rw [hj] at hm
    cases hm
    exact⟨its[j]'(by omega),br5 _,by rw [h2]; exact bh3 rfl⟩
  rw [this]
  exact q
def yG:PV->Tg->PV->Tg->PK->Prop:=fun x _ y _ Q=>∃ ns,∃ rs:List (List Int),x = .tup (intz ns)/\y = .tup (rs.map fun r=>PV.tup (intz r))/\Q (.bl (decide (ns ∈ rs))) .fr
theorem aX1:eB X yG (ad3 X.K):=by
 rintro W Hs H u v x y g g' Q Q' s n r1 r2 ⟨ns,rs,rfl,rfl,q⟩ k
 obtain ⟨p,us,rfl,h,r⟩:=r2.sqT
 exact⟨p,us,ns,rs,rfl,h,r1.same (aB.refl _) (fun _ _=>trivial),r.same (aB.refl _) (fun _ _=>trivial),k _ _ _ .fr (aB.refl _) (.bl _) q⟩
theorem aX2 (hu:X.A.units+3 < cLine) (ha:QE X a ta) (hb:QE X b tb) (hm:behindInMarks .In b=false:=by rfl):QT X (.Compare a [.In] [b] pos) (aU (q2 yG ta tb)):=jI (aX0 hu) aX1 ha hb hm
end
end PP
namespace Core
open PySem L2 PP
section
variable {ws : List Int} {ls : List (Int × Int)} {ns S : List Int}
theorem ad4:∀ k,(∀ j < k,nextOf ws ls (aS ws ls ns j) ≠ [])->k<=(aS ws ls ns k).length
 | 0,_=>bl6 _
 | k+1,h=>by
  have ih:=ad4 k fun j hj=>h j (by omega)
  have:=List.length_pos_iff.mpr (h k (by omega))
  show k+1<=(aS ws ls ns k ++ nextOf ws ls (aS ws ls ns k)).length
  rw [bi3]; omega
theorem aX3 (ws:List Int) (ls:List (Int × Int)) (ns:List Int):∃ m,bP ws ls ns m:=by
 have key:∀ k,(∃ m,bP ws ls ns m) ∨ ∀ j < k,nextOf ws ls (aS ws ls ns j) ≠ []:=fun k=>by
  induction k with
  | zero=>exact .inr fun j hj=>(by omega)
  | succ k ih=>
   rcases ih with h | h
   ·exact .inl h
   ·by_cases e:nextOf ws ls (aS ws ls ns k) = []
    ·exact .inl ⟨k,h,e⟩
    ·exact .inr fun j hj=>if z:j=k then z ▸ e else h j (by omega)
 rcases key (ns.length+cold ws ns+1) with h | h
 ·exact h
 ·have:=ad4 _ h
  have:=rW ws ls ns (ns.length+cold ws ns+1)
  omega
def iG (ws:List Int) (ls:List (Int × Int)) (ns:List Int):List Int:=mY ws ls (dR ws.length ns)
theorem ad5 (wb:Wb ws ls) {m:Nat} (en:bP ws ls ns m):dR ws.length (aS ws ls ns m)=iG ws ls ns:=
 aO8 (aP0 wb en) (aT1 ws ls _) (xO _ _) (aa3 (xO _ _))
theorem aX4:aP ws.length (iG ws ls ns)=true:=aa3 (xO _ _)
theorem ad6 (wb:Wb ws ls) (hs:aP ws.length ns=true):bX ws ls ns=decide (iG ws ls ns = []):=by
 obtain ⟨m,en⟩:=aX3 ws ls ns
 rw [t6 hs en,aT3 hs,ad5 wb en]
def dZ (S:List Int) (h:Int):List Int:=S.filter fun z=>!decide (z ∈ [h])
theorem ad7 {h x:Int}:x ∈ dZ S h ↔ x ∈ S/\x ≠ h:=by unfold dZ; rw [bj8]; simp
theorem yH {n:Nat}{h:Int} (hs:aP n S=true):aP n (dZ S h)=true:=sI hs _
theorem ad8 {A:List Int} (nd:A.Nodup) {p:Int->Bool}{h:Int} (e:∀ x,(x ∈ A/\p x=true) ↔ x=h):A.filter p = [h]:=by
 have n2:(A.filter p).Nodup:=nd.filter p
 have mem:∀ x,x ∈ A.filter p ↔ x=h:=fun x=>bj8.trans (e x)
 cases q:A.filter p with
 | nil=>have:=(mem h).mpr rfl; rw [q] at this; cases this
 | cons a r=>
  rw [q] at n2 mem
  have ha:a=h:=(mem a).mp bi4
  cases r with
  | nil=>rw [ha]
  | cons b r=>
   have hb:b=h:=(mem b).mp (bi9 _ bi4)
   exact absurd (by rw [ha,hb]; exact bi4) (bu5.mp n2).1
end
def ad9 (ws:List Int) (ls:List (Int × Int)) (S:List Int):List PV:=tups (S.map fun h=>iG ws ls (dZ S h))
def tI:cR:=fun Ep xs Q=>∃ ws ls x ns,xs = [bC ws ls,x]/\Wb ws ls/\cM x ns/\ns.length<=1000/\(aP ws.length ns=true->((bX ws ls ns=true/\∀ h ∈ ns,bX ws ls (dZ ns h)=false)->Q (.tup (ad9 ws ls ns)))/\((bX ws ls ns=false ∨ ∃ h ∈ ns,bX ws ls (dZ ns h)=true)->Ep "NoSuch"))/\(aP ws.length ns=false->Ep "BadSet")
def ae0 (Ep:Str->Prop):aL:=(aJ (b6 2 (eV Ep nA (a6 (a5 0) (a6 (a5 1) a9))))
 (aJ (b6 3 (aC gK (a6 (dX (dM (a5 2)) [none,some 0,some 2] (cA 0) iO (aC (sT fun _=>False) (a6 (a5 1) (a6 (aC kD (a6 (a5 2) (a6 (eN (a6 (a5 0) a9)) a9))) a9)))) a9)))
 (aJ (bK (aU (q2 yG (cX a9) (a5 3))) (lO Ep "NoSuch" (a6 (qC (.str "one of the seeds can be left out")) a9)) cC)
 (iM 3))))
theorem aX5:iE ae0 ["web","seeds","chosen","paper"] tI:=by
 rintro Ep xs Q ⟨ws,ls,x,ns,rfl,wb,hx,hl,q,qe⟩
 have few:=wb.few
 refine⟨_,rfl,_,rfl,ws,ls,x,ns,rfl,wb,hx,hl,fun hs=>⟨fun f=>⟨trivial,?_⟩,fun f=>(q hs).2 (.inl f)⟩,qe⟩
 obtain ⟨q0,q1⟩:=q hs
 have ln:=fI hs
 refine⟨_,rfl,_,rfl,(fun _=>lK ns),by rw [aX]; omega,fun i acc=>acc=tups ((ns.take i).map fun h=>iG ws ls (dZ ns h)),rfl,?_,?_⟩
 ·rintro i y acc hy rfl
  obtain ⟨h,rfl,hh⟩:=fH hy
  have b1:aP ws.length (dZ ns h)=true:=yH hs
  have b2:=fI b1
  refine⟨_,rfl,_,rfl,_,rfl,by show 1<=1000; decide,rfl,_,ns,_,[h],rfl,.inl rfl,.inr rfl,by omega,(by show 1<=1000; decide),?_⟩
  refine⟨ws,ls,_,dZ ns h,rfl,wb,.inl rfl,by omega,fun _ m en=>⟨trivial,?_⟩,fun z=>by rw [b1] at z; cases z⟩
  dsimp only
  rw [ad5 wb en,bp1,hh]
  unfold tups
  rw [bl4,bl4]; rfl
 rintro acc rfl
 rw [aX,bk7]
 refine⟨⟨_,_,rfl,rfl,fR _,trivial,?_⟩,fun ns z=>by cases z⟩
 refine⟨by decide,rfl,_,rfl,[],ns.map fun h=>iG ws ls (dZ ns h),rfl,rfl,_,rfl,?_⟩
 by_cases e:([]:List Int) ∈ ns.map fun h=>iG ws ls (dZ ns h)
 ·rw [bh3 e]
  obtain ⟨h,hh,ez⟩:=bn2.mp e
  exact aZ ⟨by show 1<=1000; decide,q1 (.inr ⟨h,hh,by rw [ad6 wb (yH hs)]; exact bh3 ez⟩)⟩
 ·rw [bh2 e]
  refine aW ⟨_,rfl,trivial,q0 ⟨f,fun h hh=>?_⟩⟩
  rw [ad6 wb (yH hs)]
  exact bh2 fun z=>e (bn2.mpr ⟨h,hh,z⟩)
def aX6:aL:=(bF (jC (aC mO (a6 (a5 0) (a6 (a5 3) a9))) (jC (q2 (k6 false) (a5 2) (a5 3)) (jC (dB (aC kC (a6 (a5 3) (a6 (a5 1) a9))) (qC (.int 1))) (aC (sQ fun _=>False) (a6 (a5 0) (a6 (a5 3) a9)))))))
def aX7:aL:=(aJ (b6 2 (aC t7 (a6 (a5 0) a9)))
 (aJ (dW (dM (a5 1)) (cA 3)
  (bK (aU (oI (aC bT (a6 (dX (dM (bI (a5 2) (a5 3))) [none,some 1] (cA 0) (aU (q2 (k6 true) (a5 0) (a5 1))) (a5 0)) a9)) (bI (bI (a5 0) (qC (.int 0))) (a5 3)))) (bF (qC (.bl false))) cC))
 (bF (qC (.bl true)))))
theorem ae1 (ws:List Int) (ls:List (Int × Int)):bX ws ls (rng ws.length)=true:=pK.mpr fun _ _ hU h hh=>hU h hh
theorem aX8 (n:Nat):aP n (rng n)=true:=pG.set ⟨aQ8 n,fun x hx=>gN.mp hx⟩
end Core
namespace PP
open PySem L2
section
variable {X : Cx} {a b e : Expr} {ta tb te : aD} {tr : cE} {pos : Pos} {σ : St} {H : Hp} {Q' : VK} {es : List Expr}
def yI (t:cE):aD:=fun ρ Q=>t ρ fun xs=>xs.length<=1000/\jW xs/\Q (.lst (xs.map (·.1))) .nw
theorem aX9 (h:LE X (yI tr) σ H Q'):uF (LA X tr) σ H Q':=by
 obtain ⟨W,ρ,Q,px,q,k⟩:=h
 refine⟨W,ρ,_,px,q,?_⟩
 rintro vs H1 xs s1 r ⟨hl,n,q⟩
 refine⟨by rw [r.length]; exact o8 hl,fun p hp=>k _ _ _ .nw (s1.trans (bB hp _)) (.lst (px.new (s1.free hp)) bE ?_) q⟩
 exact (jW.reps (vs:=vs) px n r).same (bB hp _) fun _ z=>z
theorem aY0 (ha:QA X es tr):QE X (.List es pos) (yI tr):=cB (pV ha) fun _ _ _=>aX9
end
end PP
namespace Core
open PySem L2 PP
theorem aY1 {n k:Nat} (h:k < n):dC n (k:Int)=some k:=by
 unfold dC
 rw [if_pos (by omega),if_pos (by omega),bl3]
def F6 (ws:List Int) (ls:List (Int × Int)) (ns R:List Int):Prop:=aa7 ws ls ns R=true/\fV ws ls (ns ++ R)
end Core
namespace L2
open PySem PySem.Spec PyProof.Rows PP
section
variable {prog : Program} {w : World} {A : Around} {R : Result → Shared → Prop} {I S : Addr} {n : Nat} {l : Addr} {its : Array Value} {s0 : Shared} {bt : Nat → Nat → Bool}
abbrev at_ (s:Shared) (h:Heap) (k:Nat):Shared:={ s with heap:=h,toks:=k }
abbrev aY2 (g h:Heap):Prop:=∀ b o,g.get? b=some o->h.get? b=some o
def cF (prog:Program) (w:World) (A:Around) (s0:Shared) (its:Array Value) (bt:Nat->Nat->Bool):Prop:=
 ∀ (i j:Nat) (v u:Value) (h:Heap) (k:Nat) (Q E:Value->Shared->Prop),its[i]? = some v->its[j]? = some u->aY2 s0.heap h->Q (.bool (bt i j)) (at_ s0 h k)->wpAny (model prog w) A (richCompare .Lt v u) Q E (at_ s0 h k)
end
end L2
namespace Core
open PySem L2 PP
def FB (L:List (List Int)) (f:List Int->Int) (r:List Int):Prop:=∃ i,L[i]? = some r/\(∀ (j:Nat) (s:List Int),j < i->L[j]? = some s->f s < f r)/\∀ s ∈ L,f s<=f r
def yJ (r c:Int) (l:Int × Int):Bool:=decide (0<=l.1) && (decide (l.1 < r) && (decide (0<=l.2) && decide (l.2 < c)))
def aY3 (l:Int × Int):List (Int × Int):=[(l.1 - 1,l.2),(l.1,l.2 - 1),(l.1,l.2+1),(l.1+1,l.2)]
def yK (r c:Int) (l:Int × Int):List (Int × Int):=(aY3 l).filter (yJ r c)
section
variable {ls : List (Int × Int)} {n : Nat} {B : List Int}
def ins (ls:List (Int × Int)) (S:List Int) (h:Int):Nat:=((bL ls h).filter fun x=>decide (x ∈ S)).length
end
end Core
namespace L2
open PySem PySem.Spec PyProof.Rows SO
abbrev kk (l:Int × Int):List aE:=[Sum.inl l.1,Sum.inl l.2]
end L2
namespace PP
open PySem L2
section
variable {X : Cx} {a b e : Expr} {te : aD} {pos : Pos} {D : bP} {σ : St} {H : Hp}
def yL (i:Nat) (tk1 tk2 te:aD):aL:=fun D ρ=>te ρ fun x _=>∃ u w xs,x = .tup [u,w]/\flats [u,w]=true/\ρ[i]? = some (some (.own (.lst xs)))/\tk1 ρ fun y _=>∃ n j,y = .int n/\dC xs.length n=some j/\
 tk2 (ρ.set i (some (.own (.lst (xs.set j u))))) fun y' _=>∃ n' j',y' = .int n'/\dC (xs.set j u).length n'=some j'/\D.nx ((ρ.set i (some (.own (.lst (xs.set j u))))).set i (some (.own (.lst ((xs.set j u).set j' w)))))
theorem aY4 {i:Nat}{tk1 tk2:aD} (h:LS X (yL i tk1 tk2 te) D σ H):jR (LE X te) (nE X.K 2 (iZ (kN (gU i) (LE X tk1) kO) (iZ (kN (gU i) (LE X tk2) kO) nD))) D σ H:=by
 obtain ⟨W,ρ,D',px,q,k⟩:=h
 refine⟨W,ρ,_,px,q,?_⟩
 rintro w H1 x g s rx ⟨u,z,xs,rfl,fl,hi,q1⟩
 obtain ⟨b,ub,rfl,hb,rb⟩:=rx.sqT
 obtain ⟨u1,u2,rfl,_,_⟩:=rb.two
 obtain ⟨v,ev,a,rfl,wa,us,ea,r⟩:=(px.mono s).sl i _ hi
 refine⟨b,[u1,u2],rfl,aF.of hb,rfl,u1,[u2],rfl,_,ev,W,ρ,_,px.mono s,q1,?_⟩
 rintro kv H2 y gy s2 ry ⟨n,j,rfl,hj,q2⟩
 cases ry
 have ea2:=s2 _ _ ea
 have ht:i < ρ.length:=(bh7.mp hi).1
 have hi':(ρ.set i (some (.own (.lst (xs.set j u)))))[i]? = some (some (.own (.lst (xs.set j u)))):=by rw [bm8 ht]
 have f2:Reps X.K (Ms X.H₀ W true) H2 [u1,u2] [u,z]:=(Reps.flat fl rb).same s2 fun _ z=>z
 obtain ⟨w1,w2,e12,ru,rw_⟩:=f2.two
 cases e12
 refine⟨a,us,n,j,rfl,rfl,ea2,by rw [r.length]; exact hj,u2,[],rfl,?_⟩
 have px2:=(px.mono (s.trans s2)).updL hi ev wa ((Reps.set ru j (r.same s2 fun _ z=>z)).keep (.upd ea2 rfl fun b m=>⟨iL wa m,m⟩))
 have rs:Reps X.K (Ms X.H₀ W true) (upd H2 a (.lst (us.set j u1))) (us.set j u1) (xs.set j u):=(Reps.set ru j (r.same s2 fun _ z=>z)).keep (.upd ea2 rfl fun b m=>⟨iL wa m,m⟩)
 refine⟨_,ev,W,_,_,px2,q2,?_⟩
 rintro kv' H4 y' gy' s4 ry' ⟨n',j',rfl,hj',q3⟩
 cases ry'
 have ea4:=s4 _ _ (bE (H:=H2) (a:=a) (o:=.lst (us.set j u1)))
 refine⟨a,us.set j u1,n',j',rfl,rfl,ea4,by rw [rs.length]; exact hj',rfl,?_⟩
 have rz0:aG X.K (Ms X.H₀ W true) (upd H2 a (.lst (us.set j u1))) u2 z:=rw_.keep (.upd ea2 rfl fun b m=>⟨iL wa m,m⟩)
 have rz:=rz0.same s4 fun _ z=>z
 refine k.nx W σ _ _ (((Ev.same (s.trans s2)).trans (Ev.upd wa)).trans ((Ev.same s4).trans (Ev.upd wa))) ((px2.mono s4).updL hi' ev wa ?_) q3
 exact (Reps.set rz j' (rs.same s4 fun _ z=>z)).keep (.upd ea4 rfl fun b m=>⟨iL wa m,m⟩)
theorem aY5 (i:Nat) {x:Str}{xp1 xp2 tp1 tp2 tp:Pos}{kt:Nat}{tk1 tk2:aD} (hk1:QE X a tk1) (hk2:QE X b tk2) (he:QE X e te) (hN:X.N[i]? = some x:=by rfl) (hv:fZ X.env.scope x:=by first | exact Or.inl rfl | exact Or.inr (Or.inl rfl) | exact Or.inr (Or.inr rfl)) (hd:(x == ("__debug__" : Str))=false:=by decide) (hcd:(x == ("__classdict__" : Str))=false:=by decide) (hc:X.calm=true:=by rfl)
  (hp1:∀ (tx:TE) (tg:TE),PE X (.Name x xp1) tx->PE X a tg->PG X (.Subscript (.Name x xp1) a tp1) (kN tx tg kO):=by intro _ _ h1 h2; exact tX h1 h2 uO)
  (hp2:∀ (tx:TE) (tg:TE),PE X (.Name x xp2) tx->PE X b tg->PG X (.Subscript (.Name x xp2) b tp2) (kN tx tg kO):=by intro _ _ h1 h2; exact tX h1 h2 uO)
  (hs:swapsWithSole [.Tuple [.Subscript (.Name x xp1) a tp1,.Subscript (.Name x xp2) b tp2] kt tp] e pos.line X.env=pure false:=by rfl) (hw:swappedStores [.Tuple [.Subscript (.Name x xp1) a tp1,.Subscript (.Name x xp2) b tp2] kt tp] e X.env=pure none:=by rfl) :
  QS X (.Assign [.Tuple [.Subscript (.Name x xp1) a tp1,.Subscript (.Name x xp2) b tp2] kt tp] e pos) (yL i tk1 tk2 te):=
 eD (zA he (lV hc (g9 (hp1 _ _ (iI hN hv hd hcd) hk1) (g9 (hp2 _ _ (iI hN hv hd hcd) hk2) lU))) hs hw) fun _ _ _=>aY4
end
end PP
namespace Core
open PySem L2 PP
inductive pL (r c:Int) (S:List (Int × Int)):Int × Int->Prop
 | seed {x:Int × Int}:x ∈ S->pL r c S x
 | kin {x a b:Int × Int}:yJ r c x=true->a ∈ yK r c x->b ∈ yK r c x->a ≠ b->pL r c S a->pL r c S b->pL r c S x
def nbC (r c:Int) (P:List (Int × Int)) (x:Int × Int):Nat:=(P.filter fun p=>decide (x ∈ yK r c p)).length
structure Wk (r c:Int) (S K P:List (Int × Int)):Prop where
 nd:K.Nodup
 ndP:P.Nodup
 sub:∀ x ∈ P,x ∈ K
 brn:∀ x ∈ K,pL r c S x
 sd:∀ x ∈ S,x ∈ K
 bd:∀ x ∈ K,yJ r c x=true
 low:∀ x,x ∉ K->nbC r c P x < 2
structure Bx where
 t:Int
 l:Int
 b:Int
 r:Int
deriving DecidableEq
def Bx.k (x:Bx):List Int:=[x.t,x.l,x.b,x.r]
def okX (x:Bx):Prop:=x.t<=x.b/\x.l<=x.r
def inX (x:Bx) (p:Int × Int):Prop:=x.t<=p.1/\p.1<=x.b/\x.l<=p.2/\p.2<=x.r
def ae2 (x a:Int × Int):Prop:=(a.1=x.1/\(a.2=x.2 - 1 ∨ a.2=x.2+1)) ∨ (a.2=x.2/\(a.1=x.1 - 1 ∨ a.1=x.1+1))
def Clo (B:Bx) (U:Int × Int->Prop):Prop:=∀ x a b,inX B x->ae2 x a->ae2 x b->a ≠ b->U a->U b->U x
section
variable {B : Bx} {U : Int × Int → Prop}
variable {t l b r : Int}
section
variable (cl : Clo B U) {p1 p2 : Int} (u : U (p1, p2)) (ip : inX B (p1, p2))
include cl u ip
end
end
abbrev bg3:=Int × Int
theorem ae3 {b:Bool}{x:PV}{P:Prop} (h:(Slot.sh b x).tag = .rd):P:=by cases b <;> cases h
abbrev bxP (x:Bx):PV:=.tup (intz x.k)
section
variable {ns : List Int} {a r c z t l : Int} {Q : PV → Prop} (q : ∀ x : Bx, Q (bxP x))
include q
end
end Core
namespace L2
open PySem PySem.Spec PyProof.Rows
def aY6 (sp:Sp) (t:TA) (i:Nat):TB:=fun D Ex σ H=>t σ H fun vs H1=>sp vs H1 (fun v H2=>D.nx (σ.set i (some v)) H2) Ex
section
variable {X : Cx} {k : Nat} {f : Addr} {fd : FuncData} {ps : List Str} {sp : Sp} {x z : Str} {p cp pos zp : Pos} {e : Expr} {es : List Expr} {t : TA} {i : Nat}
theorem aY7 (F:cI X.prog X.w X.K X.mg X.base (dQ X.prog X.w) k f fd ps sp) (hr:bZ k X.A) (hg:Gl X x) (hm:X.mg x=some (.ref f)) (hk:PySem.W.keepIn X.K (.ref f)=true) (hb:gY X.K fd ps []) (ha:∀ E,PA (X.wish E) (e :: es) t)
  (hN:X.N.Nodup) (hi:X.N[i]? = some z) (hz:X.env.scope.names.lookup z=some .local)
  (hdb:(x == ("__debug__" : Str))=false:=by decide) (he:starEach (e :: es) X.env=(false,eval e X.env) :: starEach es X.env:=by rfl) (hpl:(backTo cp (starEach es X.env)).any (·.1)=false:=by rfl) (hsw:swapsWith (.Call (.Name x p) (e :: es) [] cp) (some (.Name z zp)) pos.line X.env=pure false:=by rfl) :
  PB X [.Assign [.Name z zp] (.Call (.Name x p) (e :: es) [] cp) pos] (aY6 sp t i):=by
 intro pins s σ H D Ex I h
 refine wpAny_execs_cons (wpAny_Assign_Name ?_ hsw)
 refine wpAny_Call_Name_kw (nC I hg hm ?_ hdb)
 refine PySem.W.callWith_K (h₀:=X.base) I.ok.mod.kin hk (aO (ha (XB X pins σ Ex) cp pins s σ H _ (I.wish _) h) fun us s1 h1=>⟨?_,?_⟩) he hpl
 ·obtain ⟨_,_,I1,_⟩:=h1
  exact I1.kIn
 ·obtain ⟨vs,H1,I1,r,q⟩:=h1
  have I1:=I1.unwish
  have hl:us.length=ps.length:=by rw [<- r.length]; exact F.len _ _ _ _ q
  have bd:=hb s1 us I1.kIn (by rw [bk1]; exact hl)
  rw [bk1] at bd
  refine wpAny_call (codeAny_mono (F.run X.A X.stack s1 H1 ⟨us,[]⟩ us vs _ Ex hr I1.env0 bd r q) fun rs s' hq=>?_)
  cases rs with
  | error ev=>exact⟨H1,s1,I1,hq⟩
  | ok fl=>
   cases fl with
   | ret u=>
    obtain ⟨v,H2,I2,rv,q2⟩:=I1.after hq
    exact pO I2 hN hi (.inl hz) rv (fun s3 I3=>wpAny_execs_nil ⟨_,H2,I3,q2⟩) (.inr hz)
   | next=>exact False.elim hq
   | brk=>exact False.elim hq
   | cont=>exact False.elim hq
end
end L2
namespace PP
open PySem L2
section
variable {X : Cx} {e : Expr} {es : List Expr} {tr : cE} {p2 cp pos zp : Pos}
def ae4 (i:Nat) (p:cR) (t:cE):mT:=fun D Ep ρ=>t ρ fun xs=>p Ep (xs.map (·.1)) fun z=>D.nx (ρ.set i (some (.sh true z)))
theorem aY8 (i:Nat) {k j:Nat}{x z:Str}{ps:List Str}{p:cR} (d:bD X.prog X.w X.K X.mg X.base k x ps p) (hr:bZ j X.A) (hN:X.N.Nodup) (ha:∀ E,QA (X.wish E) (e :: es) tr) (hkj:k<=j:=by decide) (hg:Gl X x:=by rfl) (hi:X.N[i]? = some z:=by rfl) (hz:X.env.scope.names.lookup z=some .local:=by rfl) (hdb:(x == ("__debug__" : Str))=false:=by decide)
  (he:starEach (e :: es) X.env=(false,eval e X.env) :: starEach es X.env:=by rfl) (hpl:(backTo cp (starEach es X.env)).any (·.1)=false:=by rfl) (hsw:swapsWith (.Call (.Name x p2) (e :: es) [] cp) (some (.Name z zp)) pos.line X.env=pure false:=by rfl):QB X [.Assign [.Name z zp] (.Call (.Name x p2) (e :: es) [] cp) pos] (ae4 i p tr):=by
 obtain ⟨f,fd,F,b,kp,m⟩:=d.ex
 refine pbI (aY7 (t:=LA X tr) F (hr.mono hkj) hg m kp b (fun E=>ha E) hN hi hz hdb he hpl hsw) fun D Ex σ H h=>?_
 obtain ⟨W,ρ,D',Ep,px,q,k,ke⟩:=h
 refine⟨W,ρ,_,px,q,fun vs H1 xs s1 r q1=>⟨_,_,Ep,r.any,q1,fun v H' x s2 r2 q2=>?_,fun n C H' s2 z1 z2=>ke n C H' (s1.trans s2) z1 z2⟩⟩
 have s3:=s1.trans s2
 exact k.nx W _ H' _ (Ev.same s3) ((px.mono s3).setSh (g:=true) (r2.same (aB.refl _) fun a za=>px.new (s1.free za))) q2
end
end PP
namespace Core
open PySem L2 PP
def fY (ws:List Int) (ls:List (Int × Int)) (S:List Int) (h:Int) (B:List Int):Bool:=aP ws.length B && (decide (h ∈ B) && (decide ((B.filter fun x=>decide (x ∈ S)).length=1) && decide (stay ws ls B=B)))
def tJ:bH:=fun xs Q=>∃ ws ls ps S h B,xs = [bC ws ls,.dK ps,.int h,.tup (intz B)]/\Wb ws ls/\DS ps S/\B.length<=1000/\Q (.bl (fY ws ls S h B))
abbrev ae5:aL:=aX6
theorem aY9:cG ae5 ["web","inside","seed","block"] tJ:=by
 rintro xs Q ⟨ws,ls,ps,S,h,B,rfl,wb,ds,hl,q⟩
 refine⟨_,rfl,_,rfl,ws,ls,_,B,rfl,.inl rfl,hl,_,rfl,?_⟩
 unfold fY at q
 cases hB:aP ws.length B with
 | false=>rw [hB] at q; exact aW ⟨trivial,q⟩
 | true=>
 rw [hB] at q
 refine aZ ⟨_,rfl,_,rfl,h,B,rfl,rfl,_,rfl,?_⟩
 show if decide (h ∈ B)=true then _ else _
 cases hh:decide (h ∈ B) with
 | false=>rw [hh] at q; exact aW ⟨trivial,q⟩
 | true=>
 rw [hh] at q
 refine aZ ⟨_,rfl,_,rfl,_,B,ps,S,rfl,.inl rfl,ds,by omega,.inl ⟨_,_,rfl,rfl,_,rfl,?_⟩⟩
 show if decide (((B.filter fun x=>decide (x ∈ S)).length:Int)=1)=true then _ else _
 have e:decide (((B.filter fun x=>decide (x ∈ S)).length:Int)=1)=decide ((B.filter fun x=>decide (x ∈ S)).length=1):=by
  rw [bl1,bi5,bi5]; omega
 rw [e]
 cases h1:decide ((B.filter fun x=>decide (x ∈ S)).length=1) with
 | false=>rw [h1] at q; exact aW ⟨trivial,q⟩
 | true=>
 rw [h1] at q
 exact aZ ⟨_,rfl,_,rfl,ws,ls,_,B,rfl,wb,.inl rfl,hl,fun _=>⟨trivial,q⟩,fun z=>by rw [hB] at z; cases z⟩
noncomputable def lQ (ws:List Int) (ls:List (Int × Int)) (S:List Int) (Bs:List (List Int)):Bool:=decide (Bs.length=S.length) && (bX ws ls S && (S.zip Bs).all fun p=>fY ws ls S p.1 p.2)
abbrev kG (x:PV) (Bs:List (List Int)):Prop:=x = .tup (tups Bs) ∨ x = .lst (tups Bs)
theorem kG.len {x:PV}{Bs:List (List Int)} (h:kG x Bs):qW x=some (Bs.length:Nat):=by
 rcases h with rfl | rfl <;> exact congrArg some (mQ Bs)
theorem kG.seq {x:PV}{Bs:List (List Int)} (h:kG x Bs):iN x=some (tups Bs):=by
 rcases h with rfl | rfl <;> rfl
def tK:cR:=fun Ep xs Q=>∃ ws ls ns x Bs,xs = [bC ws ls,.tup (intz ns),x]/\Wb ws ls/\ns.length<=1000/\kG x Bs/\(∀ B ∈ Bs,B.length<=1000)/\(aP ws.length ns=false->Ep "BadSet")/\(aP ws.length ns=true->(lQ ws ls ns Bs=true->Q (.int (ns.length:Int)))/\(lQ ws ls ns Bs=false->Ep "NoPaper"))
def ae6 (Ep:Str->Prop):aL:=(aJ (b6 3 (eV Ep iW (a6 (a5 0) (a6 (a5 1) a9))))
 (aJ (bK (jB (aU (w4 (aC bT (a6 (a5 2) a9)) (aC bT (a6 (a5 3) a9)))) (eM (aU (eV Ep kF (a6 (a5 0) (a6 (a5 3) a9)))))) (lO Ep "NoPaper" (a6 (qC (.str "an own paper has a block for each of the seeds that light the web")) a9)) cC)
 (aJ (b6 4 (aC iD (a6 (a5 3) a9)))
 (aJ (dW (xQ (a5 3) (a5 2)) (oE 5 6)
  (bK (eM (aU (aC tJ (a6 (a5 0) (a6 (a5 4) (a6 (a5 5) (a6 (a5 6) a9))))))) (lO Ep "NoPaper" (a6 (qC (.str "an own block is a cold one with its seed and no other")) a9)) cC))
 (bF (aC bT (a6 (a5 3) a9)))))))
theorem aZ0 {S:List Int}{Bs:List (List Int)}{i:Nat}{y:PV} (hy:(iV (intz S) (tups Bs))[i]? = some y):∃ h B,S[i]? = some h/\Bs[i]? = some B/\y = .tup [.int h,.tup (intz B)]:=by
 unfold iV tups at hy
 rw [List.getElem?_zipWith] at hy
 unfold intz at hy
 rw [bh9,bh9] at hy
 cases e:S[i]? with
 | none=>rw [e] at hy; cases hy
 | some h=>
  cases e2:Bs[i]? with
  | none=>rw [e,e2] at hy; cases hy
  | some B=>rw [e,e2] at hy; exact⟨h,B,rfl,rfl,(bj9 hy).symm⟩
theorem ae7 {S:List Int}{Bs:List (List Int)}{i:Nat}{h:Int}{B:List Int} (e:S[i]? = some h) (e2:Bs[i]? = some B):(S.zip Bs)[i]? = some (h,B):=by
 rw [List.getElem?_zip_eq_some]; exact⟨e,e2⟩
theorem aZ1:iE ae6 ["web","seeds","paper","chosen","inside","seed","block"] tK:=by
 rintro Ep xs Q ⟨ws,ls,S,x,Bs,rfl,wb,hl,ix,hB,qs,q⟩
 have few:=wb.few
 refine⟨_,rfl,_,rfl,ws,ls,_,S,rfl,.inl rfl,by omega,fun hs=>⟨trivial,?_⟩,qs⟩
 obtain ⟨q1,q2⟩:=q hs
 have ln:=fI hs
 have no:∀ {p:Prop},aP ws.length S=false->p:=fun z=>by rw [hs] at z; cases z
 unfold lQ at q1 q2
 refine⟨_,rfl,_,_,rfl,ix.len,_,rfl,_,_,rfl,rfl,.inl ⟨_,_,rfl,rfl,_,rfl,?_⟩⟩
 show if (!decide ((Bs.length:Int)=((intz S).length:Int)))=true then _ else _
 have e:decide ((Bs.length:Int)=((intz S).length:Int))=decide (Bs.length=S.length):=by
  rw [aX,bl1,bi5,bi5]; omega
 rw [e]
 cases e1:decide (Bs.length=S.length) with
 | false=>rw [e1] at q2; exact aZ ⟨by show 1<=1000; decide,q2 rfl⟩
 | true=>
 rw [e1] at q1 q2
 refine aW ⟨_,rfl,_,rfl,ws,ls,_,S,rfl,wb,.inl rfl,by omega,fun _ m en=>⟨_,rfl,?_⟩,no⟩
 rw [<- t6 hs en]
 cases f:bX ws ls S with
 | false=>rw [f] at q2; exact aZ ⟨by show 1<=1000; decide,q2 rfl⟩
 | true=>
 rw [f] at q1 q2
 refine aW ?_
 refine⟨_,rfl,_,S,rfl,.inl rfl,by omega,fun ps ds=>⟨trivial,?_⟩⟩
 refine⟨_,rfl,_,rfl,intz S,tups Bs,rfl,cW _,ix.symm,ae3,fun i ρ=>(∀ p ∈ (S.zip Bs).take i,fY ws ls S p.1 p.2=true)/\∃ y5 y6:Option Slot,ρ = [some (.sh (flat (bC ws ls)) (bC ws ls)),some (.sh (flat (.tup (intz S))) (.tup (intz S))),some (.sh (flat x) x),some (.sh true (.tup (intz S))),some (.sh true (.dK ps)),y5,y6],⟨fun p hp=>(by rw [List.take_zero] at hp; cases hp),none,none,rfl⟩,?_,?_⟩
 ·rintro i y ρ hy ⟨inv,y5,y6,rfl⟩
  obtain ⟨h,B,hh,hb,rfl⟩:=aZ0 hy
  have at_:=ae7 hh hb
  refine⟨_,_,rfl,?_⟩
  refine⟨_,rfl,_,rfl,_,rfl,_,rfl,ws,ls,ps,S,h,B,rfl,wb,ds,hB B (bj1 hb),_,rfl,?_⟩
  cases o:fY ws ls S h B with
  | true=>
   refine aW ⟨fun p hp=>?_,_,_,rfl⟩
   rw [bp1,at_] at hp
   rcases bk0.mp hp with hp | hp
   ·exact inv p hp
   ·rw [bh8.mp hp]; exact o
  | false=>
   refine aZ ⟨by show 1<=1000; decide,q2 ?_⟩
   have:((S.zip Bs).all fun p=>fY ws ls S p.1 p.2)=false:=List.all_eq_false.mpr ⟨(h,B),bj1 at_,by rw [o]; decide⟩
   rw [this]; rfl
 ·rintro ρ ⟨inv,y5,y6,rfl⟩
  refine⟨_,rfl,_,_,rfl,rfl,trivial,?_⟩
  rw [aX]
  refine q1 ?_
  have:((S.zip Bs).all fun p=>fY ws ls S p.1 p.2)=true:=bo9.mpr fun p hp=>inv p (by
   rw [bm0]
   ·exact hp
   ·unfold iV; rw [List.length_zipWith,List.length_zip,mQ,aX]; omega)
  rw [this]; rfl
def tL:bH:=fun xs Q=>∃ (ms:List Int) (n:Nat),xs = [.tup (intz ms),.int n]/\Q (.bl (aP n ms))
abbrev ae8 (K:PySem.W.Frag):aL:=aW7 K
theorem aZ2 {K:PySem.W.Frag} (kt:PySem.W.kitOne K (.type "tuple") (.type "tuple")=some true):cG (ae8 K) ["found","many","last","hearth"] tL:=by
 rintro xs Q ⟨ms,n,rfl,q⟩
 refine⟨_,rfl,_,_,rfl,kt,_,rfl,aW ?_⟩
 refine⟨_,rfl,trivial,?_⟩
 refine⟨_,rfl,_,rfl,mP (.inl rfl),fun i ρ=>∃ (l:Int) (y3:Option Slot),ρ = [some (.sh (flat (.tup (intz ms))) (.tup (intz ms))),si n,si l,y3]/\(ms.take i).Pairwise (· < ·)/\(∀ x ∈ ms.take i,0<=x/\x < (n:Int)/\x<=l)/\-1<=l/\(l = -1 ∨ ∃ j,j < i/\ms[j]? = some l),⟨-1,none,rfl,(by rw [List.take_zero]; exact bw4),(fun x hx=>by rw [List.take_zero] at hx; cases hx),bs0 _,.inl rfl⟩,?_,?_⟩
 ·rintro i y ρ hy ⟨l,y3,rfl,pw,inn,l1,lo⟩
  obtain ⟨h,rfl,hh⟩:=fH hy
  refine jP ?_
  refine⟨_,rfl,h,rfl,_,rfl,aW ⟨_,rfl,_,rfl,_,_,rfl,rfl,_,rfl,?_⟩⟩
  show if decide (h<=l)=true then _ else _
  by_cases c1:h<=l
  ·rw [bh3 c1]
   have:aP n ms=false:=by
    cases hs:aP n ms with
    | false=>rfl
    | true=>
     exfalso
     have b:=(cQ hs).2 h (bj1 hh)
     rcases lo with lo | ⟨j,hj,ej⟩
     ·omega
     ·obtain ⟨i1,e1⟩:=bh7.mp ej
      obtain ⟨i2,e2⟩:=bh7.mp hh
      have:=bm5.mp (fG (cQ hs).1) j i i1 i2 hj
      rw [e1,e2] at this; omega
   rw [this] at q
   exact aZ ⟨trivial,q⟩
  rw [bh2 c1]
  refine aW ⟨_,rfl,_,rfl,_,_,rfl,rfl,_,rfl,?_⟩
  show if decide (h >= (n:Int))=true then _ else _
  by_cases c2:h >= (n:Int)
  ·rw [bh3 c2]
   have:aP n ms=false:=by
    cases hs:aP n ms with
    | false=>rfl
    | true=>exfalso; have b:=(cQ hs).2 h (bj1 hh); omega
   rw [this] at q
   exact aZ ⟨trivial,q⟩
  rw [bh2 c2]
  have e:ms.take (i+1)=ms.take i ++ [h]:=by rw [bp1,hh]; rfl
  refine aW ⟨_,rfl,trivial,h,_,rfl,?_,?_,by omega,.inr ⟨i,by omega,hh⟩⟩
  ·rw [e]
   exact bm1.mpr ⟨pw,bn5 _ _,fun x hx y hy=>by rw [bh8.mp hy]; have:=inn x hx; omega⟩
  ·intro x hx
   rw [e] at hx
   rcases bk0.mp hx with hx | hx
   ·have:=inn x hx; omega
   ·rw [bh8.mp hx]; omega
 ·rintro ρ ⟨l,y3,rfl,pw,inn,l1,lo⟩
  rw [aX,bk7] at pw inn
  have:aP n ms=true:=pG.set ⟨pw,fun x hx=>⟨(inn x hx).1,(inn x hx).2.1⟩⟩
  rw [this] at q
  exact⟨trivial,q⟩
def tM:bH:=fun xs Q=>∃ ws ls S,xs = [bC ws ls,.tup (intz S)]/\Wb ws ls/\(∀ x ∈ S,x ∈ rng ws.length)/\Q (.bl (decide (stay ws ls S=S)))
abbrev ae9:aL:=aX7
theorem aZ3:cG ae9 ["web","block","beside","hearth"] tM:=by
 rintro xs Q ⟨ws,ls,S,rfl,wb,inn,q⟩
 refine⟨_,rfl,ws,ls,rfl,wb,trivial,?_⟩
 refine⟨_,rfl,_,rfl,(fun _=>lK S),fun i ρ=>(∀ x ∈ S.take i,fL ws ls S x=true)/\∃ y,ρ = [some (.sh (flat (bC ws ls)) (bC ws ls)),some (.sh (flat (.tup (intz S))) (.tup (intz S))),some (.sh true (.lst (gP ws.length ls))),y],⟨fun x hx=>(by rw [List.take_zero] at hx; cases hx),none,rfl⟩,?_,?_⟩
 ·rintro i y ρ hy ⟨inv,y0,rfl⟩
  obtain ⟨h,rfl,hi⟩:=fH hy
  have hb:=gN.mp (inn h (bj1 hi))
  have gw:ws[h.toNat]? = some (ws.getD h.toNat 0):=by
   rw [bi7,bg8 (by omega)]; rfl
  have ix:L2.atI (intz ws) h=some (.int (ws.getD h.toNat 0)):=by
   have:=nN (xs:=intz ws) (j:=h.toNat) (by rw [bh9,gw]; rfl)
   rwa [show ((h.toNat:Nat):Int)=h by omega] at this
  refine jP ?_
  refine⟨_,rfl,_,rfl,_,_,_,rfl,rfl,rY hb.1 hb.2,_,rfl,(fun z=>by cases z),?_,fun j acc=>acc=intz (((bL ls h).take j).filter fun x=>!decide (x ∈ S)),rfl,?_,?_⟩
  ·rw [aX]; have:=jV ls h; have:=wb.most; omega
  ·rintro j z acc hz rfl
   obtain ⟨n,rfl,hn⟩:=fH hz
   have tk:=jN (p:=fun z=>!decide (z ∈ S)) hn
   refine⟨_,rfl,_,rfl,n,S,rfl,rfl,_,rfl,?_⟩
   show if (!decide (n ∈ S))=true then _ else _
   by_cases hm:n ∈ S
   ·rw [bh3 hm] at tk ⊢
    refine aW ?_
    dsimp only
    rw [tk]; exact congrArg intz (bk1 _).symm
   ·rw [bh2 hm] at tk ⊢
    refine aZ ⟨_,rfl,trivial,?_⟩
    dsimp only
    rw [tk,gO]; rfl
  ·rintro acc rfl
   rw [aX,bk7]
   refine⟨_,_,rfl,rfl,_,rfl,_,_,_,rfl,rfl,rfl,_,rfl,_,_,_,rfl,rfl,ix,_,_,rfl,rfl,_,rfl,?_⟩
   rw [aX,aR8]
   dsimp only
   have st:fL ws ls S h=decide (gQ (bL ls h) S < ws.getD h.toNat 0):=rfl
   by_cases c:gQ (bL ls h) S < ws.getD h.toNat 0
   ·rw [bh2 (by omega)]
    refine aW ⟨fun x hx=>?_,_,rfl⟩
    rw [bp1,hi] at hx
    rcases bk0.mp hx with hx | hx
    ·exact inv x hx
    ·rw [bh8.mp hx,st]; exact bh3 c
   ·rw [bh3 (by omega)]
    have:decide (stay ws ls S=S)=false:=bh2 fun e=>by
     have:=List.filter_eq_self.mp e h (bj1 hi)
     rw [st,bi5] at this; exact c this
    rw [this] at q
    exact aZ ⟨trivial,q⟩
 ·rintro ρ ⟨inv,y,rfl⟩
  rw [aX,bk7] at inv
  have:decide (stay ws ls S=S)=true:=bh3 (List.filter_eq_self.mpr inv)
  rw [this] at q
  exact⟨trivial,q⟩
theorem aZ4 {ws:List Int}{ls:List (Int × Int)}{S B:List Int}{h:Int} (hS:aP ws.length S=true) (hh:h ∈ S):fY ws ls S h B=(aP ws.length B && (decide (stay ws ls B=B) && decide (S.filter (fun x=>decide (x ∈ B)) = [h]))):=by
 unfold fY
 cases hB:aP ws.length B with
 | false=>rfl
 | true=>
  have n1:S.Nodup:=(fG (cQ hS).1).imp fun h=>Int.ne_of_lt h
  have n2:B.Nodup:=(fG (cQ hB).1).imp fun h=>Int.ne_of_lt h
  have key:(decide (h ∈ B) && decide ((B.filter fun x=>decide (x ∈ S)).length=1))=decide (S.filter (fun x=>decide (x ∈ B)) = [h]):=by
   rw [bl1,bl7,bi5,bi5,bi5]
   constructor
   ·rintro ⟨hb,e⟩
    obtain ⟨a,ea⟩:=List.length_eq_one_iff.mp e
    have mem:∀ x,(x ∈ B/\x ∈ S) ↔ x=a:=fun x=>by
     have:x ∈ B.filter (fun x=>decide (x ∈ S)) ↔ x=a:=by rw [ea,bh8]
     rw [bj8,bi5] at this; exact this
    have ha:h=a:=(mem h).mp ⟨hb,hh⟩
    exact ad8 n1 fun x=>by rw [bi5,And.comm,ha]; exact mem x
   ·intro e
    have mem:∀ x,(x ∈ S/\x ∈ B) ↔ x=h:=fun x=>by
     have:x ∈ S.filter (fun x=>decide (x ∈ B)) ↔ x=h:=by rw [e,bh8]
     rw [bj8,bi5] at this; exact this
    refine⟨((mem h).mpr rfl).2,?_⟩
    rw [ad8 (h:=h) n2 fun x=>by rw [bi5,And.comm]; exact mem x]; rfl
  rw [<- key]
  cases decide (h ∈ B) <;> cases decide (stay ws ls B=B) <;> cases decide ((B.filter fun x=>decide (x ∈ S)).length=1) <;> rfl
def tN:bH:=fun xs Q=>∃ ws ls S x Bs,xs = [bC ws ls,.tup (intz S),x]/\Wb ws ls/\aP ws.length S=true/\kG x Bs/\Q (.bl (lQ ws ls S Bs))
def af0:aL:=(aJ (bK (jB (aU (w4 (aC bT (a6 (a5 2) a9)) (aC bT (a6 (a5 1) a9)))) (eM (aU (aC t9 (a6 (a5 0) (a6 (a5 1) a9)))))) (bF (qC (.bl false))) cC)
 (aJ (dW (jD (aC bT (a6 (a5 1) a9))) (cA 3)
  (aJ (bK (jB (eM (aU (aC tL (a6 (bI (a5 2) (a5 3)) (a6 (aC bT (a6 (bI (a5 0) (qC (.int 0))) a9)) a9))))) (eM (aU (aC tM (a6 (a5 0) (a6 (bI (a5 2) (a5 3)) a9)))))) (bF (qC (.bl false))) cC)
  (bK (aU (q2 (jF 2 true) (dX (dM (a5 1)) [none,some 2,some 3] (cA 0) (aU (q2 (k6 false) (a5 0) (bI (a5 1) (a5 2)))) (a5 0)) (eN (a6 (bI (a5 1) (a5 3)) a9)))) (bF (qC (.bl false))) cC)))
 (bF (qC (.bl true)))))
theorem af1 {Bs:List (List Int)}{i:Nat}{B:List Int} (h:Bs[i]? = some B):L2.atI (tups Bs) (i:Int)=some (.tup (intz B)):=nN (by unfold tups; rw [bh9,h]; rfl)
theorem aZ5:cG af0 ["web","seeds","paper","k"] tN:=by
 rintro xs Q ⟨ws,ls,S,x,Bs,rfl,wb,hs,ix,q⟩
 have few:=wb.few
 have ln:=fI hs
 unfold lQ at q
 refine⟨_,rfl,_,_,rfl,ix.len,_,rfl,_,_,rfl,rfl,.inl ⟨_,_,rfl,rfl,_,rfl,?_⟩⟩
 show if (!decide ((Bs.length:Int)=((intz S).length:Int)))=true then _ else _
 have e:decide ((Bs.length:Int)=((intz S).length:Int))=decide (Bs.length=S.length):=by
  rw [aX,bl1,bi5,bi5]; omega
 rw [e]
 cases e1:decide (Bs.length=S.length) with
 | false=>rw [e1] at q; exact aZ ⟨trivial,q⟩
 | true=>
 rw [e1] at q
 have el:Bs.length=S.length:=bq8 e1
 refine aW ⟨_,rfl,_,rfl,ws,ls,_,S,rfl,wb,.inl rfl,(fun x hx=>gN.mpr ((cQ hs).2 x hx)),_,rfl,?_⟩
 cases f:bX ws ls S with
 | false=>rw [f] at q; exact aZ ⟨trivial,q⟩
 | true=>
 rw [f] at q
 refine aW ?_
 refine⟨_,rfl,_,_,rfl,rfl,_,rfl,by rw [aX]; omega,by rw [aX]; omega,fun i ρ=>(∀ p ∈ (S.zip Bs).take i,fY ws ls S p.1 p.2=true)/\∃ y3,ρ = [some (.sh (flat (bC ws ls)) (bC ws ls)),some (.sh (flat (.tup (intz S))) (.tup (intz S))),some (.sh (flat x) x),y3],⟨fun p hp=>(by rw [List.take_zero] at hp; cases hp),none,rfl⟩,?_,?_⟩
 ·rintro i y ρ hy ⟨inv,y3,rfl⟩
  obtain ⟨rfl,hi⟩:=kB hy
  have hi:i < S.length:=by rw [aX,bl3] at hi; exact hi
  refine jP ?_
  rw [Int.zero_add]
  obtain ⟨h,hh⟩:∃ h,S[i]? = some h:=⟨S[i],bg8 hi⟩
  obtain ⟨B,hb⟩:∃ B,Bs[i]? = some B:=⟨Bs[i]'(by omega),bg8 (by omega)⟩
  have hm:=bj1 hh
  have at_:=ae7 hh hb
  have ixP:=af1 hb
  have ixS:L2.atI (intz S) (i:Int)=some (.int h):=nN (by unfold intz; rw [bh9,hh]; rfl)
  have ow:=aZ4 (ws:=ws) (ls:=ls) (B:=B) hs hm
  have bad:fY ws ls S h B=false->Q (.bl false):=fun o=>by
   have:((S.zip Bs).all fun p=>fY ws ls S p.1 p.2)=false:=List.all_eq_false.mpr ⟨(h,B),bj1 at_,by rw [o]; decide⟩
   rw [this] at q; exact q
  refine⟨_,rfl,_,rfl,_,_,_,ix.seq,rfl,ixP,_,rfl,_,_,_,rfl,rfl,rfl,_,_,rfl,rfl,B,ws.length,by rw [aX]; rfl,_,rfl,?_⟩
  cases hB:aP ws.length B with
  | false=>rw [hB] at ow; exact aZ ⟨trivial,bad ow⟩
  | true=>
  rw [hB] at ow
  refine aW ⟨_,rfl,_,rfl,_,rfl,_,_,_,ix.seq,rfl,ixP,ws,ls,B,rfl,wb,fun x hx=>gN.mpr ((cQ hB).2 x hx),_,rfl,?_⟩
  cases hc:decide (stay ws ls B=B) with
  | false=>rw [hc] at ow; exact aZ ⟨trivial,bad ow⟩
  | true=>
  rw [hc] at ow
  refine aW ?_
  refine⟨_,rfl,_,rfl,(fun _=>lK S),by rw [aX]; omega,fun j acc=>acc=intz ((S.take j).filter fun x=>decide (x ∈ B)),rfl,?_,?_⟩
  ·rintro j z acc hz rfl
   obtain ⟨n,rfl,hn⟩:=fH hz
   have tk:=jN (p:=fun z=>decide (z ∈ B)) hn
   refine⟨_,rfl,_,rfl,_,rfl,_,_,_,ix.seq,rfl,ixP,n,B,rfl,rfl,_,rfl,?_⟩
   show if decide (n ∈ B)=true then _ else _
   cases hm:decide (n ∈ B) with
   | true=>
    rw [hm] at tk
    refine aZ ⟨_,rfl,trivial,?_⟩
    dsimp only
    rw [tk,gO]; rfl
   | false=>
    rw [hm] at tk
    refine aW ?_
    dsimp only
    rw [tk]; exact congrArg intz (bk1 _).symm
  rintro acc rfl
  rw [aX,bk7]
  refine⟨_,rfl,_,rfl,_,_,_,rfl,rfl,ixS,by show 1<=1000; decide,rfl,.inr ⟨_,_,rfl,rfl⟩,aB4 2 _ [h],_,rfl,?_⟩
  show if (!bQ 3 (.lst (intz (S.filter fun x=>decide (x ∈ B)))) (.lst (intz [h])))=true then _ else _
  rw [aB3]
  cases hf:decide ((S.filter fun x=>decide (x ∈ B)) = [h]) with
  | false=>rw [hf] at ow; exact aZ ⟨trivial,bad ow⟩
  | true=>
  rw [hf] at ow
  refine aW ⟨fun p hp=>?_,_,rfl⟩
  rw [bp1,at_] at hp
  rcases bk0.mp hp with hp | hp
  ·exact inv p hp
  ·rw [bh8.mp hp]; exact ow
 ·rintro ρ ⟨inv,y3,rfl⟩
  have:((S.zip Bs).all fun p=>fY ws ls S p.1 p.2)=true:=bo9.mpr fun p hp=>inv p (by
   rw [bm0]
   ·exact hp
   ·rw [eR,aX,bl3,List.length_zip]; omega)
  rw [this] at q
  exact⟨trivial,q⟩
def pM:bH:=fun xs Q=>∃ ws ls ns x Bs,xs = [bC ws ls,.tup (intz ns),x]/\Wb ws ls/\ns.length<=1000/\kG x Bs/\(∀ B ∈ Bs,B.length<=1000)/\(aP ws.length ns=false->Q (.tup [.non,.lst [.bl false,.bl true,.bl true]]))/\(aP ws.length ns=true->(lQ ws ls ns Bs=true->Q (.tup [.int (ns.length:Int),.non]))/\(lQ ws ls ns Bs=false->Q (.tup [.non,.lst [.bl true,.bl false,.bl true]])))
def af2:aL:=(aJ (b6 3 (qC .non))
 (aJ (b6 4 (qC .non))
 (aJ (xR "HearthError" 5 (ae4 3 tK (a6 (a5 0) (a6 (a5 1) (a6 (a5 2) a9)))) (b6 4 (eN (a6 (mV "NoPaper" (a5 5)) (a6 (mV "BadSet" (a5 5)) (a6 (mV "ValueError" (a5 5)) a9))))))
 (bF (kX (a6 (a5 3) (a6 (a5 4) a9)))))))
theorem lR {a b:PV × Tg} (ha:Nw a.2 a.1) (hb:Nw b.2 b.1):jW [a,b]:=by
 intro p hp
 simp only [bh1,bh5,bl0] at hp
 rcases hp with rfl | rfl
 ·exact ha
 ·exact hb
theorem aZ6:cG af2 ["web","seeds","paper","found","kinds","e"] pM:=by
 rintro xs Q ⟨ws,ls,S,x,Bs,rfl,wb,hl,ix,hB,qs,q⟩
 refine⟨trivial,trivial,?_⟩
 refine⟨_,rfl,_,rfl,_,rfl,ws,ls,S,x,Bs,rfl,wb,hl,ix,hB,fun no=>?_,fun hs=>⟨fun r=>?_,fun r=>?_⟩⟩
 ·refine⟨by decide,_,rfl,false,(by decide),_,rfl,true,(by decide),_,rfl,true,(by decide),by show 3<=1000; decide,rfl,trivial,?_⟩
  exact⟨_,rfl,_,rfl,by show 2<=1000; decide,lR trivial trivial,trivial,qs no⟩
 ·exact⟨_,rfl,_,rfl,by show 2<=1000; decide,lR trivial trivial,trivial,(q hs).1 r⟩
 ·refine⟨by decide,_,rfl,true,(by decide),_,rfl,false,(by decide),_,rfl,true,(by decide),by show 3<=1000; decide,rfl,trivial,?_⟩
  exact⟨_,rfl,_,rfl,by show 2<=1000; decide,lR trivial trivial,trivial,(q hs).2 r⟩
def tO:bH:=fun xs Q=>∃ (Bs:List (List Int)) (n c:Int),xs = [.tup (tups Bs),.int n,.int c]/\Bs.length<=40/\(∀ B ∈ Bs,B.length<=40)/\(Bs ≠ []->0 < n)/\∀ Cs:List (List Int),Cs.length<=100->(∀ C ∈ Cs,C.length<=100)->Q (.lst (tups Cs))
def af3:aL:=(aJ (i7 3 (aC oA (a6 (a5 0) a9)))
 (aJ (bK (jB (aU (dB (aC bT (a6 (a5 3) a9)) (qC (.int 0)))) (aU (dB (bU (a5 2) (qC (.int 9))) (qC (.int 0))))) (bF (xH (a5 3) (eN (a6 (cX a9) a9)))) cC)
 (aJ (b6 4 (bU (fP (a5 2) (qC (.int 9))) (aC bT (a6 (a5 3) a9))))
 (aJ (b6 5 (bI (a5 3) (a5 4)))
 (aJ (b6 6 (bU (fP (a5 2) (qC (.int 81))) (a5 1)))
 (aJ (b6 7 (bU (fP (a5 2) (qC (.int 81))) (M6 (qC (.int 10)) (qC (.int 30)))))
 (aJ (bK (aU (dB (bU (a5 2) (qC (.int 9))) (qC (.int 1)))) (sW 3 (a5 4)) (bK (aU (dB (bU (a5 2) (qC (.int 9))) (qC (.int 2)))) (yL 3 (l9 (a5 4) (qC (.int 1))) (a5 4) (cX (a6 (a5 5) (a6 (bI (a5 3) (l9 (a5 4) (qC (.int 1)))) a9)))) (bK (aU (dB (bU (a5 2) (qC (.int 9))) (qC (.int 3)))) (gJ 3 (a5 4) (cX a9)) (bK (aU (dB (bU (a5 2) (qC (.int 9))) (qC (.int 4)))) (gJ 3 (a5 4) (aC gK (a6 (dX (dM (a5 5)) [none,some 6] (cA 0) (aU (w4 (a5 0) (a5 1))) (a5 0)) a9))) (bK (aU (dB (bU (a5 2) (qC (.int 9))) (qC (.int 5)))) (gJ 3 (a5 4) (aC gK (a6 (aC xG (a6 (sG (a5 5) (cX (a6 (a5 6) a9))) a9)) a9))) (bK (aU (dB (bU (a5 2) (qC (.int 9))) (qC (.int 6)))) (gJ 3 (a5 4) (sG (a5 5) (cX (a6 (dN (a5 1) (a5 7)) a9)))) (bK (aU (dB (bU (a5 2) (qC (.int 9))) (qC (.int 7)))) (gJ 3 (a5 4) (sG (cX (a6 (l9 (l0 (qC (.int 1))) (a5 7)) a9)) (a5 5))) cC)))))))
 (iM 3))))))))
theorem yM (Bs:List (List Int)) (j:Nat) (B:List Int):(tups Bs).set j (.tup (intz B))=tups (Bs.set j B):=by unfold tups; rw [List.map_set]
theorem af4:∀ (Bs:List (List Int)) (j:Nat),(tups Bs).eraseIdx j=tups (Bs.eraseIdx j)
 | [],_=>rfl
 | _ :: _,0=>rfl
 | B :: Bs,j+1=>congrArg (PV.tup (intz B) :: ·) (af4 Bs j)
theorem aZ7 {Bs:List (List Int)}{n:Int} (h1 : -(Bs.length:Int)<=n) (h2:n < Bs.length):∃ j B,dC (tups Bs).length n=some j/\j < Bs.length/\Bs[j]? = some B/\L2.atI (tups Bs) n=some (.tup (intz B)):=by
 obtain ⟨j,hj,hlt⟩:∃ j,dC (tups Bs).length n=some j/\j < Bs.length:=by
  unfold dC
  rw [mQ]
  by_cases n0:0<=n
  ·exact⟨n.toNat,by rw [if_pos n0,if_pos h2],by omega⟩
  ·exact⟨(n+Bs.length).toNat,by rw [if_neg n0,if_pos h1],by omega⟩
 obtain ⟨B,hB⟩:∃ B,Bs[j]? = some B:=⟨_,bg8 hlt⟩
 refine⟨j,B,hj,hlt,hB,?_⟩
 unfold L2.atI
 rw [hj]
 show (tups Bs)[j]? = _
 unfold tups
 rw [bh9,hB]; rfl
theorem yN {Bs:List (List Int)}{j m:Nat}{B:List Int} (h:∀ C ∈ Bs,C.length<=m) (hB:B.length<=m):∀ C ∈ Bs.set j B,C.length<=m:=fun C hC=>by
 rcases List.mem_or_eq_of_mem_set hC with hC | rfl
 ·exact h C hC
 ·exact hB
section
variable {Bs : List (List Int)} {n c f : Int} {Q : PV → Prop} {p : Nat} {B : List Int} {D : i6} {b0 : Bool} {hh : Int}
theorem aZ8:cG af3 ["paper","many","cell","blocks","place","block","hearth","far"] tO:=by
 rintro xs Q ⟨Bs,n,c,rfl,hl,hB,hn,q⟩
 have sl:=mQ Bs
 have hB2:∀ B ∈ Bs,B.length<=100:=fun B h=>bk3 (hB B h) (by decide)
 refine⟨_,rfl,_,_,rfl,rfl,fR _,rfl,fR _,?_⟩
 have put:∀ D:i6,D.rt=Q->(bF (xH (a5 3) (eN (a6 (cX a9) a9)))) D [some (.sh (flat (.tup (tups Bs))) (.tup (tups Bs))),si n,si c,some (.own (.lst (tups Bs))),none,none,none,none]:=by
  rintro D rfl
  refine⟨_,rfl,by show 0<=1000; decide,rfl,by show 1<=1000; decide,rfl,tups Bs,[.tup []],rfl,rfl,fR _,rfl,by rw [sl]; show Bs.length+1<=16000000; omega,trivial,?_⟩
  have:=q (Bs ++ [[]]) (by rw [bi3,bm4]; omega) fun C hC=>by
   rcases bk0.mp hC with hC | hC
   ·exact hB2 C hC
   ·rw [bh8.mp hC]; decide
  unfold tups at this
  rw [bl4] at this
  exact this
 refine⟨_,rfl,_,_,rfl,rfl,.inl ⟨_,_,rfl,rfl,_,rfl,?_⟩⟩
 show if decide (((tups Bs).length:Int)=0)=true then _ else _
 by_cases e0:((tups Bs).length:Int)=0
 ·rw [bh3 e0]
  exact aZ (aZ (put _ rfl))
 rw [bh2 e0]
 refine aW ⟨_,rfl,_,_,rfl,rfl,(by show (0:Int) < 9; decide),.inl ⟨_,_,rfl,rfl,_,rfl,?_⟩⟩
 generalize decide (c % 9=0)=d0
 show if d0=true then _ else _
 cases d0 with
 | true=>exact aZ (put _ rfl)
 | false=>
 have pos:0 < (tups Bs).length:=by omega
 have n0:0 < n:=hn fun e=>by rw [sl,e] at pos; exact absurd pos (by decide)
 refine aW ⟨_,rfl,_,_,rfl,rfl,⟨by decide,by decide⟩,_,rfl,_,_,rfl,rfl,_,_,rfl,rfl,by show (0:Int) < ((tups Bs).length:Int); omega,trivial,?_⟩
 have p0:=bs1 (c / 9) (show ((tups Bs).length:Int) ≠ 0 by omega)
 have p1:=bv8 (c / 9) (show 0 < ((tups Bs).length:Int) by omega)
 dsimp only
 generalize c / 9 % ((tups Bs).length:Int)=z at p0 p1
 obtain ⟨p,rfl⟩:=Int.eq_ofNat_of_zero_le p0
 have pl:p < Bs.length:=by omega
 obtain ⟨B,hb⟩:∃ B,Bs[p]? = some B:=⟨_,bg8 pl⟩
 have at1:=af1 hb
 have bl:=hB B (bj1 hb)
 have ixp:dC (tups Bs).length (p:Int)=some p:=by rw [sl]; exact aY1 pl
 refine⟨_,rfl,_,rfl,_,_,_,rfl,rfl,at1,by first | trivial | exact lK _,?_⟩
 refine⟨_,rfl,_,_,rfl,rfl,⟨by decide,by decide⟩,_,rfl,_,_,rfl,rfl,n0,trivial,?_⟩
 refine⟨_,rfl,_,_,rfl,rfl,⟨by decide,by decide⟩,_,_,rfl,rfl,⟨by decide,by decide,by decide⟩,_,_,rfl,rfl,(by show (0:Int) < 10 ^ (30:Int).toNat; decide),trivial,?_⟩
 dsimp only
 generalize c / 81 % n=hz
 generalize c / 81 % 10 ^ (30:Int).toNat=f
 have fin:∀ C:List Int,C.length<=100->Q (.lst ((tups Bs).set p (.tup (intz C)))):=fun C hC=>by
  rw [yM]
  exact q _ (by rw [bk9]; omega) (yN hB2 hC)
 refine⟨_,rfl,_,_,rfl,rfl,(by show (0:Int) < 9; decide),.inl ⟨_,_,rfl,rfl,_,rfl,?_⟩⟩
 generalize decide (c % 9=1)=d1
 show if d1=true then _ else _
 cases d1 with
 | true=>
  refine aZ ⟨_,rfl,_,rfl,p,rfl,by omega,by omega,_,rfl,trivial,?_⟩
  show Q (.lst ((tups Bs).eraseIdx p))
  rw [af4]
  exact q _ (bk3 (uS _ _) (by omega)) fun C hC=>hB2 C (List.mem_of_mem_eraseIdx hC)
 | false=>
 refine aW ⟨_,rfl,_,_,rfl,rfl,(by show (0:Int) < 9; decide),.inl ⟨_,_,rfl,rfl,_,rfl,?_⟩⟩
 generalize decide (c % 9=2)=d2
 show if d2=true then _ else _
 cases d2 with
 | true=>
  obtain ⟨j2,B2,hj2,jl2,hs2,at2⟩:=aZ7 (Bs:=Bs) (n:=(p:Int) - 1) (by omega) (by omega)
  have fl:flats [PV.tup (intz B),.tup (intz B2)]=true:=fR [B,B2]
  refine aZ ⟨_,rfl,_,rfl,_,rfl,(p:Int),1,rfl,rfl,_,_,_,rfl,rfl,at2,by show 2<=1000; decide,fl,.tup (intz B),.tup (intz B2),tups Bs,rfl,fl,rfl,_,rfl,(p:Int),1,rfl,rfl,(p:Int) - 1,j2,rfl,hj2,_,rfl,(p:Int),p,rfl,by rw [bk9]; exact ixp,_,rfl,trivial,?_⟩
  show Q (.lst (((tups Bs).set j2 (.tup (intz B))).set p (.tup (intz B2))))
  rw [yM,yM]
  exact q _ (by rw [bk9,bk9]; omega) (yN (yN hB2 (by omega)) (hB2 _ (bj1 hs2)))
 | false=>
 refine aW ⟨_,rfl,_,_,rfl,rfl,(by show (0:Int) < 9; decide),.inl ⟨_,_,rfl,rfl,_,rfl,?_⟩⟩
 generalize decide (c % 9=3)=d3
 show if d3=true then _ else _
 cases d3 with
 | true=>exact aZ ⟨by show 0<=1000; decide,rfl,tups Bs,rfl,_,rfl,(p:Int),p,rfl,ixp,trivial,_,rfl,trivial,fin [] (by decide)⟩
 | false=>
 refine aW ⟨_,rfl,_,_,rfl,rfl,(by show (0:Int) < 9; decide),.inl ⟨_,_,rfl,rfl,_,rfl,?_⟩⟩
 generalize decide (c % 9=4)=d4
 show if d4=true then _ else _
 cases d4 with
 | true=>
  refine aZ ⟨_,rfl,_,rfl,ae3,by rw [aX]; omega,fun j acc=>acc=intz ((B.take j).filter fun x=>!decide (x=hz)),rfl,?_,?_⟩
  ·rintro j z acc hz' rfl
   obtain ⟨m,rfl,hm⟩:=fH hz'
   have tk:=jN (p:=fun z=>!decide (z=hz)) hm
   refine⟨_,rfl,_,rfl,.inl ⟨m,hz,rfl,rfl,_,rfl,?_⟩⟩
   show if (!decide (m=hz))=true then _ else _
   cases hc:(!decide (m=hz)) with
   | true=>
    rw [hc] at tk
    refine aZ ⟨_,rfl,trivial,?_⟩
    dsimp only
    rw [tk,gO]; rfl
   | false=>
    rw [hc] at tk
    refine aW ?_
    dsimp only
    rw [tk]; exact congrArg intz (bk1 _).symm
  rintro acc rfl
  rw [aX,bk7]
  refine⟨⟨_,_,rfl,rfl,cW _,tups Bs,rfl,_,rfl,(p:Int),p,rfl,ixp,trivial,_,rfl,trivial,fin _ (bk3 (bs5 _ _) (by omega))⟩,fun ns z=>by cases z⟩
 | false=>
 refine aW ⟨_,rfl,_,_,rfl,rfl,(by show (0:Int) < 9; decide),.inl ⟨_,_,rfl,rfl,_,rfl,?_⟩⟩
 generalize decide (c % 9=5)=d5
 show if d5=true then _ else _
 cases d5 with
 | true=>
  refine aZ ⟨_,rfl,_,rfl,by show 1<=1000; decide,rfl,intz B,_,rfl,rfl,cW _,rfl,by rw [aX]; show B.length+1<=16000000; omega,_,B ++ [hz],rfl,by show some (intz B ++ [PV.int hz])=_; rw [gO]; rfl,by rw [bi3,bm4]; omega,fun ms pm _=>?_⟩
  have ml:ms.length<=100:=by rw [pm.length_eq,bi3,bm4]; omega
  exact⟨⟨_,_,rfl,rfl,cW _,tups Bs,rfl,_,rfl,(p:Int),p,rfl,ixp,trivial,_,rfl,trivial,fin ms ml⟩,fun ns z=>by cases z⟩
 | false=>
 refine aW ⟨_,rfl,_,_,rfl,rfl,(by show (0:Int) < 9; decide),.inl ⟨_,_,rfl,rfl,_,rfl,?_⟩⟩
 generalize decide (c % 9=6)=d6
 show if d6=true then _ else _
 cases d6 with
 | true=>
  refine aZ ⟨_,rfl,_,rfl,_,rfl,n,f,rfl,rfl,by show 1<=1000; decide,rfl,intz B,_,rfl,rfl,cW _,rfl,by rw [aX]; show B.length+1<=16000000; omega,tups Bs,rfl,_,rfl,(p:Int),p,rfl,ixp,trivial,_,rfl,trivial,?_⟩
  have:=fin (B ++ [n+f]) (by rw [bi3,bm4]; omega)
  rw [gO] at this
  exact this
 | false=>
 refine aW ⟨_,rfl,_,_,rfl,rfl,(by show (0:Int) < 9; decide),.inl ⟨_,_,rfl,rfl,_,rfl,?_⟩⟩
 generalize decide (c % 9=7)=d7
 show if d7=true then _ else _
 cases d7 with
 | true=>exact aZ ⟨_,rfl,_,rfl,_,_,rfl,rfl,by show 1<=1000; decide,rfl,_,rfl,[PV.int (-1 - f)],intz B,rfl,rfl,rfl,cW _,by rw [aX]; show 1+B.length<=16000000; omega,tups Bs,rfl,_,rfl,(p:Int),p,rfl,ixp,trivial,_,rfl,trivial,fin ((-1 - f) :: B) (by rw [bk2]; omega)⟩
 | false=>
  exact aW ⟨_,rfl,trivial,q Bs (by omega) hB2⟩
end
def yO:bH:=V4
def af5:aL:=(aJ (b6 9 (aC oA (a6 (a5 8) a9)))
  (aJ (b6 10 (aC pM (a6 (a5 1) (a6 (a5 7) (a6 (a5 8) a9)))))
  (aJ (bK (aU (q2 (jF 2 true) (aC oA (a6 (a5 8) a9)) (a5 9))) (bF (qC (.bl false))) cC)
  (bK (kY (aC tN (a6 (a5 1) (a6 (a5 7) (a6 (a5 8) a9))))) (bK (jB (aU (q2 (jF 2 true) (a5 10) (cX (a6 (aC bT (a6 (a5 7) a9)) (a6 (qC .non) a9))))) (eM (aU (aC mR (a6 (bI (a5 10) (qC (.int 0))) a9))))) (bF (qC (.bl false))) cC) (bK (aU (q2 (jF 2 true) (a5 10) (kX (a6 (qC .non) (a6 (eN (a6 (qC (.bl true)) (a6 (qC (.bl false)) (a6 (qC (.bl true)) a9)))) a9))))) (bF (qC (.bl false))) cC)))))
def af6:aL:=(aJ (b6 1 (aC tH (a6 (a5 0) (a6 (qC (.int 16)) a9))))
 (aJ (b6 2 (aC bT (a6 (bI (a5 1) (qC (.int 0))) a9)))
 (aJ (b6 3 (aC iU (a6 (a5 0) (a6 (qC (.int 3)) a9))))
 (aJ (b6 4 (aC (tE fun _=>False) (a6 (a5 1) (a6 (ab4 (a5 2)) a9))))
 (aJ (b6 5 (aC (tI fun _=>False) (a6 (a5 1) (a6 (a5 4) a9))))
 (aJ (bK (aU (q2 (jF 2 true) (aC pM (a6 (a5 1) (a6 (aC tF (a6 (a5 2) (a6 (a5 3) a9))) (a6 (a5 5) a9)))) (kX (a6 (qC .non) (a6 (eN (a6 (qC (.bl false)) (a6 (qC (.bl true)) (a6 (qC (.bl true)) a9)))) a9))))) (bF (qC (.bl false))) cC)
 (aJ (b6 6 (aC tO (a6 (a5 5) (a6 (a5 2) (a6 (a5 3) a9)))))
 (aJ (dW (dM (yI (a6 (cX (a6 (a5 4) (a6 (a5 5) a9))) (a6 (cX (a6 (a5 4) (a6 (aC gK (a6 (a5 6) a9)) a9))) (a6 (kX (a6 (a5 4) (a6 (a5 6) a9))) (a6 (kX (a6 (r9 (a5 4) (oF (qC (.int 1))) vY) (a6 (r9 (a5 6) (oF (qC (.int 1))) vY) a9))) a9)))))) (oE 7 8)
  af5)
 (bF (qC (.bl true)))))))))))
theorem aZ9 (Bs:List (List Int)) (lo hi:Option Int):∃ Cs:List (List Int),fB (tups Bs) lo hi=tups Cs/\∀ C ∈ Cs,C ∈ Bs:=by
 refine⟨(Bs.drop (HT.aT (tups Bs).length 0 lo)).take (HT.aT (tups Bs).length (tups Bs).length hi - HT.aT (tups Bs).length 0 lo),?_,fun C hC=>bw7 (bw8 hC)⟩
 unfold fB tups
 rw [List.map_take,List.map_drop]
section
variable {ns : List Int} {ws : List Int} {ls : List (Int × Int)} {S : List Int} {Bs : List (List Int)} {x : PV} {D : i6} {s0 s2 s3 s4 s5 s6 y9 y10 : Option Slot} {b1 b7 b8 : Bool}
theorem tP (wb:Wb ws ls) (hs:aP ws.length S=true) (ix:kG x Bs) (hB:∀ B ∈ Bs,B.length<=1000)
  (k:∀ y9 y10,D.nx [s0,some (.sh b1 (bC ws ls)),s2,s3,s4,s5,s6,some (.sh b7 (.tup (intz S))),some (.sh b8 x),y9,y10]) :
  af5 D [s0,some (.sh b1 (bC ws ls)),s2,s3,s4,s5,s6,some (.sh b7 (.tup (intz S))),some (.sh b8 x),y9,y10]:=by
 have few:=wb.few
 have ln:=fI hs
 have no:∀ {p:Prop},aP ws.length S=false->p:=fun z=>by rw [hs] at z; cases z
 refine⟨_,rfl,_,_,rfl,ix.seq,fR _,trivial,?_⟩
 refine⟨_,rfl,_,rfl,_,rfl,ws,ls,S,x,Bs,rfl,wb,by omega,ix,hB,no,fun _=>⟨fun r=>⟨trivial,?_⟩,fun r=>⟨trivial,?_⟩⟩⟩
 ·refine⟨_,rfl,_,_,rfl,ix.seq,fR _,_,rfl,.inr ⟨_,_,rfl,rfl⟩,xZ 1 _ _,_,rfl,?_⟩
  show if (!bQ 3 (.lst (tups Bs)) (.lst (tups Bs)))=true then _ else _
  rw [aa5,bh3 rfl]
  refine aW ⟨_,rfl,_,rfl,_,rfl,ws,ls,S,x,Bs,rfl,wb,hs,ix,_,rfl,?_⟩
  rw [r]
  refine aZ ⟨_,rfl,_,rfl,_,_,rfl,rfl,by show 2<=1000; decide,rfl,.inl ⟨_,_,rfl,rfl⟩,rfl,_,rfl,?_⟩
  show if (!bQ 3 (.tup [.int (S.length:Int),.non]) (.tup [.int ((intz S).length:Int),.non]))=true then _ else _
  rw [aX]
  have e:bQ 3 (.tup [.int (S.length:Int),.non]) (.tup [.int (S.length:Int),.non])=true:=by simp [bQ]
  rw [e]
  exact aW ⟨_,rfl,_,_,_,rfl,rfl,rfl,_,rfl,_,rfl,aW (k _ _)⟩
 ·refine⟨_,rfl,_,_,rfl,ix.seq,fR _,_,rfl,.inr ⟨_,_,rfl,rfl⟩,xZ 1 _ _,_,rfl,?_⟩
  show if (!bQ 3 (.lst (tups Bs)) (.lst (tups Bs)))=true then _ else _
  rw [aa5,bh3 rfl]
  refine aW ⟨_,rfl,_,rfl,_,rfl,ws,ls,S,x,Bs,rfl,wb,hs,ix,_,rfl,?_⟩
  rw [r]
  refine aW ⟨_,rfl,by show 3<=1000; decide,rfl,by show 2<=1000; decide,lR trivial trivial,.inl ⟨_,_,rfl,rfl⟩,rfl,_,rfl,?_⟩
  exact aW (k _ _)
end
theorem ba0:cG af6 ["script","web","many","cell","seeds","paper","blocks","told_seeds","told_paper","handed","found"] yO:=by
 rintro xs Q ⟨ns,rfl,hl,q⟩
 refine⟨_,rfl,ns,16,rfl,hl,by decide,by decide,fun n ws ls n0 n1 w=>⟨trivial,?_⟩⟩
 have wl:=w.many
 have wb:Wb ws ls:=w.wb (by omega)
 have few:=wb.few
 refine⟨_,rfl,_,_,_,rfl,rfl,rfl,_,_,rfl,rfl,trivial,?_⟩
 rw [aX]
 refine⟨_,rfl,_,ns,3,rfl,.inl rfl,by decide,trivial,?_⟩
 generalize ns.getD (3:Int).toNat 0=c
 have rs:=aX8 ws.length
 refine⟨_,rfl,_,rfl,(ws.length:Int),rfl,by omega,by omega,ws,ls,_,rng ws.length,rfl,wb,.inl (by rw [bl3,V1]),by rw [iC]; omega,fun _=>⟨fun _=>⟨trivial,?_⟩,fun z=>by rw [ae1] at z; cases z⟩,fun z=>by rw [rs] at z; cases z⟩
 have hS:aP ws.length (dG ws ls (rng ws.length) (rng ws.length))=true:=ac4 _ _ rs
 have f:bX ws ls (dG ws ls (rng ws.length) (rng ws.length))=true:=ac5 _ _ (ae1 ws ls)
 have g:∀ h ∈ dG ws ls (rng ws.length) (rng ws.length),bX ws ls (dZ (dG ws ls (rng ws.length) (rng ws.length)) h)=false:=fun h hh=>
  ac6 _ _ h (tD _ _ h hh) hh _ (fun y hy=>(ad7.mp hy).1) fun z=>(ad7.mp z).2 rfl
 dsimp only
 generalize dG ws ls (rng ws.length) (rng ws.length)=S at hS f g
 have sl:=fI hS
 have no:∀ {p:Prop},aP ws.length S=false->p:=fun h=>by rw [hS] at h; cases h
 refine⟨_,rfl,_,rfl,ws,ls,_,S,rfl,wb,.inl rfl,by omega,fun _=>⟨fun _=>⟨trivial,?_⟩,fun z=>?_⟩,no⟩
 rotate_left
 ·rcases z with z | ⟨h,hh,z⟩
  ·rw [f] at z; cases z
  ·rw [g h hh] at z; cases z
 have eP:ad9 ws ls S=tups (S.map fun h=>iG ws ls (dZ S h)):=rfl
 have bl:(S.map fun h=>iG ws ls (dZ S h)).length=S.length:=bh4 _
 have hB:∀ B ∈ S.map (fun h=>iG ws ls (dZ S h)),B.length<=40:=fun B hB=>by
  obtain ⟨h,_,rfl⟩:=bn2.mp hB
  have:=fI (aX4 (ws:=ws) (ls:=ls) (ns:=dZ S h))
  omega
 rw [eP]
 generalize S.map (fun h=>iG ws ls (dZ S h))=Bs at bl hB
 have hB2:∀ B ∈ Bs,B.length<=1000:=fun B h=>bk3 (hB B h) (by decide)
 refine⟨_,rfl,_,rfl,_,rfl,ws.length,c,rfl,fun ys yl yn=>?_⟩
 refine⟨_,rfl,ws,ls,ys,_,Bs,rfl,wb,by omega,.inl rfl,hB2,fun _=>?_,fun z=>by rw [yn] at z; cases z⟩
 refine⟨by show 3<=1000; decide,rfl,by show 2<=1000; decide,lR trivial trivial,.inl ⟨_,_,rfl,rfl⟩,rfl,_,rfl,?_⟩
 refine aW ?_
 refine⟨_,rfl,_,rfl,_,rfl,Bs,_,c,rfl,by omega,hB,fun ne=>?_,fun Cs cl hC=>⟨trivial,?_⟩⟩
 ·cases Bs with
  | nil=>exact absurd rfl ne
  | cons a r=>rw [bk2] at bl; show (0:Int) < (ws.length:Int); omega
 have hC2:∀ C ∈ Cs,C.length<=1000:=fun C h=>bk3 (hC C h) (by decide)
 obtain ⟨Es,hE,sE⟩:=aZ9 Cs (some 1) none
 have hE2:∀ C ∈ Es,C.length<=1000:=fun C h=>hC2 C (sE C h)
 have s1:aP ws.length (S.drop 1)=true:=pG.set ⟨(fG (cQ hS).1).sublist (List.drop_sublist _ _),fun x hx=>(cQ hS).2 x (bw7 hx)⟩
 have fS:flats [PV.tup (intz S),.tup (tups Bs)]=true:=by
  show (flats (intz S) && (flats (tups Bs) && true))=true
  rw [cW,fR]; rfl
 have fC:flats [PV.tup (intz S),.tup (tups Cs)]=true:=by
  show (flats (intz S) && (flats (tups Cs) && true))=true
  rw [cW,fR]; rfl
 have cS:fB (intz S) (some 1) none=intz (S.drop 1):=aK3 S (by decide)
 refine⟨_,rfl,_,rfl,by show 2<=1000; decide,fS,_,rfl,_,rfl,⟨_,_,rfl,rfl,fR _,by show 2<=1000; decide,fC,_,rfl,_,rfl,by show 2<=1000; decide,lR trivial trivial,_,rfl,_,rfl,_,rfl,cW _,_,rfl,_,rfl,_,rfl,fR _,by show 2<=1000; decide,lR trivial trivial,by show 4<=1000; decide,?_,_,rfl,(fun z=>by cases z),fun i ρ=>∃ y7 y8 y9 y10:Option Slot,ρ = [some (.sh (flat (.scr ns)) (.scr ns)),some (.sh true (bC ws ls)),si (ws.length:Nat),si c,some (.sh true (.tup (intz S))),some (.sh true (.tup (tups Bs))),some (.sh true (.lst (tups Cs))),y7,y8,y9,y10],⟨none,none,none,none,rfl⟩,?_,?_⟩,fun ns z=>by cases z⟩
 ·intro p hp
  simp only [bh1,bh5,bl0] at hp
  rcases hp with rfl | rfl | rfl | rfl <;> trivial
 ·rintro i y ρ hy ⟨y7,y8,y9,y10,rfl⟩
  have hy:=bj1 hy
  simp only [bn6,List.map_nil,bh1,bh5,bl0] at hy
  rcases hy with rfl | rfl | rfl | rfl
  ·exact⟨_,_,rfl,tP wb hS (.inl rfl) hB2 fun y9 y10=>⟨_,_,y9,y10,rfl⟩⟩
  ·exact⟨_,_,rfl,tP wb hS (.inl rfl) hC2 fun y9 y10=>⟨_,_,y9,y10,rfl⟩⟩
  ·exact⟨_,_,rfl,tP wb hS (.inr rfl) hC2 fun y9 y10=>⟨_,_,y9,y10,rfl⟩⟩
  ·refine⟨.tup (intz (S.drop 1)),.lst (tups Es),?_,tP wb s1 (.inr rfl) hE2 fun y9 y10=>⟨_,_,y9,y10,rfl⟩⟩
   show PV.tup [.tup (fB (intz S) (some 1) none),.lst (fB (tups Cs) (some 1) none)]=_
   rw [cS,hE]
 ·rintro ρ ⟨y7,y8,y9,y10,rfl⟩
  exact⟨trivial,q⟩
end Core
namespace K_k37
open PySem PySem.W L2 PP Core
theorem _root_.L2.FnScope.au {N P:List Str}{s:Scope} (a:s.kind=.function:=by rfl) (b:s.isCoroutine=false:=by rfl) (c:s.isGenerator=false:=by rfl) (d:N.Nodup:=by decide +kernel) (e:N.take P.length=P:=by rfl) (f:∀ x∈P,s.names.lookup x=some .local∨s.names.lookup x=some .cell:=by decide +kernel) (g:∀ y∈s.names,y.2≠.free:=by decide +kernel):FnScope N P s:=⟨a,b,c,d,e,f,g⟩
def aY (i:Nat):Stmt:=PySem.Challenge.pw_kindleweb_k37_own_papers_judged.main.body.getD i (.Pass ⟨0,0,0,0⟩)
structure FK (K:Frag) (n:Str) (i:Nat) (f:Addr) (d:FuncData):Prop where
 a:nsIn K mainGlobals n=some (some (.ref f))
 F:e9 K n n (aY i) f d
structure FM (K:Frag) (mg:Str->Option Value) (n:Str) (i:Nat) (f:Addr) (d:FuncData):Prop where
 F:e9 K n n (aY i) f d
 m:mg n=some (.ref f)
theorem FK.M {K:Frag}{mg:Str->Option Value}{n:Str}{i:Nat}{f:Addr}{d:FuncData}{h:Heap} (z:FK K n i f d) (X:K.In h) (G:h.Ns mainGlobals mg):FM K mg n i f d:=⟨z.F,mg_of X G z.a⟩
abbrev Hb (x:Str) (ps:List Str) (i:Nat):Prop:=∀ (kV doc pm:Value) (an:Option Addr) (cdv ct:Value) (us:List Value),us.length=ps.length->bindArgs (fnOf x x (j8 (aY i)) (e8 (aY i)) (aQ (aY i)) .none kV doc pm an cdv ct) ⟨us,[]⟩=pure (ps.zip us)
theorem tQ {A:Around}{k:Nat} (hr:bZ k A):A.units+3 < cLine:=by have:=hr.units; omega
section
variable {P : Program} {w : World} {K : Frag} {mg : Str → Option Value} {base : Heap} {f : Addr} {fd : FuncData} {k i : Nat} {x : Str} {ps N : List Str}
theorem Df.au {p:bH} (F:FM K mg x i f fd) (S:FnScope N ps (aQ (aY i))) (body:∀ (cdv:Value) (A:Around) (outer:List Env) (s:Shared) (H:Hp) (E:XK),bZ k (A.deeper (PyProof.Rows.envOfC x (aQ (aY i)) s.heap.objs.size f cdv))->∃ t,eC (cZ dD P w K mg base N x (aQ (aY i)) f cdv A outer s H E).nox (e8 (aY i)) t/\∀ xs Q,p xs Q->t { nx:=fun _=>Q .non,rt:=Q } (fD N xs)) (hb:Hb x ps i:=by intro _ _ _ _ _ _ us hl; first | (obtain ⟨_,rfl⟩:=mW hl; rfl) | (obtain ⟨_,_,rfl⟩:=xX hl; rfl) | (obtain ⟨_,_,_,rfl⟩:=xY hl; rfl) | (obtain ⟨_,_,_,_,rfl⟩:=Z4 hl; rfl) | (obtain ⟨_,_,_,_,_,rfl⟩:=us5 hl; rfl)) (len:∀ xs Q,p xs Q->xs.length=ps.length:=by intro xs Q h; repeat (first | (obtain ⟨rfl,_⟩:=h; rfl) | (obtain ⟨_,h⟩:=h))):Df P w K mg base (k+1) x ps p:=
 Df.of F.F F.m S hb len body
theorem bD.au {p:cR} (F:FM K mg x i f fd) (S:FnScope N ps (aQ (aY i))) (t:(Str->Prop)->aL) (rd:∀ Ep xs Q,p Ep xs Q->t Ep { nx:=fun _=>Q .non,rt:=Q } (fD N xs)) (body:∀ (cdv:Value) (A:Around) (outer:List Env) (s:Shared) (H:Hp) (E:XK) (Ep:Str->Prop),bZ k (A.deeper (PyProof.Rows.envOfC x (aQ (aY i)) s.heap.objs.size f cdv))->mM (cZ (dQ P w) P w K mg base N x (aQ (aY i)) f cdv A outer s H E) (EX K H Ep)->eC (cZ (dQ P w) P w K mg base N x (aQ (aY i)) f cdv A outer s H E) (e8 (aY i)) (t Ep)) (hb:Hb x ps i:=by intro _ _ _ _ _ _ us hl; first | (obtain ⟨_,rfl⟩:=mW hl; rfl) | (obtain ⟨_,_,rfl⟩:=xX hl; rfl) | (obtain ⟨_,_,_,rfl⟩:=xY hl; rfl) | (obtain ⟨_,_,_,_,rfl⟩:=Z4 hl; rfl) | (obtain ⟨_,_,_,_,_,rfl⟩:=us5 hl; rfl)) (len:∀ Ep xs Q,p Ep xs Q->xs.length=ps.length:=by intro Ep xs Q h; repeat (first | (obtain ⟨rfl,_⟩:=h; rfl) | (obtain ⟨_,h⟩:=h))):bD P w K mg base (k+1) x ps p:=
 bD.of F.F F.m S hb t len rd body
end
section
variable {P : Program} {w : World} {K : Frag} {mg : Str → Option Value} {base : Heap} {f : Addr} {fd : FuncData}
theorem nd2:(["ahead","behind"]:List Str).Nodup:=by decide +kernel
abbrev af7:Stmt:=aY 6
theorem scR:FnScope ["things"] ["things"] (aQ af7):=.au
theorem yP {ns:List Int}{i:Nat}{x y:V} (h1:(ns.map V.int)[i]? = some x) (h2:((ns.map V.int).drop 1)[i]? = some y):∃ p q:Int,x = .int p/\y = .int q/\(ns.zip (ns.drop 1))[i]? = some (p,q):=by
 rw [bh9] at h1
 rw [<- List.map_drop,bh9] at h2
 cases e1:ns[i]? with
 | none=>rw [e1] at h1; cases h1
 | some p=>
  cases e2:(ns.drop 1)[i]? with
  | none=>rw [e2] at h2; cases h2
  | some q=>
   rw [e1] at h1; rw [e2] at h2
   exact⟨p,q,(bj9 h1).symm,(bj9 h2).symm,List.getElem?_zip_eq_some.mpr ⟨e1,e2⟩⟩
theorem ba1 (B:Bt mg) (F:e9 K "rises" "rises" af7 f fd):cI P w K mg base dD 1 f fd ["things"] (U9 K):=by
 refine F.ok scR (fun vs H Q E h=>?_) (fun cdv A outer s H vs Q E hr h=>?_)
 ·obtain ⟨a,ns,rfl,_⟩:=h
  rfl
 obtain ⟨a,ns,rfl,hS,hn,q⟩:=h
 have lz:((ns.map V.int).drop 1).length<=sizeLine:=bm2 (i4 (by rw [bp8,bh4]; omega))
 have lz2:((ns.map V.int).drop 1).length<=(ns.map V.int).length:=by rw [bp8]; omega
 have lz3:(ns.zip (ns.drop 1)).length=((ns.map V.int).drop 1).length:=by rw [List.length_zip,bp8,bp8,bh4]; omega
 rcases hS with hS | hS
 ·refine⟨_,kK (lT (nL (vE rfl) rfl B.all PyProof.Rows.boot_all (cD (E9 (N:=["ahead","behind"]) (fr:=[none,none]) rfl (dE.of rfl rfl) (av6 rfl B.zip (cD (pv 0) (cD (uM J0 (pv 0) (uL kI) uK) cT)))
   ⟨fun _ _ _ _=>show PG _ _ (nE K 2 (iZ (dS 0) (iZ (dS 1) nD))) from lV rfl (g9 (eW (i:=0) nd2 rfl (Or.inl rfl) (.inr rfl)) (g9 (eW (i:=1) nd2 rfl (Or.inl rfl) (.inr rfl)) lU)),fun _ _ _ _=>nX,fun _ _ _ _=>uA pU (pv 0) (pv 1) (gB _)⟩) cT))),?_⟩
  refine⟨_,rfl,_,rfl,1,rfl,a,_,rfl,hS,fun p hp=>?_,fun e=>?_⟩
  ·have s1:=bB hp (.tup (dI (ns.map V.int) (some 1) none))
   have hb:aF K (upd H p (.tup (dI (ns.map V.int) (some 1) none))) p ((ns.map V.int).drop 1):=aF.of (by rw [bE,vH])
   refine⟨a,p,_,_,rfl,s1.tup hS,hb,vG (G9 (s1.tup hS) hb lz2) (fun i acc _=>acc=((ns.zip (ns.drop 1)).take i).map fun (p:Int × Int)=>V.bl (decide (p.1 < p.2))) lz (fun _ _=>rfl) (fun _ _ _ _ _ h=>h) (fun i x acc D H' hi hR c hP=>?_) (fun D acc H' hD sm hDa hlen hP=>?_)⟩
   ·obtain ⟨T,x1,y1,rfl,hT,h1,h2⟩:=hR
    obtain ⟨m,k,rfl,rfl,hz⟩:=yP h1 h2
    refine⟨T,_,rfl,aF.of hT,rfl,_,_,rfl,_,_,rfl,rfl,((Wk.refl _).set (i:=0) rfl).set (i:=1) rfl,o0 ⟨_,rfl,_,rfl,_,_,rfl,rfl,c.yes (aB.refl _) ?_⟩⟩
    rw [p5 hz,hP]
   ·refine⟨D,(ns.zip (ns.drop 1)).map fun (p:Int × Int)=>decide (p.1 < p.2),rfl,aH.of ?_,q _ (s1.trans sm)⟩
    rw [hDa,hP,<- lz3,bk7,bt3]; rfl
  ·have hb:aF K H a ((ns.map V.int).drop 1):=by
    have:(ns.map V.int).drop 1=ns.map V.int:=by rw [<- vH]; exact e
    rw [this]; exact hS
   refine⟨a,a,_,_,rfl,hS,hb,vG (G9 hS hb lz2) (fun i acc _=>acc=((ns.zip (ns.drop 1)).take i).map fun (p:Int × Int)=>V.bl (decide (p.1 < p.2))) lz (fun _ _=>rfl) (fun _ _ _ _ _ h=>h) (fun i x acc D H' hi hR c hP=>?_) (fun D acc H' hD sm hDa hlen hP=>?_)⟩
   ·obtain ⟨T,x1,y1,rfl,hT,h1,h2⟩:=hR
    obtain ⟨m,k,rfl,rfl,hz⟩:=yP h1 h2
    refine⟨T,_,rfl,aF.of hT,rfl,_,_,rfl,_,_,rfl,rfl,((Wk.refl _).set (i:=0) rfl).set (i:=1) rfl,o0 ⟨_,rfl,_,rfl,_,_,rfl,rfl,c.yes (aB.refl _) ?_⟩⟩
    rw [p5 hz,hP]
   ·refine⟨D,(ns.zip (ns.drop 1)).map fun (p:Int × Int)=>decide (p.1 < p.2),rfl,aH.of ?_,q _ sm⟩
    rw [hDa,hP,<- lz3,bk7,bt3]; rfl
 ·refine⟨_,kK (lT (nL (vE rfl) rfl B.all PyProof.Rows.boot_all (cD (E9 (N:=["ahead","behind"]) (fr:=[none,none]) rfl (dE.of rfl rfl) (aw2 rfl B.zip (cD (pv 0) (cD (uM B4 (pv 0) (uL kI) uK) cT)))
   ⟨fun _ _ _ _=>show PG _ _ (nE K 2 (iZ (dS 0) (iZ (dS 1) nD))) from lV rfl (g9 (eW (i:=0) nd2 rfl (Or.inl rfl) (.inr rfl)) (g9 (eW (i:=1) nd2 rfl (Or.inl rfl) (.inr rfl)) lU)),fun _ _ _ _=>nX,fun _ _ _ _=>uA pU (pv 0) (pv 1) (gB _)⟩) cT))),?_⟩
  refine⟨_,rfl,_,rfl,1,rfl,a,_,rfl,hS,fun p hp=>?_⟩
  have s1:=bB hp (.lst (dI (ns.map V.int) (some 1) none))
  have hb:aH K (upd H p (.lst (dI (ns.map V.int) (some 1) none))) p ((ns.map V.int).drop 1):=aH.of (by rw [bE,vH])
  refine⟨a,p,_,_,rfl,s1.seq hS,hb,vG (aw3 (s1.seq hS) hb lz2) (fun i acc _=>acc=((ns.zip (ns.drop 1)).take i).map fun (p:Int × Int)=>V.bl (decide (p.1 < p.2))) lz (fun _ _=>rfl) (fun _ _ _ _ _ h=>h) (fun i x acc D H' hi hR c hP=>?_) (fun D acc H' hD sm hDa hlen hP=>?_)⟩
  ·obtain ⟨T,x1,y1,rfl,hT,h1,h2⟩:=hR
   obtain ⟨m,k,rfl,rfl,hz⟩:=yP h1 h2
   refine⟨T,_,rfl,aF.of hT,rfl,_,_,rfl,_,_,rfl,rfl,((Wk.refl _).set (i:=0) rfl).set (i:=1) rfl,o0 ⟨_,rfl,_,rfl,_,_,rfl,rfl,c.yes (aB.refl _) ?_⟩⟩
   rw [p5 hz,hP]
  ·refine⟨D,(ns.zip (ns.drop 1)).map fun (p:Int × Int)=>decide (p.1 < p.2),rfl,aH.of ?_,q _ (s1.trans sm)⟩
   rw [hDa,hP,<- lz3,bk7,bt3]; rfl
abbrev af8:Stmt:=aY 8
theorem tR:FnScope ["web","around","one","other"] ["web"] (aQ af8):=.au
theorem ba2 (F:e9 K "near_lists" "near_lists" af8 f fd):cI P w K mg base dD 1 f fd ["web"] sC:=by
 refine F.ok tR (fun vs H Q E h=>?_) (fun cdv A outer s H vs Q E hr h=>?_)
 ·obtain ⟨v,ws,ls,rfl,_⟩:=h
  rfl
 obtain ⟨v,ws,ls,rfl,W,hn,hm,hin,q⟩:=h
 refine⟨_,kJ (F0 (i:=1) (N:=["want"]) (fr:=[none]) rfl (dE.of rfl rfl) (pR (j6 nP (pv 0) kI (fun _ _=>rfl)))
   ⟨fun _ _ _ _=>eW (i:=0) (bn5 _ _) rfl (Or.inl rfl) (.inr rfl),fun _ _ _ _=>nX,fun _ _ _ _=>pV cT⟩ tR.nd rfl rfl rfl)
  (kJ (tZ PassesOwn.never rfl (pR (j6 nP (pv 0) kI (fun _ _=>rfl))) (lV (n:=2) rfl (g9 (eW (i:=2) tR.nd rfl (Or.inl rfl) (.inr rfl)) (g9 (eW (i:=3) tR.nd rfl (Or.inl rfl) (.inr rfl)) lU)) )
   (kJ (kL (lY br4 bs9 bt0 lZ (j6 nO (pv 1) (pv 2) (fun _ _=>rfl)) (cD (pv 3) cT)))
   (kK (kL (lY br4 bs9 bt0 lZ (j6 nO (pv 1) (pv 3) (fun _ _=>rfl)) (cD (pv 2) cT))))))
  (kK (lT (pv 1)))),?_⟩
 obtain ⟨a,p,q',ys,rfl,ha,hp,hq,hL⟩:=W.at_
 have lw:(ws.map V.int).length=ws.length:=bh4 _
 refine⟨_,rfl,a,_,_,_,rfl,rfl,aF.of ha,rfl,p,rfl,⟨_,aF.of hp⟩,F5 (F3 (aF.of hp)) (fun i acc H'=>∃ bs:List Addr,acc=bs.map V.ref/\bs.length=i/\bs.Nodup/\∀ b ∈ bs,H b=none/\H' b=some (.lst [])) (by rw [lw]; exact bm2 (m3 hn))
  (fun D hD=>⟨[],rfl,rfl,List.nodup_nil,fun _ z=>nomatch z⟩) (fun i x acc D H' hx c hPv=>?_) (fun D acc H' hD sm hDa hlen hPv=>?_)⟩
 ·obtain ⟨bs,rfl,hbl,nd,hb⟩:=hPv
  refine⟨G0 (n:=none),o0 ⟨bl6 _,fun r hr'=>?_⟩⟩
  have hrD:r ≠ D:=fun z=>by rw [z,c.acc] at hr'; cases hr'
  have hrH:H r=none:=c.same.free hr'
  refine c.yes (bB hr' _) ⟨bs ++ [r],by simp,by simp [hbl],?_,fun b hm=>?_⟩
  ·refine bu2.mpr ⟨nd,bn5 _ _,fun b hb1 b' hb2 e=>?_⟩
   rw [bh8.mp hb2] at e
   rw [e] at hb1
   rw [(hb r hb1).2] at hr'; cases hr'
  ·rcases bk0.mp hm with hm | hm
   ·have hbD:b ≠ D:=fun z=>by
     rw [z] at hm
     have:=(hb D hm).2
     rw [c.acc] at this
     have:bs.map V.ref = []:=by injection this with e1; injection e1
     have:bs = []:=List.map_eq_nil_iff.mp this
     rw [this] at hm; simp at hm
    refine⟨(hb b hm).1,?_⟩
    rw [aR hbD,aR (cH (hb b hm).2 hr')]
    exact (hb b hm).2
   ·rw [bh8.mp hm]
    exact⟨hrH,by rw [aR hrD,bE]⟩
 ·obtain ⟨bs,rfl,hbl,nd,hb⟩:=hPv
  rw [lw] at hbl
  have R0:hZ H H' D bs (fun k=>bL (ls.take 0) k):=by
   refine⟨hD,fun b hm=>⟨(hb b hm).1,fun z=>?_⟩,nd,hDa,fun k b hk=>(hb b (bj1 hk)).2,sm⟩
   rw [z] at hm
   have:=(hb D hm).2
   rw [hDa] at this
   have:bs.map V.ref = []:=by injection this with e1; injection e1
   have:bs = []:=List.map_eq_nil_iff.mp this
   rw [this] at hm; simp at hm
  have lL:=hL.length
  refine⟨_,rfl,a,_,_,_,rfl,rfl,aF.of (sm _ _ ha),rfl,q',rfl,⟨_,aF.of (sm _ _ hq)⟩,zJ (K:=K) (a:=q') (xs:=ys) (fun i σ H2=>∃ x y:Option V,σ = [some (.ref a),some (.ref D),x,y]/\hZ H H2 D bs (fun k=>bL (ls.take i) k))
   ⟨none,none,rfl,R0⟩ (fun i σ H2 _ ⟨_,_,_,R⟩=>aF.of (R.same _ _ hq)) ?_ ?_⟩
  ·rintro i y σ H2 hi ⟨x1,x2,rfl,R⟩
   obtain ⟨l,b,hl,rfl,hbt⟩:=hL.get hi
   have hlm:l ∈ ls:=bj1 hl
   obtain ⟨⟨h1,h2⟩,h3,h4⟩:=hin l hlm
   have k1:l.1.toNat < bs.length:=by omega
   have k2:l.2.toNat < bs.length:=by omega
   have e1:bs[l.1.toNat]? = some (bs[l.1.toNat]):=bg8 k1
   have e2:bs[l.2.toNat]? = some (bs[l.2.toNat]):=bg8 k2
   refine⟨b,_,rfl,aF.of (R.same _ _ hbt),rfl,_,_,rfl,_,_,rfl,rfl,?_⟩
   refine⟨_,rfl,_,rfl,D,_,_,.ref bs[l.1.toNat],rfl,rfl,aH.of R.row,kT h1 (by rw [bh9,e1]; rfl),m6 (aH.of (R.rows _ _ e1)),_,rfl,_,_,_,rfl,rfl,R.rows _ _ e1,?_,?_⟩
   ·rw [bh4]
    have:=jV (ls.take i) (l.1.toNat:Nat)
    rw [bn9] at this
    exact i4 (by omega)
   ·have R1:=R.app e1 l.2
    refine⟨_,rfl,_,rfl,D,_,_,.ref bs[l.2.toNat],rfl,rfl,aH.of R1.row,kT h3 (by rw [bh9,e2]; rfl),m6 (aH.of (R1.rows _ _ e2)),_,rfl,_,_,_,rfl,rfl,R1.rows _ _ e2,?_,?_⟩
    ·rw [bh4]
     have:=jV (ls.take i) (l.2.toNat:Nat)
     rw [bn9] at this
     split
     ·rw [bi3,bm4]; exact i4 (by omega)
     ·exact i4 (by omega)
    ·have R2:=R1.app e2 l.1
     refine⟨_,_,rfl,R2.congr fun k hk=>?_⟩
     rw [G2 hl]
     have c1:(k=l.1.toNat) ↔ l.1=(k:Int):=by omega
     have c2:(k=l.2.toNat) ↔ l.2=(k:Int):=by omega
     by_cases d1:k=l.1.toNat
     ·by_cases d2:k=l.2.toNat
      ·rw [if_pos d2,if_pos d1,if_pos (c1.mp d1),if_pos (c2.mp d2)]; simp
      ·rw [if_neg d2,if_pos d1,if_pos (c1.mp d1),if_neg (fun z=>d2 (c2.mpr z))]; simp
     ·by_cases d2:k=l.2.toNat
      ·rw [if_pos d2,if_neg d1,if_neg (fun z=>d1 (c1.mpr z)),if_pos (c2.mp d2)]; simp
      ·rw [if_neg d2,if_neg d1,if_neg (fun z=>d1 (c1.mpr z)),if_neg (fun z=>d2 (c2.mpr z))]; simp
  ·
   rintro σ H2 ⟨x1,x2,rfl,R⟩
   refine⟨_,rfl,q D bs H2 hbl ?_⟩
   rw [lL,bk7] at R
   exact R
abbrev af9:Stmt:=aY 40
theorem tS:FnScope ["web","beside","one","other"] ["web"] (aQ af9):=.au
theorem ba3 (F:e9 K "_law_beside" "_law_beside" af9 f fd):cI P w K mg base dD 1 f fd ["web"] sC:=by
 refine F.ok tS (fun vs H Q E h=>?_) (fun cdv A outer s H vs Q E hr h=>?_)
 ·obtain ⟨v,ws,ls,rfl,_⟩:=h
  rfl
 obtain ⟨v,ws,ls,rfl,W,hn,hm,hin,q⟩:=h
 refine⟨_,kJ (F0 (i:=1) (N:=["hearth"]) (fr:=[none]) rfl (dE.of rfl rfl) (pR (j6 nP (pv 0) kI (fun _ _=>rfl)))
   ⟨fun _ _ _ _=>eW (i:=0) (bn5 _ _) rfl (Or.inl rfl) (.inr rfl),fun _ _ _ _=>nX,fun _ _ _ _=>pV cT⟩ tS.nd rfl rfl rfl)
  (kJ (tZ PassesOwn.never rfl (pR (j6 nP (pv 0) kI (fun _ _=>rfl))) (lV (n:=2) rfl (g9 (eW (i:=2) tS.nd rfl (Or.inl rfl) (.inr rfl)) (g9 (eW (i:=3) tS.nd rfl (Or.inl rfl) (.inr rfl)) lU)) )
   (kJ (kL (lY br4 bs9 bt0 lZ (j6 nO (pv 1) (pv 2) (fun _ _=>rfl)) (cD (pv 3) cT)))
   (kK (kL (lY br4 bs9 bt0 lZ (j6 nO (pv 1) (pv 3) (fun _ _=>rfl)) (cD (pv 2) cT))))))
  (kK (lT (pv 1)))),?_⟩
 obtain ⟨a,p,q',ys,rfl,ha,hp,hq,hL⟩:=W.at_
 have lw:(ws.map V.int).length=ws.length:=bh4 _
 refine⟨_,rfl,a,_,_,_,rfl,rfl,aF.of ha,rfl,p,rfl,⟨_,aF.of hp⟩,F5 (F3 (aF.of hp)) (fun i acc H'=>∃ bs:List Addr,acc=bs.map V.ref/\bs.length=i/\bs.Nodup/\∀ b ∈ bs,H b=none/\H' b=some (.lst [])) (by rw [lw]; exact bm2 (m3 hn))
  (fun D hD=>⟨[],rfl,rfl,List.nodup_nil,fun _ z=>nomatch z⟩) (fun i x acc D H' hx c hPv=>?_) (fun D acc H' hD sm hDa hlen hPv=>?_)⟩
 ·obtain ⟨bs,rfl,hbl,nd,hb⟩:=hPv
  refine⟨G0 (n:=none),o0 ⟨bl6 _,fun r hr'=>?_⟩⟩
  have hrD:r ≠ D:=fun z=>by rw [z,c.acc] at hr'; cases hr'
  have hrH:H r=none:=c.same.free hr'
  refine c.yes (bB hr' _) ⟨bs ++ [r],by simp,by simp [hbl],?_,fun b hm=>?_⟩
  ·refine bu2.mpr ⟨nd,bn5 _ _,fun b hb1 b' hb2 e=>?_⟩
   rw [bh8.mp hb2] at e
   rw [e] at hb1
   rw [(hb r hb1).2] at hr'; cases hr'
  ·rcases bk0.mp hm with hm | hm
   ·have hbD:b ≠ D:=fun z=>by
     rw [z] at hm
     have:=(hb D hm).2
     rw [c.acc] at this
     have:bs.map V.ref = []:=by injection this with e1; injection e1
     have:bs = []:=List.map_eq_nil_iff.mp this
     rw [this] at hm; simp at hm
    refine⟨(hb b hm).1,?_⟩
    rw [aR hbD,aR (cH (hb b hm).2 hr')]
    exact (hb b hm).2
   ·rw [bh8.mp hm]
    exact⟨hrH,by rw [aR hrD,bE]⟩
 ·obtain ⟨bs,rfl,hbl,nd,hb⟩:=hPv
  rw [lw] at hbl
  have R0:hZ H H' D bs (fun k=>bL (ls.take 0) k):=by
   refine⟨hD,fun b hm=>⟨(hb b hm).1,fun z=>?_⟩,nd,hDa,fun k b hk=>(hb b (bj1 hk)).2,sm⟩
   rw [z] at hm
   have:=(hb D hm).2
   rw [hDa] at this
   have:bs.map V.ref = []:=by injection this with e1; injection e1
   have:bs = []:=List.map_eq_nil_iff.mp this
   rw [this] at hm; simp at hm
  have lL:=hL.length
  refine⟨_,rfl,a,_,_,_,rfl,rfl,aF.of (sm _ _ ha),rfl,q',rfl,⟨_,aF.of (sm _ _ hq)⟩,zJ (K:=K) (a:=q') (xs:=ys) (fun i σ H2=>∃ x y:Option V,σ = [some (.ref a),some (.ref D),x,y]/\hZ H H2 D bs (fun k=>bL (ls.take i) k))
   ⟨none,none,rfl,R0⟩ (fun i σ H2 _ ⟨_,_,_,R⟩=>aF.of (R.same _ _ hq)) ?_ ?_⟩
  ·rintro i y σ H2 hi ⟨x1,x2,rfl,R⟩
   obtain ⟨l,b,hl,rfl,hbt⟩:=hL.get hi
   have hlm:l ∈ ls:=bj1 hl
   obtain ⟨⟨h1,h2⟩,h3,h4⟩:=hin l hlm
   have k1:l.1.toNat < bs.length:=by omega
   have k2:l.2.toNat < bs.length:=by omega
   have e1:bs[l.1.toNat]? = some (bs[l.1.toNat]):=bg8 k1
   have e2:bs[l.2.toNat]? = some (bs[l.2.toNat]):=bg8 k2
   refine⟨b,_,rfl,aF.of (R.same _ _ hbt),rfl,_,_,rfl,_,_,rfl,rfl,?_⟩
   refine⟨_,rfl,_,rfl,D,_,_,.ref bs[l.1.toNat],rfl,rfl,aH.of R.row,kT h1 (by rw [bh9,e1]; rfl),m6 (aH.of (R.rows _ _ e1)),_,rfl,_,_,_,rfl,rfl,R.rows _ _ e1,?_,?_⟩
   ·rw [bh4]
    have:=jV (ls.take i) (l.1.toNat:Nat)
    rw [bn9] at this
    exact i4 (by omega)
   ·have R1:=R.app e1 l.2
    refine⟨_,rfl,_,rfl,D,_,_,.ref bs[l.2.toNat],rfl,rfl,aH.of R1.row,kT h3 (by rw [bh9,e2]; rfl),m6 (aH.of (R1.rows _ _ e2)),_,rfl,_,_,_,rfl,rfl,R1.rows _ _ e2,?_,?_⟩
    ·rw [bh4]
     have:=jV (ls.take i) (l.2.toNat:Nat)
     rw [bn9] at this
     split
     ·rw [bi3,bm4]; exact i4 (by omega)
     ·exact i4 (by omega)
    ·have R2:=R1.app e2 l.1
     refine⟨_,_,rfl,R2.congr fun k hk=>?_⟩
     rw [G2 hl]
     have c1:(k=l.1.toNat) ↔ l.1=(k:Int):=by omega
     have c2:(k=l.2.toNat) ↔ l.2=(k:Int):=by omega
     by_cases d1:k=l.1.toNat
     ·by_cases d2:k=l.2.toNat
      ·rw [if_pos d2,if_pos d1,if_pos (c1.mp d1),if_pos (c2.mp d2)]; simp
      ·rw [if_neg d2,if_pos d1,if_pos (c1.mp d1),if_neg (fun z=>d2 (c2.mpr z))]; simp
     ·by_cases d2:k=l.2.toNat
      ·rw [if_pos d2,if_neg d1,if_neg (fun z=>d1 (c1.mpr z)),if_pos (c2.mp d2)]; simp
      ·rw [if_neg d2,if_neg d1,if_neg (fun z=>d1 (c1.mpr z)),if_neg (fun z=>d2 (c2.mpr z))]; simp
  ·
   rintro σ H2 ⟨x1,x2,rfl,R⟩
   refine⟨_,rfl,q D bs H2 hbl ?_⟩
   rw [lL,bk7] at R
   exact R
theorem ba4:FnScope ["web"] ["web"] (aQ (aY 7)):=.au
theorem ba5 (B:Bt mg) (F:FM K mg "hearths_in" 7 f fd)  : Df P w K mg base 1 "hearths_in" ["web"] iR:=
 Df.au F ba4 (fun cdv A outer s H E hr=>by
  exact⟨(S6),(aK (bG (cP B (a7 (bO (qv 0) aI) aA)))),aI3⟩)
theorem ag0:FnScope ["hearths","inside","hearth"] ["hearths"] (aQ (aY 12)):=.au
theorem ba6 (B:Bt mg) (F:FM K mg "marked" 12 f fd)  : Df P w K mg base 1 "marked" ["hearths"] iD:=
 Df.au F ag0 (fun cdv A outer s H E hr=>by
  have nd:=ag0.nd
  have hu:=nW hr
  exact⟨(T6),(aM (jJ (i:=1) nd N2)
   (aM (iP 2 nd (eF (qv 0))
    (aK (N5 hu (i:=1) (qv 2) cK)))
   (aK (k7 1)))),aI8⟩)
theorem ba7:FnScope ["hearths","inside"] ["hearths","inside"] (aQ (aY 13)):=.au
theorem ba8 (B:Bt mg) (F:FM K mg "count_inside" 13 f fd)  : Df P w K mg base 1 "count_inside" ["hearths","inside"] kC:=
 Df.au F ba7 (fun cdv A outer s H E hr=>by
  have hu:=nW hr
  exact⟨(T7),(aK (bG (cP B (a7 (jL (N:=["hearth","inside"]) (fr:=[none,some 1]) (eF (qv 0)) (fun _ _ _ _=>(aB8 hu (qv 0) (qv 1))) (fun _ _ _ _=>(qv 0))) aA)))),aI9⟩)
theorem ba9:FnScope ["script","k"] ["script","k"] (aQ (aY 35)):=.au
theorem bb0 (B:Bt mg) (F:FM K mg "_law_cell_at" 35 f fd)  : Df P w K mg base 1 "_law_cell_at" ["script","k"] iU:=
 Df.au F ba9 (fun cdv A outer s H E hr=>by
  exact⟨(U1),(aM (bV (N1 (qv 1) (cP B (a7 (qv 0) aA))) (aK (bG (bO (qv 0) (qv 1)))) cO)
   (aK (bG aI))),aJ4⟩)
theorem ag1:FnScope ["number","k","turn"] ["number","k"] (aQ (aY 36)):=.au
theorem bb1 (B:Bt mg) (F:FM K mg "_law_mixed" 36 f fd)  : Df P w K mg base 1 "_law_mixed" ["number","k"] pJ:=
 Df.au F ag1 (fun cdv A outer s H E hr=>by
  have nd:=ag1.nd
  exact⟨(ab5),(aM (b9 (i:=2) nd (cL (eS (eS (eS (cL (qv 0) aI) (oN (oN aI (qv 1)) (qv 1))) (oN aI (qv 1))) aI) aI))
   (aM (b9 (i:=2) nd (cL (oN (qv 2) aI) aI))
   (aK (bG (cL (oN (qv 2) (qv 2)) aI))))),aV3⟩)
theorem bb2:FnScope ["found"] ["found"] (aQ (aY 37)):=.au
theorem bb3 (B:Bt mg) (F:FM K mg "_law_whole" 37 f fd)  : Df P w K mg base 1 "_law_whole" ["found"] mR:=
 Df.au F bb2 (fun cdv A outer s H E hr=>by
  exact⟨(U2 K),(aK (bG (lC (aD2 B (qv 0)) (oQ (aC3 (aD3 B (qv 0))))))),aJ5 (xF K).ii (xF K).ib⟩)
theorem ag2:FnScope ["many","number","far","some"] ["many","number"] (aQ (aY 45)):=.au
theorem bb4 (B:Bt mg) (F:FM K mg "_law_bad_set" 45 f fd)  : Df P w K mg base 1 "_law_bad_set" ["many","number"] tF:=
 Df.au F ag2 (fun cdv A outer s H E hr=>by
  have nd:=ag2.nd
  exact⟨(ad0),(aM (b9 (i:=2) nd (cL (jH (qv 1) aI) (M9 aI aI)))
   (aM (b9 (i:=3) nd (i9 (a7 (dO (a7 (mF (rB aI) (qv 2)) aA)) (a7 (dO (a7 (qv 0) aA)) (a7 (dO (a7 (eS (qv 0) (qv 2)) aA)) (a7 (dO (a7 aI (a7 aI aA))) (a7 (dO (a7 aI (a7 aI aA))) (a7 (dO (a7 (rB aI) (a7 aI aA))) aA))))))))
   (aK (bG (bO (qv 3) (cL (qv 1) (cP B (a7 (qv 3) aA)))))))),aW8⟩)
theorem ag3:FnScope ["paper","many","cell","blocks","place","block","hearth","far"] ["paper","many","cell"] (aQ (aY 46)):=.au
theorem bb5 (B:Bt mg) (F:FM K mg "_law_spoiled" 46 f fd)  : Df P w K mg base 1 "_law_spoiled" ["paper","many","cell"] tO:=
 Df.au F ag3 (fun cdv A outer s H E hr=>by
  have nd:=ag3.nd
  exact⟨(af3),(aM (jJ (i:=3) nd (wB B (a7 (qv 0) aA)))
   (aM (bV (lB (lA (gL (cP B (a7 (qv 3) aA)) aI) (mG (gL (cL (qv 2) aI) aI)))) (aK (bG (aL6 (qv 3) (i9 (a7 (dO aA) aA))))) cO)
   (aM (b9 (i:=4) nd (cL (jH (qv 2) aI) (cP B (a7 (qv 3) aA))))
   (aM (b9 (i:=5) nd (bO (qv 3) (qv 4)))
   (aM (b9 (i:=6) nd (cL (jH (qv 2) aI) (qv 1)))
   (aM (b9 (i:=7) nd (cL (jH (qv 2) aI) (M9 aI aI)))
   (aM (bV (gL (cL (qv 2) aI) aI) (aK (aT5 3 (qv 4))) (aK (bV (gL (cL (qv 2) aI) aI) (aK (aY5 3 (mF (qv 4) aI) (qv 4) (dO (a7 (qv 5) (a7 (bO (qv 3) (mF (qv 4) aI)) aA))))) (aK (bV (gL (cL (qv 2) aI) aI) (aK (k8 (i:=3) (qv 4) (dO aA))) (aK (bV (gL (cL (qv 2) aI) aI) (aK (k8 (i:=3) (qv 4) (iA B (a7 (jL (N:=["other","hearth"]) (fr:=[none,some 6]) (eF (qv 5)) (fun _ _ _ _=>(w9 (qv 0) (qv 1))) (fun _ _ _ _=>(qv 0))) aA)))) (aK (bV (gL (cL (qv 2) aI) aI) (aK (k8 (i:=3) (qv 4) (iA B (a7 (aL4 B (a7 (xM (qv 5) (dO (a7 (qv 6) aA))) aA)) aA)))) (aK (bV (gL (cL (qv 2) aI) aI) (aK (k8 (i:=3) (qv 4) (xM (qv 5) (dO (a7 (eS (qv 1) (qv 7)) aA))))) (aK (bV (gL (cL (qv 2) aI) aI) (aK (k8 (i:=3) (qv 4) (xM (dO (a7 (mF (rB aI) (qv 7)) aA)) (qv 5)))) cO)))))))))))))
   (aK (k7 3))))))))),aZ8⟩)
theorem bb6:FnScope ["web","number"] ["web","number"] (aQ (aY 9)):=.au
theorem bb7 (B:Bt mg) (F:FM K mg "is_hearth" 9 f fd) (d_hearths_in:Df P w K mg base 1 "hearths_in" ["web"] iR):Df P w K mg base 2 "is_hearth" ["web","number"] rX:=
 Df.au F bb6 (fun cdv A outer s H E hr=>by
  exact⟨(S7),(aK (bG (lC (N0 (qv 1) aI) (oQ (aB6 (qv 1) (bA d_hearths_in hr (a7 (qv 0) aA))))))),aI4⟩)
theorem bb8:FnScope ["hearths","inside"] ["hearths","inside"] (aQ (aY 14)):=.au
theorem bb9 (B:Bt mg) (F:FM K mg "count_outside" 14 f fd) (d_count_inside:Df P w K mg base 1 "count_inside" ["hearths","inside"] kC):Df P w K mg base 2 "count_outside" ["hearths","inside"] sH:=
 Df.au F bb8 (fun cdv A outer s H E hr=>by
  exact⟨(W9),(aK (bG (mF (cP B (a7 (qv 0) aA)) (bA d_count_inside hr (a7 (qv 0) (a7 (qv 1) aA)))))),aO0⟩)
theorem ag4:FnScope ["hearths","some","gone"] ["hearths","some"] (aQ (aY 15)):=.au
theorem bc0 (B:Bt mg) (F:FM K mg "without" 15 f fd) (d_marked:Df P w K mg base 1 "marked" ["hearths"] iD):Df P w K mg base 2 "without" ["hearths","some"] kD:=
 Df.au F ag4 (fun cdv A outer s H E hr=>by
  have nd:=ag4.nd
  have hu:=nW hr
  exact⟨(X0),(aM (b9 (i:=2) nd (bA d_marked hr (a7 (qv 1) aA)))
   (aK (bG (iA B (a7 (jL (N:=["hearth","gone"]) (fr:=[none,some 2]) (eF (qv 0)) (fun _ _ _ _=>(aB9 hu (qv 0) (qv 1))) (fun _ _ _ _=>(qv 0))) aA))))),aO1⟩)
theorem bc1:FnScope ["web","around","burning","hearth"] ["web","around","burning","hearth"] (aQ (aY 20)):=.au
theorem bc2 (B:Bt mg) (F:FM K mg "can_kindle" 20 f fd) (d_count_inside:Df P w K mg base 1 "count_inside" ["hearths","inside"] kC):Df P w K mg base 2 "can_kindle" ["web","around","burning","hearth"] rZ:=
 Df.au F bc1 (fun cdv A outer s H E hr=>by
  have hu:=nW hr
  exact⟨(T8),(aK (bG (lC (aC0 hu (qv 3) (qv 2)) (oQ (N0 (bA d_count_inside hr (a7 (bO (qv 1) (qv 3)) (a7 (qv 2) aA))) (bO (bO (qv 0) aI) (qv 3))))))),aJ0⟩)
theorem ag5:FnScope ["script","most","number"] ["script","most"] (aQ (aY 38)):=.au
theorem bc3 (B:Bt mg) (F:FM K mg "_law_hearths" 38 f fd) (d__law_cell_at:Df P w K mg base 1 "_law_cell_at" ["script","k"] iU):Df P w K mg base 2 "_law_hearths" ["script","most"] sZ:=
 Df.au F ag5 (fun cdv A outer s H E hr=>by
  have nd:=ag5.nd
  exact⟨(ab6),(aM (b9 (i:=2) nd (bA d__law_cell_at hr (a7 (qv 0) (a7 aI aA))))
   (aM (bV (gL (cL (qv 2) aI) aI) (aK (bG (N8 B rfl (a7 (qv 1) (a7 (aC7 B rfl (a7 aI (a7 (mF (cP B (a7 (qv 0) aA)) aI) aA))) aA))))) cO)
   (aM (bV (gL (cL (qv 2) aI) aI) (aK (bG (cL (eS (jH (qv 2) aI) aI) (eS (qv 1) aI)))) cO)
   (aK (bG (cL (eS (jH (qv 2) aI) aI) (eS (N8 B rfl (a7 aI (a7 (qv 1) aA))) aI))))))),aV4⟩)
theorem ag6:FnScope ["web","seeds","beside","burning","left","hearth","count"] ["web","seeds"] (aQ (aY 41)):=.au
theorem bc4 (B:Bt mg) (F:FM K mg "_law_burning" 41 f fd) (d__law_beside:Df P w K mg base 1 "_law_beside" ["web"] t7):Df P w K mg base 2 "_law_burning" ["web","seeds"] t8:=
 Df.au F ag6 (fun cdv A outer s H E hr=>by
  have nd:=ag6.nd
  exact⟨(ac2),(aM (b9 (i:=2) nd (bA d__law_beside hr (a7 (qv 0) aA)))
   (aM (jJ (i:=3) nd (wJ (N:=["hearth","seeds"]) (fr:=[none,some 1]) (lE rfl B.range (cP B (a7 (bO (qv 0) aI) aA))) (fun _ _ _ _=>(O1 (qv 0) (qv 1)))))
   (aM (b9 (i:=4) nd cK)
   (aM (N4 PassesOwn.never (fE (qv 4))
    (aM (b9 (i:=4) nd cK)
    (aK (iP 5 nd (lE rfl B.range (cP B (a7 (bO (qv 0) aI) aA)))
     (aM (b9 (i:=6) nd (cP B (a7 (jL (N:=["other","burning"]) (fr:=[none,some 3]) (eF (bO (qv 2) (qv 5))) (fun _ _ _ _=>(oP (bO (qv 1) (qv 0)))) (fun _ _ _ _=>(qv 0))) aA)))
     (aK (bV (lB (aC2 (fQ (oP (bO (qv 3) (qv 5)))) (aC1 (w6 (qv 6) (bO (bO (qv 0) aI) (qv 5)))))) (aM (k8 (i:=3) (qv 5) cK)
      (aK (b9 (i:=4) nd cK))) cO)))))))
   (aK (k7 3)))))),aW2⟩)
theorem ag7:FnScope ["found","many","last","hearth"] ["found","many"] (aQ (aY 43)):=.au
theorem bc5 (B:Bt mg) (F:FM K mg "_law_is_set" 43 f fd) (d__law_whole:Df P w K mg base 1 "_law_whole" ["found"] mR):Df P w K mg base 2 "_law_is_set" ["found","many"] tL:=
 Df.au F ag7 (fun cdv A outer s H E hr=>by
  have nd:=ag7.nd
  exact⟨(ae8 K),(aM (bV (fQ (fE (aD4 B (qv 0)))) (aK (bG cK)) cO)
   (aM (b9 (i:=2) nd (rB aI))
   (aM (iP 3 nd (eF (qv 0))
    (aM (bV (lB (lA (fQ (fE (bA d__law_whole hr (a7 (qv 3) aA)))) (lA (aB7 (qv 3) (qv 2)) (mG (w6 (qv 3) (qv 1)))))) (aK (bG cK)) cO)
    (aK (b9 (i:=2) nd (qv 3)))))
   (aK (bG cK))))),aZ2 (xF K).tt⟩)
theorem ag8:FnScope ["web","block","beside","hearth"] ["web","block"] (aQ (aY 44)):=.au
theorem bc6 (B:Bt mg) (F:FM K mg "_law_is_cold" 44 f fd) (d__law_beside:Df P w K mg base 1 "_law_beside" ["web"] t7):Df P w K mg base 2 "_law_is_cold" ["web","block"] tM:=
 Df.au F ag8 (fun cdv A outer s H E hr=>by
  have nd:=ag8.nd
  exact⟨(ae9),(aM (b9 (i:=2) nd (bA d__law_beside hr (a7 (qv 0) aA)))
   (aM (iP 3 nd (eF (qv 1))
    (aK (bV (w6 (cP B (a7 (jL (N:=["other","block"]) (fr:=[none,some 1]) (eF (bO (qv 2) (qv 3))) (fun _ _ _ _=>(aC9 (qv 0) (qv 1))) (fun _ _ _ _=>(qv 0))) aA)) (bO (bO (qv 0) aI) (qv 3))) (aK (bG cK)) cO)))
   (aK (bG cK)))),aZ3⟩)
theorem bc7:FnScope ["web","numbers"] ["web","numbers"] (aQ (aY 10)):=.au
theorem bc8 (B:Bt mg) (F:FM K mg "is_set" 10 f fd) (d_rises:Df P w K mg base 1 "rises" ["things"] x6) (d_is_hearth:Df P w K mg base 2 "is_hearth" ["web","number"] rX):Df P w K mg base 3 "is_set" ["web","numbers"] mO:=
 Df.au F bc7 (fun cdv A outer s H E hr=>by
  exact⟨(S8),(aK (bG (lC (bA d_rises hr (a7 (qv 1) aA)) (oQ (aC6 B rfl (a7 (wJ (N:=["number","web"]) (fr:=[none,some 0]) (eF (qv 1)) (fun _ _ _ _=>(bA d_is_hearth hr (a7 (qv 1) (a7 (qv 0) aA))))) aA)))))),aI5⟩)
theorem bc9:FnScope ["web","some"] ["web","some"] (aQ (aY 16)):=.au
theorem bd0 (B:Bt mg) (F:FM K mg "all_but" 16 f fd) (d_without:Df P w K mg base 2 "without" ["hearths","some"] kD) (d_hearths_in:Df P w K mg base 1 "hearths_in" ["web"] iR):Df P w K mg base 3 "all_but" ["web","some"] sV:=
 Df.au F bc9 (fun cdv A outer s H E hr=>by
  exact⟨(aa0),(aK (bG (bA d_without hr (a7 (aJ7 B (bA d_hearths_in hr (a7 (qv 0) aA))) (a7 (qv 1) aA))))),aS6⟩)
theorem bd1:FnScope ["web","around","burning"] ["web","around","burning"] (aQ (aY 19)):=.au
theorem bd2 (B:Bt mg) (F:FM K mg "kindling" 19 f fd) (d_hearths_in:Df P w K mg base 1 "hearths_in" ["web"] iR) (d_can_kindle:Df P w K mg base 2 "can_kindle" ["web","around","burning","hearth"] rZ):Df P w K mg base 3 "kindling" ["web","around","burning"] p9:=
 Df.au F bd1 (fun cdv A outer s H E hr=>by
  exact⟨(T9),(aK (bG (iA B (a7 (jL (N:=["hearth","web","around","burning"]) (fr:=[none,some 0,some 1,some 2]) (lE rfl B.range (bA d_hearths_in hr (a7 (qv 0) aA))) (fun _ _ _ _=>(fE (bA d_can_kindle hr (a7 (qv 1) (a7 (qv 2) (a7 (qv 3) (a7 (qv 0) aA))))))) (fun _ _ _ _=>(qv 0))) aA)))),aJ1⟩)
theorem ag9:FnScope ["web","around","block","inside"] ["web","around","block"] (aQ (aY 26)):=.au
theorem bd3 (B:Bt mg) (F:FM K mg "staying" 26 f fd) (d_marked:Df P w K mg base 1 "marked" ["hearths"] iD) (d_count_outside:Df P w K mg base 2 "count_outside" ["hearths","inside"] sH):Df P w K mg base 3 "staying" ["web","around","block"] sJ:=
 Df.au F ag9 (fun cdv A outer s H E hr=>by
  have nd:=ag9.nd
  exact⟨(X1),(aM (b9 (i:=3) nd (bA d_marked hr (a7 (qv 2) aA)))
   (aK (bG (iA B (a7 (jL (N:=["hearth","inside","around","web"]) (fr:=[none,some 3,some 1,some 0]) (eF (qv 2)) (fun _ _ _ _=>(N1 (bA d_count_outside hr (a7 (bO (qv 2) (qv 0)) (a7 (qv 1) aA))) (bO (bO (qv 3) aI) (qv 0)))) (fun _ _ _ _=>(qv 0))) aA))))),aO2⟩)
theorem ah0:FnScope ["script","most","many","sparse","digits","cells","k","links","counts","other","number","one","draw","wants"] ["script","most"] (aQ (aY 39)):=.au
theorem bd4 (B:Bt mg) (F:FM K mg "_law_web" 39 f fd) (d__law_hearths:Df P w K mg base 2 "_law_hearths" ["script","most"] sZ) (d__law_cell_at:Df P w K mg base 1 "_law_cell_at" ["script","k"] iU) (d__law_mixed:Df P w K mg base 1 "_law_mixed" ["number","k"] pJ):Df P w K mg base 3 "_law_web" ["script","most"] tH:=
 Df.au F ah0 (fun cdv A outer s H E hr=>by
  have nd:=ah0.nd
  exact⟨(ad2),(aM (b9 (i:=2) nd (bA d__law_hearths hr (a7 (qv 0) (a7 (qv 1) aA))))
   (aM (b9 (i:=3) nd (eS aI (cL (bA d__law_cell_at hr (a7 (qv 0) (a7 aI aA))) aI)))
   (aM (b9 (i:=4) nd (rA (cL (jH (bA d__law_cell_at hr (a7 (qv 0) (a7 aI aA))) aI) aI) aI))
   (aM (jJ (i:=5) nd (wF (qv 0) (rC aI) (rC (eS aI (qv 2)))))
   (aM (iP 6 nd (aC5 rfl B.range (cP B (a7 (qv 5) aA)) (qv 2))
    (aK (wA 5 (bA d__law_mixed hr (a7 (bA d__law_cell_at hr (a7 (qv 0) (a7 aI aA))) (a7 (qv 6) aA))))))
   (aM (jJ (i:=7) nd (i9 aA))
   (aM (jJ (i:=8) nd (aN5 (i9 (a7 aI aA)) (qv 2)))
   (aM (iP 9 nd (lE rfl B.range (qv 2))
    (aM (b9 (i:=10) nd (jH (bO (qv 5) (qv 9)) aI))
    (aK (iP 11 nd (lE rfl B.range (qv 9))
     (aM (b9 (i:=12) nd (qv 10))
     (aM (b9 (i:=10) nd (jH (qv 10) (qv 3)))
     (aM (bV (fQ (fE (qv 4))) (aK (b9 (i:=12) nd (bA d__law_mixed hr (a7 (bO (qv 5) (qv 9)) (a7 (eS (qv 11) aI) aA))))) cO)
     (aK (bV (gL (cL (qv 12) (qv 3)) aI) (aM (wA 7 (dO (a7 (qv 11) (a7 (qv 9) aA))))
      (aM (k8 (i:=8) (qv 11) (eS (bO (qv 8) (qv 11)) aI))
      (aK (k8 (i:=8) (qv 9) (eS (bO (qv 8) (qv 9)) aI))))) cO)))))))))
   (aM (aD8 (i:=13) nd (N:=["k","cells","counts"]) (fr:=[none,some 5,some 8]) (lE rfl B.range (qv 2)) (fun _ _ _ _=>(cL (bO (qv 1) (qv 0)) (eS (bO (qv 2) (qv 0)) aI))))
   (aK (bG (dO (a7 (iA B (a7 (qv 13) aA)) (a7 (iA B (a7 (aS0 B (a7 (qv 7) aA)) aA)) aA)))))))))))))),aW9⟩)
theorem bd5:FnScope ["web","seeds"] ["web","seeds"] (aQ (aY 42)):=.au
theorem bd6 (B:Bt mg) (F:FM K mg "_law_lights" 42 f fd) (d__law_burning:Df P w K mg base 2 "_law_burning" ["web","seeds"] t8):Df P w K mg base 3 "_law_lights" ["web","seeds"] t9:=
 Df.au F bd5 (fun cdv A outer s H E hr=>by
  exact⟨(ac3),(aK (bG (rA (cP B (a7 (jL (N:=["fire"]) (fr:=[none]) (eF (bA d__law_burning hr (a7 (qv 0) (a7 (qv 1) aA)))) (fun _ _ _ _=>(fQ (oP (qv 0)))) (fun _ _ _ _=>(qv 0))) aA)) aI))),aW3⟩)
theorem bd7:FnScope ["web","hearths"] ["web","hearths"] (aQ (aY 11)):=.au
theorem bd8 (B:Bt mg) (F:FM K mg "made_set" 11 f fd) (d_is_set:Df P w K mg base 3 "is_set" ["web","numbers"] mO) (x_BadSet:Xc K mg base "BadSet"):bD P w K mg base 4 "made_set" ["web","hearths"] iW:=
 bD.au F bd7 Z3 aR7 (fun cdv A outer s H E Ep hr hX=>by
  exact (aM (bV (fQ (fE (bA d_is_set hr (a7 (qv 0) (a7 (qv 1) aA))))) (aK (pE hX x_BadSet (a7 oM aA))) cO)
   (aK (bG (iA B (a7 (qv 1) aA))))))
theorem ah1:FnScope ["web","seeds","paper","k"] ["web","seeds","paper"] (aQ (aY 47)):=.au
theorem bd9 (B:Bt mg) (F:FM K mg "_law_right" 47 f fd) (d__law_lights:Df P w K mg base 3 "_law_lights" ["web","seeds"] t9) (d__law_is_set:Df P w K mg base 2 "_law_is_set" ["found","many"] tL) (d__law_is_cold:Df P w K mg base 2 "_law_is_cold" ["web","block"] tM):Df P w K mg base 4 "_law_right" ["web","seeds","paper"] tN:=
 Df.au F ah1 (fun cdv A outer s H E hr=>by
  have nd:=ah1.nd
  have hu3:=tQ hr
  exact⟨(af0),(aM (bV (lB (lA (w9 (cP B (a7 (qv 2) aA)) (cP B (a7 (qv 1) aA))) (mG (fQ (fE (bA d__law_lights hr (a7 (qv 0) (a7 (qv 1) aA)))))))) (aK (bG cK)) cO)
   (aM (iP 3 nd (lE rfl B.range (cP B (a7 (qv 1) aA)))
    (aM (bV (lB (lA (fQ (fE (bA d__law_is_set hr (a7 (bO (qv 2) (qv 3)) (a7 (cP B (a7 (bO (qv 0) aI) aA)) aA))))) (mG (fQ (fE (bA d__law_is_cold hr (a7 (qv 0) (a7 (bO (qv 2) (qv 3)) aA)))))))) (aK (bG cK)) cO)
    (aK (bV (oS hu3 (jL (N:=["seed","paper","k"]) (fr:=[none,some 2,some 3]) (eF (qv 1)) (fun _ _ _ _=>(aC8 (qv 0) (bO (qv 1) (qv 2)))) (fun _ _ _ _=>(qv 0))) (i9 (a7 (bO (qv 1) (qv 3)) aA))) (aK (bG cK)) cO))))
   (aK (bG cK)))),aZ5⟩)
theorem ah2:FnScope ["web","seeds","told","burning","around","lit"] ["web","seeds"] (aQ (aY 18)):=.au
theorem be0 (B:Bt mg) (F:FM K mg "rounds" 18 f fd) (d_made_set:bD P w K mg base 4 "made_set" ["web","hearths"] iW) (d_marked:Df P w K mg base 1 "marked" ["hearths"] iD) (d_near_lists:Df P w K mg base 1 "near_lists" ["web"] lM) (d_kindling:Df P w K mg base 3 "kindling" ["web","around","burning"] p9):bD P w K mg base 5 "rounds" ["web","seeds"] sR:=
 bD.au F ah2 Z6 aS2 (fun cdv A outer s H E Ep hr hX=>by
  have nd:=ah2.nd
  exact (aM (jJ (i:=2) nd (i9 (a7 (fX hX d_made_set hr (a7 (qv 0) (a7 (qv 1) aA))) aA)))
   (aM (jJ (i:=3) nd (bA d_marked hr (a7 (bO (qv 2) aI) aA)))
   (aM (b9 (i:=4) nd (bA d_near_lists hr (a7 (qv 0) aA)))
   (aM (b9 (i:=5) nd (bA d_kindling hr (a7 (qv 0) (a7 (qv 4) (a7 (qv 3) aA)))))
   (aM (N4 hX.own (oP (qv 5))
    (aM (wA 2 (qv 5))
    (aM (aD9 3 (bA d_marked hr (a7 (qv 5) aA)))
    (aK (b9 (i:=5) nd (bA d_kindling hr (a7 (qv 0) (a7 (qv 4) (a7 (qv 3) aA)))))))))
   (aK (k7 2))))))))
theorem ah3:FnScope ["web","block","chosen"] ["web","block"] (aQ (aY 25)):=.au
theorem be1 (B:Bt mg) (F:FM K mg "is_cold" 25 f fd) (d_made_set:bD P w K mg base 4 "made_set" ["web","hearths"] iW) (d_staying:Df P w K mg base 3 "staying" ["web","around","block"] sJ) (d_near_lists:Df P w K mg base 1 "near_lists" ["web"] lM):bD P w K mg base 5 "is_cold" ["web","block"] sQ:=
 bD.au F ah3 Z5 aS1 (fun cdv A outer s H E Ep hr hX=>by
  have nd:=ah3.nd
  have hu3:=tQ hr
  exact (aM (b9 (i:=2) nd (fX hX d_made_set hr (a7 (qv 0) (a7 (qv 1) aA))))
   (aK (bG (aD7 hu3 (bA d_staying hr (a7 (qv 0) (a7 (bA d_near_lists hr (a7 (qv 0) aA)) (a7 (qv 2) aA)))) (qv 2))))))
theorem ah4:FnScope ["web","seeds","ranks","rank","lit","hearth"] ["web","seeds"] (aQ (aY 21)):=.au
theorem be2 (B:Bt mg) (F:FM K mg "ranks_of" 21 f fd) (d_rounds:bD P w K mg base 5 "rounds" ["web","seeds"] sR):bD P w K mg base 6 "ranks_of" ["web","seeds"] sS:=
 bD.au F ah4 Z7 aS3 (fun cdv A outer s H E Ep hr hX=>by
  have nd:=ah4.nd
  have hu:=nW hr
  exact (aM (jJ (i:=2) nd N2)
   (aM (wH 3 4 (hp:=hX.own) nd (aN3 rfl B.enum (fX hX d_rounds hr (a7 (qv 0) (a7 (qv 1) aA))))
    (aK (iP 5 (hp:=hX.own) nd (eF (qv 4))
     (aK (N5 hu (i:=2) (qv 5) (qv 3))))))
   (aK (k7 2)))))
theorem be3:FnScope ["web","inside","seed","block"] ["web","inside","seed","block"] (aQ (aY 33)):=.au
theorem be4 (B:Bt mg) (F:FM K mg "is_own_block" 33 f fd) (d_is_set:Df P w K mg base 3 "is_set" ["web","numbers"] mO) (d_count_inside:Df P w K mg base 1 "count_inside" ["hearths","inside"] kC) (d_is_cold:bD P w K mg base 5 "is_cold" ["web","block"] sQ):Df P w K mg base 6 "is_own_block" ["web","inside","seed","block"] tJ:=
 Df.au F be3 (fun cdv A outer s H E hr=>by
  exact⟨(ae5),(aK (bG (lC (bA d_is_set hr (a7 (qv 0) (a7 (qv 3) aA))) (lC (O1 (qv 2) (qv 3)) (lC (rA (bA d_count_inside hr (a7 (qv 3) (a7 (qv 1) aA))) aI) (oQ (sL d_is_cold hr (a7 (qv 0) (a7 (qv 3) aA))))))))),aY9⟩)
theorem be5:FnScope ["web","seeds"] ["web","seeds"] (aQ (aY 22)):=.au
theorem be6 (B:Bt mg) (F:FM K mg "burnt" 22 f fd) (d_ranks_of:bD P w K mg base 6 "ranks_of" ["web","seeds"] sS):bD P w K mg base 7 "burnt" ["web","seeds"] mX:=
 bD.au F be5 Z8 aS4 (fun cdv A outer s H E Ep hr hX=>by
  exact (aK (bG (iA B (a7 (aP6 B rfl (a7 (fX hX d_ranks_of hr (a7 (qv 0) (a7 (qv 1) aA))) aA)) aA)))))
theorem be7:FnScope ["web","seeds"] ["web","seeds"] (aQ (aY 23)):=.au
theorem be8 (B:Bt mg) (F:FM K mg "lights_all" 23 f fd) (d_burnt:bD P w K mg base 7 "burnt" ["web","seeds"] mX) (d_hearths_in:Df P w K mg base 1 "hearths_in" ["web"] iR):bD P w K mg base 8 "lights_all" ["web","seeds"] kF:=
 bD.au F be7 Z9 aS5 (fun cdv A outer s H E Ep hr hX=>by
  exact (aK (bG (rA (cP B (a7 (fX hX d_burnt hr (a7 (qv 0) (a7 (qv 1) aA))) aA)) (bA d_hearths_in hr (a7 (qv 0) aA))))))
theorem be9:FnScope ["web","seeds"] ["web","seeds"] (aQ (aY 27)):=.au
theorem bf0 (B:Bt mg) (F:FM K mg "cold_rest" 27 f fd) (d_all_but:Df P w K mg base 3 "all_but" ["web","some"] sV) (d_burnt:bD P w K mg base 7 "burnt" ["web","seeds"] mX):bD P w K mg base 8 "cold_rest" ["web","seeds"] sT:=
 bD.au F be9 aa1 aS8 (fun cdv A outer s H E Ep hr hX=>by
  exact (aK (bG (bA d_all_but hr (a7 (qv 0) (a7 (fX hX d_burnt hr (a7 (qv 0) (a7 (qv 1) aA))) aA))))))
theorem ah5:FnScope ["web","seeds","chosen"] ["web","seeds"] (aQ (aY 29)):=.au
theorem bf1 (B:Bt mg) (F:FM K mg "lighting_seeds" 29 f fd) (d_made_set:bD P w K mg base 4 "made_set" ["web","hearths"] iW) (d_lights_all:bD P w K mg base 8 "lights_all" ["web","seeds"] kF) (x_NoSuch:Xc K mg base "NoSuch"):bD P w K mg base 9 "lighting_seeds" ["web","seeds"] nA:=
 bD.au F ah5 ac8 aW5 (fun cdv A outer s H E Ep hr hX=>by
  have nd:=ah5.nd
  exact (aM (b9 (i:=2) nd (fX hX d_made_set hr (a7 (qv 0) (a7 (qv 1) aA))))
   (aM (bV (fQ (fE (fX hX d_lights_all hr (a7 (qv 0) (a7 (qv 2) aA))))) (aK (pE hX x_NoSuch (a7 oM aA))) cO)
   (aK (k7 2)))))
theorem ah6:FnScope ["web","seeds","paper","chosen","inside","seed","block"] ["web","seeds","paper"] (aQ (aY 32)):=.au
theorem bf2 (B:Bt mg) (F:FM K mg "judged_own" 32 f fd) (d_made_set:bD P w K mg base 4 "made_set" ["web","hearths"] iW) (d_lights_all:bD P w K mg base 8 "lights_all" ["web","seeds"] kF) (d_marked:Df P w K mg base 1 "marked" ["hearths"] iD) (d_is_own_block:Df P w K mg base 6 "is_own_block" ["web","inside","seed","block"] tJ) (x_NoPaper:Xc K mg base "NoPaper"):bD P w K mg base 9 "judged_own" ["web","seeds","paper"] tK:=
 bD.au F ah6 ae6 aZ1 (fun cdv A outer s H E Ep hr hX=>by
  have nd:=ah6.nd
  exact (aM (b9 (i:=3) nd (fX hX d_made_set hr (a7 (qv 0) (a7 (qv 1) aA))))
   (aM (bV (lB (lA (w9 (cP B (a7 (qv 2) aA)) (cP B (a7 (qv 3) aA))) (mG (fQ (fE (fX hX d_lights_all hr (a7 (qv 0) (a7 (qv 3) aA)))))))) (aK (pE hX x_NoPaper (a7 oM aA))) cO)
   (aM (b9 (i:=4) nd (bA d_marked hr (a7 (qv 3) aA)))
   (aM (wH 5 6 (hp:=hX.own) nd (aQ7 B (qv 3) (qv 2))
    (aK (bV (fQ (fE (bA d_is_own_block hr (a7 (qv 0) (a7 (qv 4) (a7 (qv 5) (a7 (qv 6) aA))))))) (aK (pE hX x_NoPaper (a7 oM aA))) cO)))
   (aK (bG (cP B (a7 (qv 3) aA)))))))))
theorem ah7:FnScope ["web","seeds","chosen","left","seed","fewer"] ["web","seeds"] (aQ (aY 30)):=.au
theorem bf3 (B:Bt mg) (F:FM K mg "pared" 30 f fd) (d_lighting_seeds:bD P w K mg base 9 "lighting_seeds" ["web","seeds"] nA) (d_without:Df P w K mg base 2 "without" ["hearths","some"] kD) (d_lights_all:bD P w K mg base 8 "lights_all" ["web","seeds"] kF):bD P w K mg base 10 "pared" ["web","seeds"] tE:=
 bD.au F ah7 ac9 aW6 (fun cdv A outer s H E Ep hr hX=>by
  have nd:=ah7.nd
  exact (aM (b9 (i:=2) nd (fX hX d_lighting_seeds hr (a7 (qv 0) (a7 (qv 1) aA))))
   (aM (b9 (i:=3) nd (qv 2))
   (aM (iP 4 (hp:=hX.own) nd (eF (qv 2))
    (aM (b9 (i:=5) nd (bA d_without hr (a7 (qv 3) (a7 (i9 (a7 (qv 4) aA)) aA))))
    (aK (bV (fE (fX hX d_lights_all hr (a7 (qv 0) (a7 (qv 5) aA)))) (aK (b9 (i:=3) nd (qv 5))) cO))))
   (aK (k7 3))))))
theorem ah8:FnScope ["web","seeds","chosen","paper"] ["web","seeds"] (aQ (aY 31)):=.au
theorem bf4 (B:Bt mg) (F:FM K mg "own_paper" 31 f fd) (d_lighting_seeds:bD P w K mg base 9 "lighting_seeds" ["web","seeds"] nA) (d_cold_rest:bD P w K mg base 8 "cold_rest" ["web","seeds"] sT) (d_without:Df P w K mg base 2 "without" ["hearths","some"] kD) (x_NoSuch:Xc K mg base "NoSuch"):bD P w K mg base 10 "own_paper" ["web","seeds"] tI:=
 bD.au F ah8 ae0 aX5 (fun cdv A outer s H E Ep hr hX=>by
  have nd:=ah8.nd
  have hu3:=tQ hr
  exact (aM (b9 (i:=2) nd (fX hX d_lighting_seeds hr (a7 (qv 0) (a7 (qv 1) aA))))
   (aM (b9 (i:=3) nd (iA B (a7 (wJ (N:=["seed","web","chosen"]) (fr:=[none,some 0,some 2]) (eF (qv 2)) (fun _ _ _ _=>(sL d_cold_rest hr (a7 (qv 1) (a7 (bA d_without hr (a7 (qv 2) (a7 (i9 (a7 (qv 0) aA)) aA))) aA))))) aA)))
   (aM (bV (aX2 hu3 (dO aA) (qv 3)) (aK (pE hX x_NoSuch (a7 oM aA))) cO)
   (aK (k7 3))))))
theorem ah9:FnScope ["web","seeds","paper","found","kinds","e"] ["web","seeds","paper"] (aQ (aY 48)):=.au
theorem bf5 (B:Bt mg) (F:FM K mg "_law_judged" 48 f fd) (d_judged_own:bD P w K mg base 9 "judged_own" ["web","seeds","paper"] tK) (cat_HearthError:xS K mg "HearthError") (is_BadSet:pF K mg "BadSet") (is_NoPaper:pF K mg "NoPaper") (is_ValueError:xU K mg):Df P w K mg base 10 "_law_judged" ["web","seeds","paper"] pM:=
 Df.au F ah9 (fun cdv A outer s H E hr=>by
  have nd:=ah9.nd
  exact⟨(af2),(aM (b9 (i:=3) nd oK)
   (aM (b9 (i:=4) nd oK)
   (aM (aR1 5 cat_HearthError nd (aY8 3 d_judged_own hr nd (fun _=>(a7 (qv 0) (a7 (qv 1) (a7 (qv 2) aA))))) (fun _=>(aK (b9 (i:=4) nd (i9 (a7 (Z0 B is_NoPaper (qv 5)) (a7 (Z0 B is_BadSet (qv 5)) (a7 (aR5 B is_ValueError (qv 5)) aA))))))))
   (aK (bG (oR (a7 (qv 3) (a7 (qv 4) aA)))))))),aZ6⟩)
theorem ai0:FnScope ["script","web","many","cell","seeds","paper","blocks","told_seeds","told_paper","handed","found"] ["script"] (aQ (aY 49)):=.au
theorem bf6 (B:Bt mg) (F:e9 K "law" "law" (aY 49) f fd) (d__law_web:Df P w K mg base 3 "_law_web" ["script","most"] tH) (d__law_cell_at:Df P w K mg base 1 "_law_cell_at" ["script","k"] iU) (d_pared:bD P w K mg base 10 "pared" ["web","seeds"] tE) (d_own_paper:bD P w K mg base 10 "own_paper" ["web","seeds"] tI) (d__law_judged:Df P w K mg base 10 "_law_judged" ["web","seeds","paper"] pM) (d__law_bad_set:Df P w K mg base 1 "_law_bad_set" ["many","number"] tF) (d__law_spoiled:Df P w K mg base 1 "_law_spoiled" ["paper","many","cell"] tO) (d__law_right:Df P w K mg base 4 "_law_right" ["web","seeds","paper"] tN) (d__law_whole:Df P w K mg base 1 "_law_whole" ["found"] mR):cI P w K mg base dD 11 f fd ["script"] (oB K yO):=
 aK7 F ai0 (fun xs Q h=>by unfold yO at h; repeat (first | (obtain ⟨rfl,_⟩:=h; rfl) | (obtain ⟨_,h⟩:=h))) (fun cdv A outer s H E hr=>by
  have nd:=ai0.nd
  have hu3:=tQ hr
  exact⟨(af6),(aM (b9 (i:=1) nd (bA d__law_web hr (a7 (qv 0) (a7 aI aA))))
   (aM (b9 (i:=2) nd (cP B (a7 (bO (qv 1) aI) aA)))
   (aM (b9 (i:=3) nd (bA d__law_cell_at hr (a7 (qv 0) (a7 aI aA))))
   (aM (b9 (i:=4) nd (sL d_pared hr (a7 (qv 1) (a7 (aV0 B (qv 2)) aA))))
   (aM (b9 (i:=5) nd (sL d_own_paper hr (a7 (qv 1) (a7 (qv 4) aA))))
   (aM (bV (oS hu3 (bA d__law_judged hr (a7 (qv 1) (a7 (bA d__law_bad_set hr (a7 (qv 2) (a7 (qv 3) aA))) (a7 (qv 5) aA)))) (oR (a7 oK (a7 (i9 (a7 cK (a7 cK (a7 cK aA)))) aA)))) (aK (bG cK)) cO)
   (aM (b9 (i:=6) nd (bA d__law_spoiled hr (a7 (qv 5) (a7 (qv 2) (a7 (qv 3) aA)))))
   (aM (wH 7 8 nd (eF (aY0 (a7 (dO (a7 (qv 4) (a7 (qv 5) aA))) (a7 (dO (a7 (qv 4) (a7 (iA B (a7 (qv 6) aA)) aA))) (a7 (oR (a7 (qv 4) (a7 (qv 6) aA))) (a7 (oR (a7 (wF (qv 4) (rC aI) O4) (a7 (wF (qv 6) (rC aI) O4) aA))) aA))))))
    (aM (b9 (i:=9) nd (wB B (a7 (qv 8) aA)))
    (aM (b9 (i:=10) nd (bA d__law_judged hr (a7 (qv 1) (a7 (qv 7) (a7 (qv 8) aA)))))
    (aM (bV (oS hu3 (wB B (a7 (qv 8) aA)) (qv 9)) (aK (bG cK)) cO)
    (aK (bV (oP (bA d__law_right hr (a7 (qv 1) (a7 (qv 7) (a7 (qv 8) aA))))) (aK (bV (lB (lA (oS hu3 (qv 10) (dO (a7 (cP B (a7 (qv 7) aA)) (a7 oK aA)))) (mG (fQ (fE (bA d__law_whole hr (a7 (bO (qv 10) aI) aA))))))) (aK (bG cK)) cO)) (aK (bV (oS hu3 (qv 10) (oR (a7 oK (a7 (i9 (a7 cK (a7 cK (a7 cK aA)))) aA)))) (aK (bG cK)) cO))))))))
   (aK (bG cK)))))))))),ba0⟩)
end
set_option autoImplicit true in
theorem bf7 {l:OpenLaw}{w:World}{K:Frag}{h:Heap}{mg:Str->Option Value} (X:K.In h) (G:h.Ns mainGlobals mg) (hfa:mg "law" = some (.ref fa))
  (h0:FK K "rises" 6 f0 d0)
  (h1:FK K "hearths_in" 7 f1 d1)
  (h2:FK K "near_lists" 8 f2 d2)
  (h3:FK K "marked" 12 f3 d3)
  (h4:FK K "count_inside" 13 f4 d4)
  (h5:FK K "_law_cell_at" 35 f5 d5)
  (h6:FK K "_law_mixed" 36 f6 d6)
  (h7:FK K "_law_whole" 37 f7 d7)
  (h8:FK K "_law_beside" 40 f8 d8)
  (h9:FK K "_law_bad_set" 45 f9 d9)
  (h10:FK K "_law_spoiled" 46 f10 d10)
  (h11:FK K "is_hearth" 9 f11 d11)
  (h12:FK K "count_outside" 14 f12 d12)
  (h13:FK K "without" 15 f13 d13)
  (h14:FK K "can_kindle" 20 f14 d14)
  (h15:FK K "_law_hearths" 38 f15 d15)
  (h16:FK K "_law_burning" 41 f16 d16)
  (h17:FK K "_law_is_set" 43 f17 d17)
  (h18:FK K "_law_is_cold" 44 f18 d18)
  (h19:FK K "is_set" 10 f19 d19)
  (h20:FK K "all_but" 16 f20 d20)
  (h21:FK K "kindling" 19 f21 d21)
  (h22:FK K "staying" 26 f22 d22)
  (h23:FK K "_law_web" 39 f23 d23)
  (h24:FK K "_law_lights" 42 f24 d24)
  (h25:FK K "made_set" 11 f25 d25)
  (h26:FK K "_law_right" 47 f26 d26)
  (h27:FK K "rounds" 18 f27 d27)
  (h28:FK K "is_cold" 25 f28 d28)
  (h29:FK K "ranks_of" 21 f29 d29)
  (h30:FK K "is_own_block" 33 f30 d30)
  (h31:FK K "burnt" 22 f31 d31)
  (h32:FK K "lights_all" 23 f32 d32)
  (h33:FK K "cold_rest" 27 f33 d33)
  (h34:FK K "lighting_seeds" 29 f34 d34)
  (h35:FK K "judged_own" 32 f35 d35)
  (h36:FK K "pared" 30 f36 d36)
  (h37:FK K "own_paper" 31 f37 d37)
  (h38:FK K "_law_judged" 48 f38 d38)
  (a39:nsIn K mainGlobals "law" = some (some (.ref f39))) (l39:K.lookup f39=some ⟨oc39,od39,.func (fnOf "law" "law" (j8 (aY 49)) (e8 (aY 49)) (aQ (aY 49)) .none kV39 dc39 pm39 an39 cd39 ct39),sl39⟩) (c39:codeIn K cd39 "law" = true) (k39:keepIn K (.ref f39)=true)
  (z_len:nsIn K mainGlobals "len" = some none)
  (z_range:nsIn K mainGlobals "range" = some none)
  (z_tuple:nsIn K mainGlobals "tuple" = some none)
  (z_list:nsIn K mainGlobals "list" = some none)
  (z_sorted:nsIn K mainGlobals "sorted" = some none)
  (z_all:nsIn K mainGlobals "all" = some none)
  (z_any:nsIn K mainGlobals "any" = some none)
  (z_zip:nsIn K mainGlobals "zip" = some none)
  (z_min:nsIn K mainGlobals "min" = some none)
  (z_max:nsIn K mainGlobals "max" = some none)
  (z_sum:nsIn K mainGlobals "sum" = some none)
  (z_isinstance:nsIn K mainGlobals "isinstance" = some none)
  (z_int:nsIn K mainGlobals "int" = some none)
  (z_bool:nsIn K mainGlobals "bool" = some none)
  (z_enumerate:nsIn K mainGlobals "enumerate" = some none)
  {C_HearthError C_BadSet C_NoPaper C_NoSuch:Addr}
  (aX_HE:nsIn K mainGlobals "HearthError" = some (some (.ref C_HearthError)))
  (aX_BS:nsIn K mainGlobals "BadSet" = some (some (.ref C_BadSet)))
  (aX_NP:nsIn K mainGlobals "NoPaper" = some (some (.ref C_NoPaper)))
  (aX_NS:nsIn K mainGlobals "NoSuch" = some (some (.ref C_NoSuch)))
  (zX_BW:nsIn K mainGlobals "BadWeb" = some none)
  (zX_BO:nsIn K mainGlobals "BadOrder" = some none)
  (zX_BP:nsIn K mainGlobals "BadPrices" = some none)
  (zX_BB:nsIn K mainGlobals "BadBoard" = some none)
  (zX_BD:nsIn K mainGlobals "BadDeed" = some none)
  (zX_NW:nsIn K mainGlobals "NotWood" = some none)
  (zX_TM:nsIn K mainGlobals "TooMany" = some none)
  (zX_NT:nsIn K mainGlobals "NoText" = some none)
  (zX_OR:nsIn K mainGlobals "OddRound" = some none)
  (y_fg:specialIn K (.builtin "object.__class__") "__get__" = some (some (.builtin "getset_descriptor.__get__")))
  (y_ft:takesIn K (.builtin "object.__class__")=some true)
  (z_VE:nsIn K mainGlobals "ValueError" = some none)
  (y1_HE:isClsIn K C_HearthError=true)
  (y2_HE:typeIn K (.ref C_HearthError)=some (.type "type"))
  (y3_HE:findIn K (.ref C_HearthError) "__getattribute__" = some (some (.builtin "BaseException.__getattribute__")))
  (y4_HE:findIn K (.ref C_HearthError) "__getattr__" = some none)
  (y5_HE:findIn K (.ref C_HearthError) "__class__" = some (some (.builtin "object.__class__")))
  (y6_HE:mroIn K C_HearthError (.type "object")=some true)
  (y7_HE:mroIn K C_HearthError (.type "BaseException")=some true)
  (y1_BS:isClsIn K C_BadSet=true)
  (y2_BS:typeIn K (.ref C_BadSet)=some (.type "type"))
  (y3_BS:findIn K (.ref C_BadSet) "__getattribute__" = some (some (.builtin "BaseException.__getattribute__")))
  (y4_BS:findIn K (.ref C_BadSet) "__getattr__" = some none)
  (y5_BS:findIn K (.ref C_BadSet) "__class__" = some (some (.builtin "object.__class__")))
  (y6_BS:mroIn K C_BadSet (.type "object")=some true)
  (y7_BS:mroIn K C_BadSet (.type "BaseException")=some true)
  (y1_NP:isClsIn K C_NoPaper=true)
  (y2_NP:typeIn K (.ref C_NoPaper)=some (.type "type"))
  (y3_NP:findIn K (.ref C_NoPaper) "__getattribute__" = some (some (.builtin "BaseException.__getattribute__")))
  (y4_NP:findIn K (.ref C_NoPaper) "__getattr__" = some none)
  (y5_NP:findIn K (.ref C_NoPaper) "__class__" = some (some (.builtin "object.__class__")))
  (y6_NP:mroIn K C_NoPaper (.type "object")=some true)
  (y7_NP:mroIn K C_NoPaper (.type "BaseException")=some true)
  (y1_NS:isClsIn K C_NoSuch=true)
  (y2_NS:typeIn K (.ref C_NoSuch)=some (.type "type"))
  (y3_NS:findIn K (.ref C_NoSuch) "__getattribute__" = some (some (.builtin "BaseException.__getattribute__")))
  (y4_NS:findIn K (.ref C_NoSuch) "__getattr__" = some none)
  (y5_NS:findIn K (.ref C_NoSuch) "__class__" = some (some (.builtin "object.__class__")))
  (y6_NS:mroIn K C_NoSuch (.type "object")=some true)
  (y7_NS:mroIn K C_NoSuch (.type "BaseException")=some true)
  (sB_HE:subIn K (.ref C_HearthError) (.type "BaseException")=some true)
  (s_BS_HE:subIn K (.ref C_BadSet) (.ref C_HearthError)=some true)
  (s_NP_HE:subIn K (.ref C_NoPaper) (.ref C_HearthError)=some true)
  (s_NS_HE:subIn K (.ref C_NoSuch) (.ref C_HearthError)=some true)
  (sN_BS:subIn K (.type "NoneType") (.ref C_BadSet)=some false)
  (s_NP_BS:subIn K (.ref C_NoPaper) (.ref C_BadSet)=some false)
  (n_NP_BS:(C_NoPaper == C_BadSet)=false)
  (s_NS_BS:subIn K (.ref C_NoSuch) (.ref C_BadSet)=some false)
  (n_NS_BS:(C_NoSuch == C_BadSet)=false)
  (sN_NP:subIn K (.type "NoneType") (.ref C_NoPaper)=some false)
  (s_BS_NP:subIn K (.ref C_BadSet) (.ref C_NoPaper)=some false)
  (n_BS_NP:(C_BadSet == C_NoPaper)=false)
  (s_NS_NP:subIn K (.ref C_NoSuch) (.ref C_NoPaper)=some false)
  (n_NS_NP:(C_NoSuch == C_NoPaper)=false)
  (sV_BS:subIn K (.ref C_BadSet) (.type "ValueError")=some true)
  (sV_NP:subIn K (.ref C_NoPaper) (.type "ValueError")=some true)
  (sV_NS:subIn K (.ref C_NoSuch) (.type "ValueError")=some true)
  (q_BS:excIn K C_BadSet [.type "ValueError",.type "Exception",.type "BaseException",.type "object"] "ValueError.__new__" = true)
  (q_NP:excIn K C_NoPaper [.type "ValueError",.type "Exception",.type "BaseException",.type "object"] "ValueError.__new__" = true)
  (q_NS:excIn K C_NoSuch [.type "ValueError",.type "Exception",.type "BaseException",.type "object"] "ValueError.__new__" = true)
  : ∃ fd:FuncData,(∀ (s:Shared) (v:Value),BindsTo s fd ⟨[v],[]⟩ [("script",v)])/\∀ base:Heap,K.In base->base.Ns mainGlobals mg->cI l.prog w K mg base dD 11 fa fd ["script"] (sF K):=by
 have e:=hfa.symm.trans (mg_of X G a39)
 cases e
 have F39:=as9 (st:=aY 49) l39 c39 k39
 have m39:=mg_of X G a39
 have B:Bt mg:=⟨mg_none_of X G z_len,mg_none_of X G z_range,mg_none_of X G z_tuple,mg_none_of X G z_list,mg_none_of X G z_sorted,mg_none_of X G z_all,mg_none_of X G z_any,mg_none_of X G z_zip,mg_none_of X G z_min,mg_none_of X G z_max,mg_none_of X G z_sum,mg_none_of X G z_isinstance,mg_none_of X G z_int,mg_none_of X G z_bool,mg_none_of X G z_enumerate⟩
 refine⟨fnOf "law" "law" (j8 (aY 49)) (e8 (aY 49)) (aQ (aY 49)) .none kV39 dc39 pm39 an39 cd39 ct39,fun s v=>.of_eq rfl,fun base KB _=>?_⟩
 have XK_HearthError:kE K C_HearthError:=⟨y1_HE,y2_HE,y3_HE,y4_HE,y5_HE,y_fg,y_ft,y6_HE,y7_HE⟩
 have XK_BadSet:kE K C_BadSet:=⟨y1_BS,y2_BS,y3_BS,y4_BS,y5_BS,y_fg,y_ft,y6_BS,y7_BS⟩
 have XK_NoPaper:kE K C_NoPaper:=⟨y1_NP,y2_NP,y3_NP,y4_NP,y5_NP,y_fg,y_ft,y6_NP,y7_NP⟩
 have XK_NoSuch:kE K C_NoSuch:=⟨y1_NS,y2_NS,y3_NS,y4_NS,y5_NS,y_fg,y_ft,y6_NS,y7_NS⟩
 have cat_HearthError:xS K mg "HearthError":=⟨C_HearthError,mg_of X G aX_HE,⟨y1_HE,y2_HE,sB_HE⟩,fun n C h2 h1=>by
  obtain ⟨hm,hb⟩:=sM h2
  simp only [mU,bh1,bh5,bl0] at hm
  rcases hm with rfl | rfl | rfl | rfl | rfl | rfl | rfl | rfl | rfl | rfl | rfl | rfl
  ·rw [zX_BW] at h1; cases h1
  ·rw [aX_BS] at h1; cases h1; exact s_BS_HE
  ·rw [zX_BO] at h1; cases h1
  ·rw [zX_BP] at h1; cases h1
  ·rw [zX_BB] at h1; cases h1
  ·rw [zX_BD] at h1; cases h1
  ·rw [zX_NW] at h1; cases h1
  ·rw [aX_NP] at h1; cases h1; exact s_NP_HE
  ·rw [aX_NS] at h1; cases h1; exact s_NS_HE
  ·rw [zX_TM] at h1; cases h1
  ·rw [zX_NT] at h1; cases h1
  ·rw [zX_OR] at h1; cases h1⟩
 have is_BadSet:pF K mg "BadSet":=⟨C_BadSet,mg_of X G aX_BS,fun z=>(by cases z),(fun n C b h1 h2=>by
  obtain ⟨hm,hb⟩:=sM h2
  simp only [mU,bh1,bh5,bl0] at hm
  rcases hm with rfl | rfl | rfl | rfl | rfl | rfl | rfl | rfl | rfl | rfl | rfl | rfl
  ·rw [zX_BW] at h1; cases h1
  ·rw [aX_BS] at h1; cases h1; rw [hb,show (("BadSet" : Str) == "BadSet" || ("BadSet" : Str) == "HearthError" || ("BadSet" : Str) == "ValueError")=true by decide]; exact⟨XK_BadSet.exc,Z1⟩
  ·rw [zX_BO] at h1; cases h1
  ·rw [zX_BP] at h1; cases h1
  ·rw [zX_BB] at h1; cases h1
  ·rw [zX_BD] at h1; cases h1
  ·rw [zX_NW] at h1; cases h1
  ·rw [aX_NP] at h1; cases h1; rw [hb,show (("NoPaper" : Str) == "BadSet" || ("BadSet" : Str) == "HearthError" || ("BadSet" : Str) == "ValueError")=false by decide]; exact⟨XK_NoPaper.exc,sN XK_BadSet n_NP_BS s_NP_BS⟩
  ·rw [aX_NS] at h1; cases h1; rw [hb,show (("NoSuch" : Str) == "BadSet" || ("BadSet" : Str) == "HearthError" || ("BadSet" : Str) == "ValueError")=false by decide]; exact⟨XK_NoSuch.exc,sN XK_BadSet n_NS_BS s_NS_BS⟩
  ·rw [zX_TM] at h1; cases h1
  ·rw [zX_NT] at h1; cases h1
  ·rw [zX_OR] at h1; cases h1),Z2 XK_BadSet sN_BS⟩
 have is_NoPaper:pF K mg "NoPaper":=⟨C_NoPaper,mg_of X G aX_NP,fun z=>(by cases z),(fun n C b h1 h2=>by
  obtain ⟨hm,hb⟩:=sM h2
  simp only [mU,bh1,bh5,bl0] at hm
  rcases hm with rfl | rfl | rfl | rfl | rfl | rfl | rfl | rfl | rfl | rfl | rfl | rfl
  ·rw [zX_BW] at h1; cases h1
  ·rw [aX_BS] at h1; cases h1; rw [hb,show (("BadSet" : Str) == "NoPaper" || ("NoPaper" : Str) == "HearthError" || ("NoPaper" : Str) == "ValueError")=false by decide]; exact⟨XK_BadSet.exc,sN XK_NoPaper n_BS_NP s_BS_NP⟩
  ·rw [zX_BO] at h1; cases h1
  ·rw [zX_BP] at h1; cases h1
  ·rw [zX_BB] at h1; cases h1
  ·rw [zX_BD] at h1; cases h1
  ·rw [zX_NW] at h1; cases h1
  ·rw [aX_NP] at h1; cases h1; rw [hb,show (("NoPaper" : Str) == "NoPaper" || ("NoPaper" : Str) == "HearthError" || ("NoPaper" : Str) == "ValueError")=true by decide]; exact⟨XK_NoPaper.exc,Z1⟩
  ·rw [aX_NS] at h1; cases h1; rw [hb,show (("NoSuch" : Str) == "NoPaper" || ("NoPaper" : Str) == "HearthError" || ("NoPaper" : Str) == "ValueError")=false by decide]; exact⟨XK_NoSuch.exc,sN XK_NoPaper n_NS_NP s_NS_NP⟩
  ·rw [zX_TM] at h1; cases h1
  ·rw [zX_NT] at h1; cases h1
  ·rw [zX_OR] at h1; cases h1),Z2 XK_NoPaper sN_NP⟩
 have is_ValueError:xU K mg:=⟨mg_none_of X G z_VE,fun z=>(by cases z),(fun n C b h1 h2=>by
  obtain ⟨hm,hb⟩:=sM h2
  simp only [mU,bh1,bh5,bl0] at hm
  rcases hm with rfl | rfl | rfl | rfl | rfl | rfl | rfl | rfl | rfl | rfl | rfl | rfl
  ·rw [zX_BW] at h1; cases h1
  ·rw [aX_BS] at h1; cases h1; rw [hb,show (("BadSet" : Str) == "ValueError" || ("ValueError" : Str) == "HearthError" || ("ValueError" : Str) == "ValueError")=true by decide]; exact⟨XK_BadSet.exc,xW sV_BS⟩
  ·rw [zX_BO] at h1; cases h1
  ·rw [zX_BP] at h1; cases h1
  ·rw [zX_BB] at h1; cases h1
  ·rw [zX_BD] at h1; cases h1
  ·rw [zX_NW] at h1; cases h1
  ·rw [aX_NP] at h1; cases h1; rw [hb,show (("NoPaper" : Str) == "ValueError" || ("ValueError" : Str) == "HearthError" || ("ValueError" : Str) == "ValueError")=true by decide]; exact⟨XK_NoPaper.exc,xW sV_NP⟩
  ·rw [aX_NS] at h1; cases h1; rw [hb,show (("NoSuch" : Str) == "ValueError" || ("ValueError" : Str) == "HearthError" || ("ValueError" : Str) == "ValueError")=true by decide]; exact⟨XK_NoSuch.exc,xW sV_NS⟩
  ·rw [zX_TM] at h1; cases h1
  ·rw [zX_NT] at h1; cases h1
  ·rw [zX_OR] at h1; cases h1),aR6⟩
 have x_BadSet:Xc K mg base "BadSet":=⟨C_BadSet,_,_,_,_,xV KB (mg_of X G aX_BS) q_BS,PySem.F.excBase_ValueError,aX_BS⟩
 have x_NoPaper:Xc K mg base "NoPaper":=⟨C_NoPaper,_,_,_,_,xV KB (mg_of X G aX_NP) q_NP,PySem.F.excBase_ValueError,aX_NP⟩
 have x_NoSuch:Xc K mg base "NoSuch":=⟨C_NoSuch,_,_,_,_,xV KB (mg_of X G aX_NS) q_NS,PySem.F.excBase_ValueError,aX_NS⟩
 have D0:=aJ9 (ba1 (P:=l.prog) (w:=w) (base:=base) B h0.F) (h0.F.binds (ps:=["things"]) fun _ _ _ _ _ _ us hl=>by obtain ⟨_,rfl⟩:=mW hl; rfl) h0.F.kp (mg_of X G h0.a)
 have D1:=ba5 (P:=l.prog) (w:=w) (base:=base) B (h1.M X G)
 have D2:=aK0 (ba2 (P:=l.prog) (w:=w) (mg:=mg) (base:=base) h2.F) (h2.F.binds (ps:=["web"]) fun _ _ _ _ _ _ us hl=>by obtain ⟨_,rfl⟩:=mW hl; rfl) h2.F.kp (mg_of X G h2.a)
 have D3:=ba6 (P:=l.prog) (w:=w) (base:=base) B (h3.M X G)
 have D4:=ba8 (P:=l.prog) (w:=w) (base:=base) B (h4.M X G)
 have D5:=bb0 (P:=l.prog) (w:=w) (base:=base) B (h5.M X G)
 have D6:=bb1 (P:=l.prog) (w:=w) (base:=base) B (h6.M X G)
 have D7:=bb3 (P:=l.prog) (w:=w) (base:=base) B (h7.M X G)
 have D8:=aW0 (ba3 (P:=l.prog) (w:=w) (mg:=mg) (base:=base) h8.F) (h8.F.binds (ps:=["web"]) fun _ _ _ _ _ _ us hl=>by obtain ⟨_,rfl⟩:=mW hl; rfl) h8.F.kp (mg_of X G h8.a)
 have D9:=bb4 (P:=l.prog) (w:=w) (base:=base) B (h9.M X G)
 have D10:=bb5 (P:=l.prog) (w:=w) (base:=base) B (h10.M X G)
 have D11:=bb7 (P:=l.prog) (w:=w) (base:=base) B (h11.M X G) D1
 have D12:=bb9 (P:=l.prog) (w:=w) (base:=base) B (h12.M X G) D4
 have D13:=bc0 (P:=l.prog) (w:=w) (base:=base) B (h13.M X G) D3
 have D14:=bc2 (P:=l.prog) (w:=w) (base:=base) B (h14.M X G) D4
 have D15:=bc3 (P:=l.prog) (w:=w) (base:=base) B (h15.M X G) D5
 have D16:=bc4 (P:=l.prog) (w:=w) (base:=base) B (h16.M X G) D8
 have D17:=bc5 (P:=l.prog) (w:=w) (base:=base) B (h17.M X G) D7
 have D18:=bc6 (P:=l.prog) (w:=w) (base:=base) B (h18.M X G) D8
 have D19:=bc8 (P:=l.prog) (w:=w) (base:=base) B (h19.M X G) D0 D11
 have D20:=bd0 (P:=l.prog) (w:=w) (base:=base) B (h20.M X G) D13 D1
 have D21:=bd2 (P:=l.prog) (w:=w) (base:=base) B (h21.M X G) D1 D14
 have D22:=bd3 (P:=l.prog) (w:=w) (base:=base) B (h22.M X G) D3 D12
 have D23:=bd4 (P:=l.prog) (w:=w) (base:=base) B (h23.M X G) D15 D5 D6
 have D24:=bd6 (P:=l.prog) (w:=w) (base:=base) B (h24.M X G) D16
 have D25:=bd8 (P:=l.prog) (w:=w) (base:=base) B (h25.M X G) D19 x_BadSet
 have D26:=bd9 (P:=l.prog) (w:=w) (base:=base) B (h26.M X G) D24 D17 D18
 have D27:=be0 (P:=l.prog) (w:=w) (base:=base) B (h27.M X G) D25 D3 D2 D21
 have D28:=be1 (P:=l.prog) (w:=w) (base:=base) B (h28.M X G) D25 D22 D2
 have D29:=be2 (P:=l.prog) (w:=w) (base:=base) B (h29.M X G) D27
 have D30:=be4 (P:=l.prog) (w:=w) (base:=base) B (h30.M X G) D19 D4 D28
 have D31:=be6 (P:=l.prog) (w:=w) (base:=base) B (h31.M X G) D29
 have D32:=be8 (P:=l.prog) (w:=w) (base:=base) B (h32.M X G) D31 D1
 have D33:=bf0 (P:=l.prog) (w:=w) (base:=base) B (h33.M X G) D20 D31
 have D34:=bf1 (P:=l.prog) (w:=w) (base:=base) B (h34.M X G) D25 D32 x_NoSuch
 have D35:=bf2 (P:=l.prog) (w:=w) (base:=base) B (h35.M X G) D25 D32 D3 D30 x_NoPaper
 have D36:=bf3 (P:=l.prog) (w:=w) (base:=base) B (h36.M X G) D34 D13 D32
 have D37:=bf4 (P:=l.prog) (w:=w) (base:=base) B (h37.M X G) D34 D33 D13 x_NoSuch
 have D38:=bf5 (P:=l.prog) (w:=w) (base:=base) B (h38.M X G) D35 cat_HearthError is_BadSet is_NoPaper is_ValueError
 exact aK8 (bf6 B F39 D23 D5 D36 D37 D38 D9 D10 D26 D7)
theorem bf8 {l:OpenLaw}{q:Program}{loose:List Str}{XP:(Str->Option Value)->Heap->Prop}{YP:World->Heap->Prop}{d:DefRec}{K:Params->Frag} (hn:l.most=some 63) (hdf:d.params.defaults = [])
  (hY:∀ (w:World) (h:Heap),YP w h->(K w.params).In h)
  (F:∀ (w:World) (mg:Str->Option Value) (fa:Addr) (h:Heap),(K w.params).In h->h.Ns mainGlobals mg->mg d.name=some (.ref fa)->
   ∃ fd:FuncData,(∀ (s:Shared) (u:Value),BindsTo s fd ⟨[u],[]⟩ [("script",u)])/\∀ base:Heap,(K w.params).In base->base.Ns mainGlobals mg->cI l.prog w (K w.params) mg base dD 11 fa fd ["script"] (sF (K w.params))) :
  WalkO q loose XP YP l.row.toRowW d [] (fun f vs=>PySem.call f vs):=
 L2.as7 (n:=63) (k:=11) (x:="script") (CX:=fun _=>dD) (sp:=fun w=>sF (K w.params)) hn (by decide) hdf ⟨rfl,by decide,by decide⟩ hY F (fun _ _ a ns hl hO hS=>⟨a,ns,rfl,aK9 hO hS,hl,fun _=>rfl⟩) fun _ _ _ _ _ z=>z
end K_k37
open PySem PySem.W PyProof.Rows
theorem PySem.W.Fast.te13052408679150730464 : True := trivial
theorem PySem.W.Fast.te16555476440528808052 : True := trivial
theorem PySem.W.Fast.te5369427470323729400 : True := trivial
set_option maxRecDepth 100000 in
set_option maxHeartbeats 0 in
theorem PySem.Challenge.cw_kindleweb_k37_own_papers_judged_holds : PySem.Challenge.rw_kindleweb_k37_own_papers_judged.Holds := by
 w_on; o_law; k_head; (case hw => w_witness2)
 k_fill
 refine K_k37.bf8 (l := PySem.Challenge.rw_kindleweb_k37_own_papers_judged) rfl rfl (fun w h Y => PySem.W.kIn_of Y) ?F
 case F =>
  intro w mg fa h KX G hmg
  refine' K_k37.bf7 KX G hmg ?h0 ?h1 ?h2 ?h3 ?h4 ?h5 ?h6 ?h7 ?h8 ?h9 ?h10 ?h11 ?h12 ?h13 ?h14 ?h15 ?h16 ?h17 ?h18 ?h19 ?h20 ?h21 ?h22 ?h23 ?h24 ?h25 ?h26 ?h27 ?h28 ?h29 ?h30 ?h31 ?h32 ?h33 ?h34 ?h35 ?h36 ?h37 ?h38 ?a39 ?l39 ?c39 ?k39 ?z_len ?z_range ?z_tuple ?z_list ?z_sorted ?z_all ?z_any ?z_zip ?z_min ?z_max ?z_sum ?z_isinstance ?z_int ?z_bool ?z_enumerate ?aX_HE ?aX_BS ?aX_NP ?aX_NS ?zX_BW ?zX_BO ?zX_BP ?zX_BB ?zX_BD ?zX_NW ?zX_TM ?zX_NT ?zX_OR ?y_fg ?y_ft ?z_VE ?y1_HE ?y2_HE ?y3_HE ?y4_HE ?y5_HE ?y6_HE ?y7_HE ?y1_BS ?y2_BS ?y3_BS ?y4_BS ?y5_BS ?y6_BS ?y7_BS ?y1_NP ?y2_NP ?y3_NP ?y4_NP ?y5_NP ?y6_NP ?y7_NP ?y1_NS ?y2_NS ?y3_NS ?y4_NS ?y5_NS ?y6_NS ?y7_NS ?sB_HE ?s_BS_HE ?s_NP_HE ?s_NS_HE ?sN_BS ?s_NP_BS ?n_NP_BS ?s_NS_BS ?n_NS_BS ?sN_NP ?s_BS_NP ?n_BS_NP ?s_NS_NP ?n_NS_NP ?sV_BS ?sV_NP ?sV_NS ?q_BS ?q_NP ?q_NS
  (case h0 | h1 | h2 | h3 | h4 | h5 | h6 | h7 | h8 | h9 | h10 | h11 | h12 | h13 | h14 | h15 | h16 | h17 | h18 | h19 | h20 | h21 | h22 | h23 | h24 | h25 | h26 | h27 | h28 | h29 | h30 | h31 | h32 | h33 | h34 | h35 | h36 | h37 | h38 => exact ⟨by k_is, ⟨⟨_, _, _, _, _, _, _, _, _, rfl, by k_is, by k_is⟩, by k_is⟩⟩)
  (case a39|l39|c39|k39|z_len|z_range|z_tuple|z_list|z_sorted|z_all|z_any|z_zip|z_min|z_max|z_sum|z_isinstance|z_int|z_bool|z_enumerate|aX_HE|aX_BS|aX_NP|aX_NS|zX_BW|zX_BO|zX_BP|zX_BB|zX_BD|zX_NW|zX_TM|zX_NT|zX_OR|y_fg|y_ft|z_VE|y1_HE|y2_HE|y3_HE|y4_HE|y5_HE|y6_HE|y7_HE|y1_BS|y2_BS|y3_BS|y4_BS|y5_BS|y6_BS|y7_BS|y1_NP|y2_NP|y3_NP|y4_NP|y5_NP|y6_NP|y7_NP|y1_NS|y2_NS|y3_NS|y4_NS|y5_NS|y6_NS|y7_NS|sB_HE|s_BS_HE|s_NP_HE|s_NS_HE|sN_BS|s_NP_BS => k_is)
  (case n_NP_BS => decide)
  (case s_NS_BS => k_is)
  (case n_NS_BS => decide)
  (case sN_NP|s_BS_NP => k_is)
  (case n_BS_NP => decide)
  (case s_NS_NP => k_is)
  (case n_NS_NP => decide)
  (case sV_BS|sV_NP|sV_NS => k_is)
  (case q_BS|q_NP|q_NS => k_exc)


