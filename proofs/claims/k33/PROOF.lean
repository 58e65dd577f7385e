import PyProof.Rows.All
import Wide.All
import OpenK.AllK
import Wide.FinOn
import Lean
import PyProof.EqAt
import PyProof.EqKinds
import PyProof.TupleCall
import PyProof.NeKinds
import PyProof.Draws
import PyProof.ZipIter
import PyProof.DictUpdate
import PyProof.AutoSeq1
import PyProof.ListRange
import PyProof.ListMulRoad
import PyProof.FactsAll.tuple_2
import PyProof.Rows.SortShell
import PyProof.EnumFor
import PyProof.EnumMake
import PyProof.EnumStmt
import PyProof.Rows.SortWalk
import KE.KDictList
import PyProof.SumAny
import PyProof.ConsumeWalk
import PyProof.WalksMore
import PyProof.Rows.TupAssign
import PyProof.ExcArgsOwn
import PySem.Challenge.RW_kindleweb_k33_cheapest_seeds
set_option Elab.async false
set_option linter.all false
set_option maxRecDepth 100000
set_option maxHeartbeats 4000000
section
open PySem PySem.Spec PyProof.Rows
def aY9:=@wpAny_bind
def aZ0:=@List.getElem?_eq_getElem
def aZ1:=@Heap.get?_push_of_some
def aZ2:=@List.size_toArray
def aZ3:=@Nat.le_refl
def aZ4:=@List.mem_singleton
def aZ5:=@wpAny_pure
def aZ6:=@List.mem_cons
def aZ7:=@List.getD_eq_getElem?_getD
def aZ8:=@decide_eq_false
def aZ9:=@List.getElem?_eq_some_iff
def ba0:=@wpS_bind
def ba1:=@List.getElem?_map
def ba2:=@decide_eq_true
def ba3:=@List.length_map
def ba4:=@Heap.lt_size
def ba5:=@Nat.lt_of_lt_of_le
def ba6:=@List.not_mem_nil
def ba7:=@Bool.false_ne_true
def ba8:=@List.length_append
def ba9:=@wpS_pure
def bb0:=@List.mem_cons_of_mem
def bb1:=@List.mem_cons_self
def bb2:=@Heap.get?_push_size
def bb3:=@List.mem_append
def bb4:=@List.mem_of_getElem?
def bb8:=@List.getElem?_set_ne
def bb9:=@List.append_assoc
def bc0:=@decide_eq_true_eq
def bc1:=@Option.some.inj
def bc2:=@List.map_append
def bc3:=@List.mem_append_right
def bc4:=@Bool.false_eq_true
def bc5:=@List.mem_filter
def bc6:=@List.take_length
def bc7:=@Nat.ne_of_lt
def bd0:=@List.append_nil
def bd1:=@Nat.lt_or_ge
def bd2:=@List.getElem?_append_left
def bd3:=@List.pairwise_iff_getElem
def bd4:=@Nat.le_trans
def bd5:=@List.length_cons
def bd6:=@List.take_add_one
def bd7:=@or_false
def bd8:=@List.length_set
def bd9:=@List.take_of_length_le
def be0:=@List.mem_map
def be2:=@List.getElem?_append_right
def be3:=@Int.toNat_natCast
def be4:=@Array.getElem_mem
def be5:=@List.take_append_drop
def be6:=@PySem.mem_of_lookup
def be7:=@List.mem_append_left
def be8:=@Nat.zero_le
def be9:=@List.map_cons
def bf1:=@List.pairwise_append
def bf3:=@Bool.and_eq_true
def bf4:=@wpAny_field
def bf5:=@List.pairwise_singleton
def bf7:=@PySem.W.kia_one
def bf8:=@List.length_drop
def bf9:=@List.lookup_cons
def bg0:=@Nat.le_add_right
def bg1:=@List.filter_cons
def bg2:=@List.getElem?_set_self
def bg3:=@Nat.lt_irrefl
def bg4:=@wpAny_setField_rec
def bg5:=@PyProof.Rows.callWith_type1
def bg6:=@List.length_singleton
def bg7:=@Array.length_toList
def bg8:=@Array.toList_append
def bg9:=@Bool.eq_iff_iff
def bh1:=@Int.emod_nonneg
def bh3:=@List.length_take
def bh4:=@wpAny_callSpecial?_slot
def bh5:=@beq_self_eq_true
def bh6:=@wpAny_truthy_bool
def bh7:=@wpAny_holding
def bh9:=@wpAny_mono
def bi0:=@wpS_forRange
def bi1:=@wpAny_call_entry
def bi2:=@List.all_eq_true
def bi3:=@List.replicate_succ
def bi5:=@Array.getElem?_toList
def bi6:=@List.getElem?_cons_succ
def bi7:=@if_false
def bi9:=@Nat.le_of_lt
def bj0:=@Nat.ne_of_gt
def bj1:=@List.getElem_mem
def bj2:=@PySem.F.plain_min_loop
def bj3:=@List.getElem_of_mem
def bj4:=@List.eq_nil_of_length_eq_zero
def bj5:=@List.pairwise_map
def bj6:=@Heap.size_push
def bj7:=@wpAny_seqItems
def bk1:=@List.find?_cons
def bk4:=@of_decide_eq_false
def bk6:=@decide_eq_false_iff_not
def bk8:=@wpAny_newObj_type
def bl0:=@Heap.get?_update_other
def bl1:=@of_decide_eq_true
def bl3:=@PyProof.Rows.slot_tuple_getitem
def bl4:=@wpAny_pyIter_tuple
def bl6:=@PySem.F.slot_list_append
def bl7:=@PySem.F.type_list_append
def bm1:=@Int.le_refl
def bm2:=@Nat.pow_le_pow_right
def bm3:=@List.flatten_cons
def bm4:=@PySem.F.plainAttrs_list
def bm5:=@wpAny_rule
def bm6:=@List.countP_eq_length_filter
def bm8:=@List.pairwise_lt_range
def bm9:=@List.all_cons
def bn0:=@List.any_cons
def bn2:=@List.zip_cons_cons
def bn4:=@Nat.eq_or_lt_of_le
def bn6:=@Int.emod_lt_of_pos
def bn7:=@Heap.get?_update_self
def bn8:=@wpAny_passesOwn
def bn9:=@List.nodup_cons
def bo0:=@List.Pairwise.nil
def bo2:=@wpS_mono
def bo3:=@List.map_map
def bo6:=@List.drop_take
end
namespace L2
open PySem PySem.Spec PyProof.Rows
abbrev aP:=Sum Int Str
def kN:aP->Value->Bool
 | .inl k,v=>Value.isInt k v
 | .inr x,v=>Value.isStrOf x v
def ac6 (w:World):aP->Int
 | .inl k=>hashInt k
 | .inr x=>hashStr w x
theorem hI:∀ {k:aP}{v:Value},kN k v=true->(∃ i t,k=Sum.inl i/\v=Value.int i t) ∨ (∃ x t,k=Sum.inr x/\v=Value.str x t)
 | .inl i,v,h=>by
  obtain ⟨t,e⟩:=Value.isInt_shape (k:=i) (v:=v) h
  exact .inl ⟨i,t,rfl,e⟩
 | .inr x,v,h=>by
  obtain ⟨t,e⟩:=Value.isStrOf_shape (x:=x) (v:=v) h
  exact .inr ⟨x,t,rfl,e⟩
theorem ac7 (i:Int) (t:Tok):kN (.inl i) (.int i t)=true:=by simp [kN,Value.isInt]
theorem ac8 (x:Str) (t:Tok):kN (.inr x) (.str x t)=true:=by simp [kN,Value.isStrOf]
theorem ac9 (a b:Int):decide ((Sum.inl a:aP)=Sum.inl b)=(a == b):=by
 by_cases e:a=b
 ·subst e; simp
 ·have h : ¬ (Sum.inl a:aP)=Sum.inl b:=fun q=>e (Sum.inl.inj q)
  rw [aZ8 h]
  exact (beq_eq_false_iff_ne.mpr e).symm
theorem ad0 (a b:Str):decide ((Sum.inr a:aP)=Sum.inr b)=decide (a=b):=by
 by_cases e:a=b
 ·subst e; simp
 ·have h : ¬ (Sum.inr a:aP)=Sum.inr b:=fun q=>e (Sum.inr.inj q)
  rw [aZ8 h,aZ8 e]
theorem ad1 (a:Int) (b:Str):decide ((Sum.inl a:aP)=Sum.inr b)=false:=aZ8 (fun q=>nomatch q)
theorem ad2 (a:Str) (b:Int):decide ((Sum.inr a:aP)=Sum.inl b)=false:=aZ8 (fun q=>nomatch q)
def eM (prog:Program) (w:World):PySem.KeyKind prog w aP where
 is:=kN
 hash:=ac6 w
 inj:=fun v a b ha hb=>by
  rcases hI ha with ⟨i,t,rfl,rfl⟩ | ⟨x,t,rfl,rfl⟩
  ·rcases hI hb with ⟨j,u,rfl,e⟩ | ⟨y,u,rfl,e⟩
   ·injection e with e1 _; rw [e1]
   ·exact nomatch e
  ·rcases hI hb with ⟨j,u,rfl,e⟩ | ⟨y,u,rfl,e⟩
   ·exact nomatch e
   ·injection e with e1 _; rw [e1]
 byValue:=fun k v h=>by
  rcases hI h with ⟨i,t,rfl,rfl⟩ | ⟨x,t,rfl,rfl⟩ <;> rfl
 pyHash:=fun hv h=>by
  rcases hI hv with ⟨i,t,rfl,rfl⟩ | ⟨x,t,rfl,rfl⟩
  ·exact wpAny_pyHash_int h
  ·exact wpAny_pyHash_str h
 eqBool:=fun hu hv h=>by
  rcases hI hu with ⟨i,t,rfl,rfl⟩ | ⟨x,t,rfl,rfl⟩
  ·rcases hI hv with ⟨j,u,rfl,rfl⟩ | ⟨y,u,rfl,rfl⟩
   ·rw [ac9] at h; exact wpAny_eqBool_int h
   ·rw [ad1] at h; exact SeqAt.EqAt.int_str i t y u _ _ _ _ h
  ·rcases hI hv with ⟨j,u,rfl,rfl⟩ | ⟨y,u,rfl,rfl⟩
   ·rw [ad2] at h; exact SeqAt.EqAt.str_int x t j u _ _ _ _ h
   ·rw [ad0] at h; exact wpAny_eqBool_str h
 «strs»:=fun k x t v h=>by
  rcases hI h with ⟨i,u,rfl,e⟩ | ⟨y,u,rfl,e⟩
  ·exact nomatch e
  ·injection e with e1 _
   subst e1
   cases v <;> rfl
theorem ad3 (prog:Program) (w:World) (i:Int) (t:Tok):(eM prog w).is (.inl i) (.int i t)=true:=ac7 i t
theorem ad4 (prog:Program) (w:World) (x:Str) (t:Tok):(eM prog w).is (.inr x) (.str x t)=true:=ac8 x t
inductive V where
 | non | bl (b:Bool) | int (i:Int) | str (x:Str) | byt (b:Array UInt8) | flt (b:UInt64) | ref (a:Addr) | ty (n:String)
 deriving DecidableEq
def aO:V->Value->Prop
 | .non,u=>u=Value.none
 | .bl b,u=>u=Value.bool b
 | .int i,u=>∃ t,u=Value.int i t
 | .str x,u=>∃ t,u=Value.str x t
 | .byt b,u=>∃ t,u=Value.bytes b t
 | .flt b,u=>∃ t,u=Value.float b t
 | .ref a,u=>u=Value.ref a
 | .ty n,u=>u=Value.type n
abbrev aH:List V->List Value->Prop:=Paired aO
theorem aH.length {xs:List V}{us:List Value} (r:aH xs us):xs.length=us.length:=Paired.length r
theorem aH.get:∀ {xs:List V}{us:List Value}{i:Nat}{x:V},aH xs us->xs[i]? = some x->∃ u,us[i]? = some u/\aO x u
 | _,_,_,_,.nil,e=>by simp at e
 | _,_,0,_,.cons r _,e=>by simp at e; subst e; exact⟨_,rfl,r⟩
 | _,_,i+1,x,.cons _ t,e=>by
  obtain ⟨u,h1,h2⟩:=aH.get (i:=i) (x:=x) t (by simpa using e)
  exact⟨u,by simpa using h1,h2⟩
theorem aH.set {x:V}{u:Value} (r:aO x u):∀ {xs:List V}{us:List Value} (i:Nat),aH xs us->aH (xs.set i x) (us.set i u)
 | _,_,_,.nil=>.nil
 | _,_,0,.cons _ t=>.cons r t
 | _,_,i+1,.cons q t=>.cons q (aH.set r i t)
theorem aH.append:∀ {xs ys:List V}{us ws:List Value},aH xs us->aH ys ws->aH (xs ++ ys) (us ++ ws)
 | _,_,_,_,.nil,s=>s
 | _,_,_,_,.cons r t,s=>.cons r (aH.append t s)
theorem aH.take:∀ {xs:List V}{us:List Value} (n:Nat),aH xs us->aH (xs.take n) (us.take n)
 | _,_,0,_=>.nil
 | _,_,_+1,.nil=>.nil
 | _,_,n+1,.cons r t=>.cons r (aH.take n t)
theorem aH.drop:∀ {xs:List V}{us:List Value} (n:Nat),aH xs us->aH (xs.drop n) (us.drop n)
 | _,_,0,r=>r
 | _,_,_+1,.nil=>.nil
 | _,_,n+1,.cons _ t=>aH.drop n t
def jM:Option V->Option Value->Prop
 | some v,some u=>aO v u
 | none,none=>True
 | _,_=>False
def KV {κ:Type}:List (κ × V)->List (κ × Value)->Prop:=Paired fun (p:κ × V) (q:κ × Value)=>p.1=q.1/\aO p.2 q.2
def kV:aP->V
 | .inl i=>.int i
 | .inr x=>.str x
inductive HO where
 | lst (xs:List V)
 | tup (xs:List V)
 | dK (kvs:List (aP × V)) | dT (kvs:List (List aP × V))
 | set (S:Int->Bool) (n:Nat)
 | ins (C dx:Addr) (fs:List (Str × V))
 | own (x:Addr)
 | xd (fs:List (Str × V))
 | met (f x:Addr)
 | rng (lo hi:Int)
 | frz (o:Obj) (u:HO)
 | tbl (ps:Array Value)
 | ext (φ:Heap->Prop)
abbrev Hp:=Addr->Option HO
def upd (H:Hp) (a:Addr) (o:HO):Hp:=fun b=>if b=a then some o else H b
theorem b9 {H:Hp}{a:Addr}{o:HO}:upd H a o a=some o:=by unfold upd; rw [if_pos rfl]
theorem aM {H:Hp}{a b:Addr}{o:HO} (h:b ≠ a):upd H a o b=H b:=by unfold upd; rw [if_neg h]
theorem ad5 {H:Hp}{a b:Addr}{o u:HO} (h:H a=some o) (h':H b=some u) (d:o ≠ u):a ≠ b:=by
 intro e; subst e; rw [h] at h'; exact d (bc1 h')
theorem cF {H:Hp}{a b:Addr}{o:HO} (h:H a=some o) (h':H b=none):a ≠ b:=by
 intro e; subst e; rw [h] at h'; cases h'
section
variable (P : Program) (w : World)
def bV (H:Hp) (h:Heap) (a:Addr):HO->Prop
 | .lst xs=>xs.length<=sizeLine/\∃ (its:List Value) (n:Nat),aH xs its/\h.get? a=some { cls:=.type "list",data:=.seq its.toArray n }
 | .tup xs=>xs.length<=sizeLine/\∃ its:List Value,aH xs its/\IsTup h a its.toArray
 | .dK kvs=>kvs.length<=sizeLine/\(a == sysModules)=false/\∃ vs,KV kvs vs/\h.DictOf (eM P w) a vs
 | .dT kvs=>kvs.length<=sizeLine/\(a == sysModules)=false/\∃ xs:List (List aP × Addr × Value),
   Paired (fun (p:List aP × V) (q:List aP × Addr × Value)=>p.1=q.1/\H q.2.1=some (.tup (p.1.map kV))/\aO p.2 q.2.2) kvs xs/\
   ∃ o es ep,h.get? a=some o/\o.ExactDict/\o.data = .dict es ep/\es.toList=xs.map (entryOfKey (tupleKind (eM P w)))/\(xs.map (·.1)).Nodup
 | .set S n=>h.SetOf (intKind P w) a S n
 | .ins C dx fs=>H dx=some (.own a)/\fs.length<=1000/\dx ≠ a/\h.get? a=some (PySem.W.instObj C dx)/\
   ∃ mA,h.Ns1 dx mA/\(∀ f,jM (fs.lookup f) (mA f))/\PySem.Within mA (fs.map (·.1))
 | .own _=>∃ o,h.get? a=some o
 | .xd fs=>∃ mA,h.Ns1 a mA/\∀ f,jM (fs.lookup f) (mA f)
 | .rng lo hi=>∃ t u v,h.get? a=some { cls:=.type "range",data:=.fields #[.int lo t,.int hi u,.int 1 v] }
 | .frz o u=>h.get? a=some o/\bV H h a u
 | .tbl ps=>h.get? a=some { cls:=.none,data:=.fields ps }
 | .met f x=>h.get? a=some (PySem.W.methodObj (.ref f) (.ref x))
 | .ext φ=>φ h/\(∃ o,h.get? a=some o)/\∀ h1 h2:Heap,φ h1->(∀ o,h1.get? a=some o->h2.get? a=some o)->φ h2
def bL (H:Hp) (h:Heap):Prop:=∀ a o,H a=some o->bV P w H h a o
end
section
variable {P : Program} {w : World} {H H' : Hp} {h h' : Heap} {a : Addr} {o : HO}
theorem bV.lt (x:bV P w H h a o):a < h.objs.size:=by
 cases o with
 | lst xs=>obtain ⟨_,_,_,_,e⟩:=x; exact ba4 e
 | tup xs=>obtain ⟨_,_,_,p⟩:=x; exact p.lt
 | dK kvs=>obtain ⟨_,_,_,_,o,_,_,e,_⟩:=x; exact ba4 e
 | dT kvs=>obtain ⟨_,_,_,_,o,_,_,e,_⟩:=x; exact ba4 e
 | set S n=>obtain ⟨o,_,_,_,e,_⟩:=x; exact ba4 e
 | ins C dx fs=>obtain ⟨_,_,_,e,_⟩:=x; exact ba4 e
 | own y=>obtain ⟨_,e⟩:=x; exact ba4 e
 | xd fs=>obtain ⟨_,⟨_,_,_,e,_⟩,_⟩:=x; exact ba4 e
 | rng lo hi=>obtain ⟨_,_,_,e⟩:=x; exact ba4 e
 | frz ob u=>obtain ⟨e,_⟩:=x; exact ba4 e
 | tbl ps=>exact ba4 (show h.get? a=some _ from x)
 | met f y=>exact ba4 (show h.get? a=some _ from x)
 | ext φ=>obtain ⟨_,⟨_,e⟩,_⟩:=x; exact ba4 e
theorem Paired.mapP {α β:Type}{F G:α->β->Prop}:∀ {l₁:List α}{l₂:List β},Paired F l₁ l₂->(∀ a b,F a b->G a b)->Paired G l₁ l₂
 | _,_,.nil,_=>.nil
 | _,_,.cons r t,f=>.cons (f _ _ r) (Paired.mapP t f)
theorem bV.stay (x:bV P w H h a o) (k:∀ b u,(b=a ∨ H b=some (.own a))->h.get? b=some u->h'.get? b=some u)
  (ho:∀ b,H b=some (.own a)->H' b=some (.own a)) (ht:∀ b xs,H b=some (.tup xs)->H' b=some (.tup xs)):bV P w H' h' a o:=by
 induction o with
 | lst xs=>obtain ⟨z,its,n,r,e⟩:=x; exact⟨z,its,n,r,k _ _ (.inl rfl) e⟩
 | tup xs=>obtain ⟨z,its,r,ob,e,c⟩:=x; exact⟨z,its,r,ob,k _ _ (.inl rfl) e,c⟩
 | dK kvs=>obtain ⟨z,y,vs,r,ob,es,ep,e,c⟩:=x; exact⟨z,y,vs,r,ob,es,ep,k _ _ (.inl rfl) e,c⟩
 | dT kvs=>
  obtain ⟨z,y,xs,r,ob,es,ep,e,c⟩:=x
  exact⟨z,y,xs,Paired.mapP r fun p q z=>⟨z.1,ht _ _ z.2.1,z.2.2⟩,ob,es,ep,k _ _ (.inl rfl) e,c⟩
 | set S n=>obtain ⟨ob,es,ep,t,e,c⟩:=x; exact⟨ob,es,ep,t,k _ _ (.inl rfl) e,c⟩
 | ins C dx fs=>
  obtain ⟨d,z,ne,e,mA,⟨od,es,ep,e2,c⟩,r⟩:=x
  exact⟨ho _ d,z,ne,k _ _ (.inl rfl) e,mA,⟨od,es,ep,k _ _ (.inr d) e2,c⟩,r⟩
 | own y=>obtain ⟨ob,e⟩:=x; exact⟨ob,k _ _ (.inl rfl) e⟩
 | xd fs=>obtain ⟨mA,⟨od,es,ep,e,c⟩,r⟩:=x; exact⟨mA,⟨od,es,ep,k _ _ (.inl rfl) e,c⟩,r⟩
 | rng lo hi=>obtain ⟨t,u,v,e⟩:=x; exact⟨t,u,v,k _ _ (.inl rfl) e⟩
 | frz ob u ih=>obtain ⟨e,q⟩:=x; exact⟨k _ _ (.inl rfl) e,ih q⟩
 | tbl ps=>
  have e:h.get? a=some { cls:=.none,data:=.fields ps }:=x
  show h'.get? a=some { cls:=.none,data:=.fields ps }
  exact k a _ (.inl rfl) e
 | met f y=>
  have e:h.get? a=some (PySem.W.methodObj (.ref f) (.ref y)):=x
  show h'.get? a=some (PySem.W.methodObj (.ref f) (.ref y))
  exact k a _ (.inl rfl) e
 | ext φ=>obtain ⟨p,⟨o,e⟩,st⟩:=x; exact⟨st _ _ p fun o q=>k _ _ (.inl rfl) q,⟨o,k _ _ (.inl rfl) e⟩,st⟩
theorem bL.lt (x:bL P w H h) (e:H a=some o):a < h.objs.size:=(x a o e).lt
theorem bL.fresh (x:bL P w H h) (e:h.objs.size<=a):H a=none:=by
 cases q:H a with
 | none=>rfl
 | some u=>exact absurd (ba5 (x.lt q) e) (bg3 _)
theorem bL.kept (x:bL P w H h) (k:∀ b u,h.get? b=some u->h'.get? b=some u):bL P w H h':=fun a o e=>
 (x a o e).stay (fun b u _ q=>k b u q) (fun _ q=>q) fun _ _ q=>q
theorem bL.laid (x:bL P w H h) (k:∀ b u,h.get? b=some u->h'.get? b=some u) (hp:h.objs.size<=a) (new:bV P w (upd H a o) h' a o):bL P w (upd H a o) h':=fun b u e=>by
 have hn:=x.fresh hp
 by_cases hb:b=a
 ·subst hb; rw [b9] at e; cases e; exact new
 ·rw [aM hb] at e
  exact (x b u e).stay (fun c v _ q=>k c v q) (fun c q=>by rw [aM (cF q hn)]; exact q) fun c xs q=>by rw [aM (cF q hn)]; exact q
end
def Rd (H:Hp) (a:Addr) (u:HO):Prop:=H a=some u ∨ ∃ o,H a=some (.frz o u)
theorem Rd.ok {P:Program}{w:World}{H:Hp}{h:Heap}{a:Addr}{u:HO} (r:Rd H a u) (x:bL P w H h):bV P w H h a u:=by
 rcases r with r | ⟨o,r⟩
 ·exact x a u r
 ·obtain ⟨_,q⟩:=x a _ r
  exact q
def mH:Option HO->Prop
 | some (.lst _)=>True
 | some (.dK _)=>True
 | some (.dT _)=>True
 | some (.set _ _)=>True
 | some (.ins _ _ _)=>True
 | some (.ext _)=>True
 | _=>False
section
variable {P : Program} {w : World} {H : Hp} {h h' : Heap} {x e : Addr} {o' : HO}
theorem bL.write (ok:bL P w H h) (mu:mH (H x)) (he:e=x ∨ H e=some (.own x)) (k:∀ b u,b ≠ e->h.get? b=some u->h'.get? b=some u) (heo:∃ u,h'.get? e=some u)
  (new:bV P w (upd H x o') h' x o'):bL P w (upd H x o') h':=fun b u q=>by
 have nown:∀ c y,H c=some (.own y)->c ≠ x:=fun c y r z=>by subst z; rw [r] at mu; exact mu
 have ntup:∀ c xs,H c=some (.tup xs)->c ≠ x:=fun c xs r z=>by subst z; rw [r] at mu; exact mu
 by_cases hb:b=x
 ·subst hb; rw [b9] at q; cases q; exact new
 ·rw [aM hb] at q
  by_cases hbe:b=e
  ·have q':H b=some (.own x):=by
    rcases he with z | z
    ·exact absurd (hbe.trans z) hb
    ·rw [hbe]; exact z
   rw [q] at q'; cases q'
   obtain ⟨v,hv⟩:=heo
   exact⟨v,by rw [hbe]; exact hv⟩
  ·refine (ok b u q).stay (fun c v hc r=>k c v ?_ r) (fun c r=>by rw [aM (nown c b r)]; exact r) fun c xs r=>by rw [aM (ntup c xs r)]; exact r
   rcases hc with rfl | hc
   ·exact hbe
   ·rintro rfl
    rcases he with z | z
    ·exact nown c b hc z
    ·rw [hc] at z; cases z; exact hb rfl
end
structure Un (fs ex:List Addr) (H H':Hp) (h h':Heap):Prop where
 keep:∀ b o,h.get? b=some o->H b=none->b ∉ fs->b ∉ ex->h'.get? b=some o
 slot:∀ b o,h.get? b=some o->H b=none->b ∈ fs->b ∉ ex->∃ sl,h'.get? b=some { o with slots:=sl }
 free:∀ b o,h.get? b=some o->H b=none->b ∉ ex->H' b=none
 there:∀ b o,h.get? b=some o->b ∉ ex->∃ o',h'.get? b=some o'
 tups:∀ b xs,H b=some (.tup xs)->H' b=some (.tup xs)
 frzs:∀ b o u,H b=some (.frz o u)->H' b=some (.frz o u)
 tbls:∀ b ps,H b=some (.tbl ps)->∃ more,H' b=some (.tbl (ps ++ more))
section
variable {fs fs' ex ex' : List Addr} {H H1 H2 : Hp} {h h1 h2 h' : Heap} {a x e : Addr} {o : HO}
theorem Un.any (u:Un fs ex H H1 h h1) {b:Addr}{ob:Obj} (q:h.get? b=some ob) (n:H b=none) (hx:b ∉ ex):∃ sl,h1.get? b=some { ob with slots:=sl }:=by
 by_cases hb:b ∈ fs
 ·exact u.slot b ob q n hb hx
 ·exact⟨ob.slots,u.keep b ob q n hb hx⟩
theorem Un.kept (k:∀ b u,h.get? b=some u->h'.get? b=some u):Un fs ex H H h h':=
 ⟨fun b ob q _ _ _=>k b ob q,fun b ob q _ _ _=>⟨ob.slots,k b ob q⟩,fun _ _ _ n _=>n,fun b ob q _=>⟨ob,k b ob q⟩,fun _ _ q=>q,fun _ _ _ q=>q,fun _ ps q=>⟨#[],by rw [q]; simp⟩⟩
theorem Un.refl:Un fs ex H H h h:=Un.kept fun _ _ q=>q
theorem Un.laid (k:∀ b u,h.get? b=some u->h'.get? b=some u) (hp:h.objs.size<=a) (hn:H a=none):Un fs ex H (upd H a o) h h' where
 keep:=fun b u q _ _ _=>k b u q
 slot:=fun b u q _ _ _=>⟨u.slots,k b u q⟩
 free:=fun b u q n _=>by rw [aM (bc7 (ba5 (ba4 q) hp))]; exact n
 there:=fun b u q _=>⟨u,k b u q⟩
 tups:=fun b xs q=>by rw [aM (cF q hn)]; exact q
 frzs:=fun b u xs q=>by rw [aM (cF q hn)]; exact q
 tbls:=fun b ps q=>⟨#[],by rw [aM (cF q hn),q]; simp⟩
theorem Un.write (mu:mH (H x)) (he:e=x ∨ H e=some (.own x)) (k:∀ b u,b ≠ e->h.get? b=some u->h'.get? b=some u) (heo:∃ u,h'.get? e=some u):Un fs ex H (upd H x o) h h':=by
 have hx:∀ b,H b=none->b ≠ x:=fun b n z=>by subst z; rw [n] at mu; exact mu
 have hb:∀ b,H b=none->b ≠ e:=fun b n z=>by
  subst z
  rcases he with r | r
  ·exact hx b n r
  ·rw [n] at r; cases r
 have hm:∀ b u,H b=some u->¬ mH (some u)->b ≠ x:=fun b u q nm z=>by subst z; rw [q] at mu; exact nm mu
 refine⟨fun b u q n _ _=>k b u (hb b n) q,fun b u q n _ _=>⟨u.slots,k b u (hb b n) q⟩,fun b u q n _=>by rw [aM (hx b n)]; exact n,fun b u q _=>?_,
  fun b xs q=>by rw [aM (hm b _ q fun z=>z)]; exact q,fun b u xs q=>by rw [aM (hm b _ q fun z=>z)]; exact q,fun b ps q=>⟨#[],by rw [aM (hm b _ q fun z=>z),q]; simp⟩⟩
 by_cases hbe:b=e
 ·subst hbe; exact heo
 ·exact⟨u,k b u hbe q⟩
end
def oQ (h:Heap) (H:Hp):List Addr:=(List.range h.objs.size).filter fun a=>(H a).isSome
def hJ (h:Heap) (H:Hp):Heap:=PySem.W.hideAll h (oQ h H)
theorem ad6 (h:Heap) (H:Hp):(hJ h H).objs.size=h.objs.size:=PySem.W.hideAll_size _ _
theorem ad7 {h:Heap}{H:Hp}{b:Addr}{o:Obj} (e:h.get? b=some o) (n:H b=none):(hJ h H).get? b=some o:=
 PySem.W.hideAll_get _ e fun hm=>by
  have q:(H b).isSome=true:=(bc5.mp hm).2
  rw [n] at q; simp at q
theorem ad8 {h:Heap}{H:Hp}{b:Addr}{o:Obj} (e:(hJ h H).get? b=some o):h.get? b=some o/\H b=none:=by
 have e':h.get? b=some o:=PySem.W.of_hideAll (oQ h H) e
 refine⟨e',?_⟩
 cases q:H b with
 | none=>rfl
 | some x=>
  have hm:b ∈ oQ h H:=bc5.mpr ⟨List.mem_range.mpr (ba4 e'),by simp [q]⟩
  have z:(hJ h H).get? b=none:=PySem.W.hideAll_none (oQ h H) hm
  rw [z] at e; cases e
def ad9 (g h:Heap) (L:Addr):List (Addr × Obj):=(List.range h.objs.size).filterMap fun a=>if a=L ∨ (g.get? a).isSome=true then none else (h.get? a).map fun o=>(a,o)
def bM (g h:Heap) (L d:Addr):List (Addr × Obj):=(ad9 g h L).filter fun p=>decide (p.1 ≠ d)
structure Mod (K:PySem.W.Frag) (mg:Str->Option Value) (base:Heap):Prop where
 kin:K.In base
 glob:base.Ns mainGlobals mg
 blt:∃ mb,base.Ns builtinsNs mb/\∀ x:Str,x ≠ "__name__"->mb x=bootBuiltins x
 nolimit:base.NoLimit
structure Cx where
 prog:Program
 w:World
 K:PySem.W.Frag
 mg:Str->Option Value
 base:Heap
 A:Around
 N:List Str
 s₀:Shared
 H₀:Hp
 env:Env
 outer:List Env
 stack:List Env
 ex:List Addr
 fn:Str->Bool
 calm:Bool
 pn:List (Addr × Obj)
 xe:Value->Shared->Prop
def bF (l:List Env):List Addr:=l.filterMap (·.frame)
abbrev Cx.fs (X:Cx):List Addr:=bF X.outer
def hV (sc:Scope) (x:Str):Prop:=sc.names.lookup x=some .local ∨ sc.names.lookup x=some .cell ∨ sc.names.lookup x=some .free
def jN (sc:Scope) (x:Str):Prop:=sc.names.lookup x=some .local ∨ sc.names.lookup x=some .cell
def ae0 (env:Env) (h:Heap) (m:Str->Option Value) (x:Str) (u:Value):Prop:=
 (env.kindOf x=some .local/\m x=some u) ∨ ((env.kindOf x=some .cell ∨ env.kindOf x=some .free)/\∃ c,env.cells.lookup x=some c/\h.IsCell c (some u))
structure Cx.Ok (X:Cx):Prop where
 mod:Mod X.K X.mg X.base
 kind:X.env.scope.kind = .function
 glob:X.env.globals=mainGlobals
 blt:X.env.builtins=builtinsNs
 above:X.s₀.heap.objs.size<=X.env.locals
 inj:∀ x y c,X.env.cells.lookup x=some c->X.env.cells.lookup y=some c->x=y
 has:∀ x,(X.env.kindOf x=some .cell ∨ X.env.kindOf x=some .free)->∃ c,X.env.cells.lookup x=some c
 cab:∀ x c,X.fn x=true->X.env.cells.lookup x=some c->X.s₀.heap.objs.size<=c
 hd:X.calm=true->X.A.handled=none
 frames:X.A.frames=some X.stack
 stk:X.stack=X.outer ∨ (X.stack=X.env :: X.outer/\X.env.frame=some X.env.locals)
 exf:∀ b ∈ X.ex,b ≠ X.env.locals/\∀ x c,X.env.cells.lookup x=some c->c ≠ b
 bs:∀ b o,X.base.get? b=some o->X.s₀.heap.get? b=some o/\X.H₀ b=none
 bsz:X.base.objs.size<=X.s₀.heap.objs.size
 noex:∀ b o,X.base.get? b=some o->b ∉ X.ex
 exfs:∀ b ∈ X.ex,b ∉ X.fs
 funs:X.s₀.heap.FunFrames X.base X.outer
 frf:∀ b ∈ X.fs,X.H₀ b=none
structure a6 (X:Cx) (pins:List (Addr × Obj)) (σ:List (Option V)) (H:Hp) (s:Shared):Prop where
 ok:X.Ok
 os:s.os=X.s₀.os
 bare:AllBare s.gens
 base:Un X.fs X.ex X.H₀ H X.s₀.heap s.heap
 loc:∃ m,s.heap.Ns X.env.locals m/\∀ (i:Nat) (x:Str) (v:V),X.N[i]? = some x->σ[i]? = some (some v)->hV X.env.scope x->∃ u,aO v u/\ae0 X.env s.heap m x u
 cell:∀ x c,X.env.cells.lookup x=some c->∃ v,s.heap.IsCell c v
 free:H X.env.locals=none
 freeC:∀ x c,X.env.cells.lookup x=some c->H c=none
 pin:∀ p ∈ X.pn ++ pins,s.heap.get? p.1=some p.2/\H p.1=none/\p.1 ≠ X.env.locals/\p.1 ∉ X.fs/\∀ v,p.2.data ≠ .cell v
 hok:bL X.prog X.w H s.heap
 len:σ.length=X.N.length
section
variable {X : Cx} {pins : List (Addr × Obj)} {σ : List (Option V)} {H H' : Hp} {s : Shared} {h' : Heap}
theorem Cx.Ok.nofr (ok:X.Ok) {b:Addr}{o:Obj} (e:X.base.get? b=some o):b ∉ X.fs:=fun hb=>by
 have:=(ok.funs.mem hb).1
 rw [e] at this; cases this
theorem a6.bs (I:a6 X pins σ H s):∀ b o,X.base.get? b=some o->s.heap.get? b=some o/\H b=none:=fun b o e=>
 ⟨I.base.keep b o (I.ok.bs b o e).1 (I.ok.bs b o e).2 (I.ok.nofr e) (I.ok.noex b o e),I.base.free b o (I.ok.bs b o e).1 (I.ok.bs b o e).2 (I.ok.noex b o e)⟩
theorem a6.bk (I:a6 X pins σ H s):∀ b o,X.base.get? b=some o->s.heap.get? b=some o:=fun b o e=>(I.bs b o e).1
theorem a6.mod (I:a6 X pins σ H s):Mod X.K X.mg X.base:=I.ok.mod
theorem a6.kIn (I:a6 X pins σ H s):X.K.In s.heap:=I.ok.mod.kin.keeps I.bk
theorem a6.fr (I:a6 X pins σ H s):∃ m,Fr X.base X.env.locals s.heap m:=
 let ⟨m,hn,_⟩:=I.loc
 ⟨m,hn,I.bk,bd4 I.ok.bsz I.ok.above⟩
theorem a6.lt (I:a6 X pins σ H s):X.env.locals < s.heap.objs.size:=let ⟨_,hn,_⟩:=I.loc; hn.lt
theorem a6.sz (I:a6 X pins σ H s):X.s₀.heap.objs.size<=s.heap.objs.size:=bd4 I.ok.above (bi9 I.lt)
theorem a6.nofs (I:a6 X pins σ H s) {a:Addr} (h:s.heap.objs.size<=a):a ∉ X.fs:=fun hb=>by
 obtain ⟨_,o,ho,_⟩:=I.ok.funs.mem hb
 exact absurd (ba5 (ba4 ho) (bd4 I.sz h)) (bg3 _)
theorem a6.cne (I:a6 X pins σ H s):∀ x c,X.env.cells.lookup x=some c->c ≠ X.env.locals:=fun x c e z=>by
 obtain ⟨v,o,ho,hd⟩:=I.cell x c e
 obtain ⟨m,⟨o',es,ep,ho',hd',_⟩,_⟩:=I.loc
 rw [z,ho'] at ho; cases ho; rw [hd'] at hd; cases hd
theorem a6.funs (I:a6 X pins σ H s):s.heap.FunFrames X.base X.outer:=by
 have all:∀ (l:List Env),(∀ b ∈ bF l,b ∈ X.fs)->X.s₀.heap.FunFrames X.base l->s.heap.FunFrames X.base l:=by
  intro l
  induction l with
  | nil=>intro _ _; trivial
  | cons env r ih=>
   intro hs hl
   obtain ⟨hk,⟨L,o,hf,hn,ho,hd⟩,hr⟩:=hl
   have hL:L ∈ X.fs:=hs L (by unfold bF; rw [List.filterMap_cons,hf]; exact bb1)
   obtain ⟨sl,e⟩:=I.base.slot L o ho (I.ok.frf L hL) hL fun z=>I.ok.exfs L z hL
   exact⟨hk,⟨L,_,hf,hn,e,hd⟩,ih (fun b hb=>hs b (by unfold bF; rw [List.filterMap_cons,hf]; exact bb0 _ hb)) hr⟩
 exact all X.outer (fun _ hb=>hb) I.ok.funs
theorem a6.stack (I:a6 X pins σ H s):s.heap.FunFrames X.base X.stack:=by
 rcases I.ok.stk with e | ⟨e,hf⟩
 ·rw [e]; exact I.funs
 ·rw [e]
  obtain ⟨m,hn,_⟩:=I.loc
  refine .cons (by rw [I.ok.kind]; decide) hf hn ?_ I.funs
  exact Heap.get?_none_of_le (bd4 I.ok.bsz I.ok.above)
theorem a6.stkSub (I:a6 X pins σ H s):∀ b ∈ bF X.stack,b ∈ X.env.locals :: X.fs:=fun b hb=>by
 rcases I.ok.stk with e | ⟨e,hf⟩
 ·rw [e] at hb; exact bb0 _ hb
 ·rw [e] at hb
  unfold bF at hb
  rw [List.filterMap_cons,hf] at hb
  exact hb
theorem a6.stkFree (I:a6 X pins σ H s):∀ b ∈ bF X.stack,H b=none:=fun b hb=>by
 rcases aZ6.mp (I.stkSub b hb) with e | hb
 ·rw [e]; exact I.free
 ·obtain ⟨_,o,ho,_⟩:=I.ok.funs.mem hb
  exact I.base.free b o ho (I.ok.frf b hb) fun z=>I.ok.exfs b z hb
theorem a6.step {g':Array GenState}{t':Nat}{d':Drawn}{ch:List Addr} (I:a6 X pins σ H s)
  (hch:∀ b ∈ ch,(b ∈ X.ex ∨ X.s₀.heap.objs.size<=b)/\b ≠ X.env.locals/\(∀ x c,X.env.cells.lookup x=some c->c ≠ b)/\∀ p ∈ X.pn ++ pins,p.1 ≠ b)
  (keep:∀ b o,b ≠ X.env.locals->b ∉ X.fs->b ∉ ch->s.heap.get? b=some o->H b=none->h'.get? b=some o)
  (slot:∀ b o,b ≠ X.env.locals->b ∈ X.fs->b ∉ ch->s.heap.get? b=some o->H b=none->∃ sl,h'.get? b=some { o with slots:=sl }) (free:∀ b o,b ∉ ch->s.heap.get? b=some o->H b=none->H' b=none)
  (there:∀ b o,b ∉ ch->s.heap.get? b=some o->∃ o',h'.get? b=some o')
  (tups:∀ b xs,H b=some (.tup xs)->H' b=some (.tup xs)) (frzs:∀ b o u,H b=some (.frz o u)->H' b=some (.frz o u)) (tbls:∀ b ps,H b=some (.tbl ps)->∃ more,H' b=some (.tbl (ps ++ more)))
  (ns:∀ m,s.heap.Ns X.env.locals m->h'.Ns X.env.locals m) (hok:bL X.prog X.w H' h') (hg:AllBare g') :
  a6 X pins σ H' { s with heap:=h',gens:=g',drawn:=d',toks:=t' }:=by
 have neL:∀ b o,X.s₀.heap.get? b=some o->b ≠ X.env.locals:=fun b o e=>bc7 (ba5 (ba4 e) I.ok.above)
 have neC:∀ b o,X.s₀.heap.get? b=some o->b ∉ X.ex->b ∉ ch:=fun b o e hx hb=>by
  rcases (hch b hb).1 with z | z
  ·exact hx z
  ·exact absurd (ba5 (ba4 e) z) (bg3 _)
 have cellK:∀ x c,X.env.cells.lookup x=some c->∀ v,s.heap.IsCell c v->h'.IsCell c v:=fun x c e v ⟨o,ho,hd⟩=>by
  have nch:c ∉ ch:=fun z=>(hch c z).2.2.1 x c e rfl
  by_cases hc:c ∈ X.fs
  ·obtain ⟨sl,q⟩:=slot c o (I.cne x c e) hc nch ho (I.freeC x c e)
   exact⟨_,q,hd⟩
  ·exact⟨o,keep c o (I.cne x c e) hc nch ho (I.freeC x c e),hd⟩
 refine⟨I.ok,I.os,hg,⟨fun b o e n hb hx=>?_,fun b o e n hb hx=>?_,fun b o e n hx=>?_,fun b o e hx=>?_,fun b xs e=>tups b xs (I.base.tups b xs e),fun b o xs e=>frzs b o xs (I.base.frzs b o xs e),fun b ps e=>?_⟩,?_,fun x c e=>?_,?_,fun x c e=>?_,fun p hp=>?_,hok,I.len⟩
 ·exact keep b o (neL b o e) hb (neC b o e hx) (I.base.keep b o e n hb hx) (I.base.free b o e n hx)
 ·obtain ⟨sl,e1⟩:=I.base.slot b o e n hb hx
  obtain ⟨sl',e2⟩:=slot b _ (neL b o e) hb (neC b o e hx) e1 (I.base.free b o e n hx)
  exact⟨sl',e2⟩
 ·obtain ⟨o',e1⟩:=I.base.there b o e hx
  exact free b o' (neC b o e hx) e1 (I.base.free b o e n hx)
 ·obtain ⟨o',e1⟩:=I.base.there b o e hx
  exact there b o' (neC b o e hx) e1
 ·obtain ⟨m1,e1⟩:=I.base.tbls b ps e
  obtain ⟨m2,e2⟩:=tbls b _ e1
  exact⟨m1 ++ m2,by rw [e2,Array.append_assoc]⟩
 ·obtain ⟨m,hn,hl⟩:=I.loc
  refine⟨m,ns m hn,fun i x v e1 e2 e3=>?_⟩
  obtain ⟨u,r,l⟩:=hl i x v e1 e2 e3
  refine⟨u,r,?_⟩
  rcases l with l | ⟨k,c,e,z⟩
  ·exact .inl l
  ·exact .inr ⟨k,c,e,cellK x c e _ z⟩
 ·obtain ⟨v,z⟩:=I.cell x c e
  exact⟨v,cellK x c e v z⟩
 ·obtain ⟨m,⟨o,_,_,ho,_⟩,_⟩:=I.loc
  exact free _ o (fun z=>(hch _ z).2.1 rfl) ho I.free
 ·obtain ⟨v,o,ho,hd⟩:=I.cell x c e
  exact free c o (fun z=>(hch c z).2.2.1 x c e rfl) ho (I.freeC x c e)
 ·obtain ⟨e,n,ne,nf,d⟩:=I.pin p hp
  have nch:p.1 ∉ ch:=fun z=>(hch p.1 z).2.2.2 p hp rfl
  exact⟨keep p.1 p.2 ne nf nch e n,free p.1 p.2 nch e n,ne,nf,d⟩
theorem a6.un {t':Nat} (I:a6 X pins σ H s) (u:Un X.fs [] H H' s.heap h') (hok:bL X.prog X.w H' h'):a6 X pins σ H' { s with heap:=h',toks:=t' }:=by
 obtain ⟨m,⟨o,es,ep,ho,r⟩,_⟩:=id I.loc
 obtain ⟨sl,hL⟩:=u.any ho I.free (by simp)
 exact I.step (g':=s.gens) (d':=s.drawn) (ch:=[]) (fun _ z=>nomatch z) (fun b o _ hb _ e n=>u.keep b o e n hb (by simp)) (fun b o _ hb _ e n=>u.slot b o e n hb (by simp)) (fun b o _ e n=>u.free b o e n (by simp)) (fun b o _ e=>u.there b o e (by simp)) u.tups u.frzs u.tbls (fun m' hm=>by
  obtain ⟨o',es',ep',ho',r'⟩:=hm
  rw [ho] at ho'; cases ho'
  exact⟨_,es',ep',hL,r'⟩) hok I.bare
theorem a6.call {g':Array GenState}{t':Nat}{d':Drawn}{ch:List Addr} (I:a6 X pins σ H s) (u:Un (bF X.stack) ch H H' s.heap h') (hok:bL X.prog X.w H' h') (hg:AllBare g')
  (hch:∀ b ∈ ch,(b ∈ X.ex ∨ X.s₀.heap.objs.size<=b)/\b ≠ X.env.locals/\(∀ x c,X.env.cells.lookup x=some c->c ≠ b)/\∀ p ∈ X.pn ++ pins,p.1 ≠ b) :
  a6 X pins σ H' { s with heap:=h',gens:=g',drawn:=d',toks:=t' }:=by
 obtain ⟨m,⟨o,es,ep,ho,r⟩,_⟩:=id I.loc
 obtain ⟨sl,hL⟩:=u.any ho I.free fun z=>(hch _ z).2.1 rfl
 exact I.step (ch:=ch) hch (fun b o hL hb hc e n=>u.keep b o e n (fun z=>(aZ6.mp (I.stkSub b z)).elim hL hb) hc) (fun b o _ _ hc e n=>u.any e n hc) (fun b o hc e n=>u.free b o e n hc) (fun b o hc e=>u.there b o e hc) u.tups u.frzs u.tbls (fun m' hm=>by
  obtain ⟨o',es',ep',ho',r'⟩:=hm
  rw [ho] at ho'; cases ho'
  exact⟨_,es',ep',hL,r'⟩) hok hg
theorem a6.turned {t':Nat}{it:Addr} (I:a6 X pins σ H s) (k:∀ b o,b ≠ it->s.heap.get? b=some o->h'.get? b=some o) (hn:H it=none) (hL:it ≠ X.env.locals)
  (h1:it ∈ X.ex ∨ X.s₀.heap.objs.size<=it) (h2:∀ x c,X.env.cells.lookup x=some c->c ≠ it) (h3:∀ p ∈ X.pn ++ pins,p.1 ≠ it):a6 X pins σ H { s with heap:=h',toks:=t' }:=by
 have nit:∀ b u,H b=some u->b ≠ it:=fun b u e z=>by rw [z,hn] at e; cases e
 refine I.step (g':=s.gens) (d':=s.drawn) (ch:=[it]) (fun b hb=>?_) (fun b o _ _ hc e _=>k b o (fun z=>hc (by simp [z])) e) (fun b o _ _ hc e _=>⟨o.slots,k b o (fun z=>hc (by simp [z])) e⟩) (fun _ _ _ _ n=>n)
  (fun b o hc e=>⟨o,k b o (fun z=>hc (by simp [z])) e⟩) (fun _ _ e=>e) (fun _ _ _ e=>e) (fun b ps e=>⟨#[],by rw [e]; simp⟩) (fun m hm=>?_) (fun b u e=>?_) I.bare
 ·have e:b=it:=by simpa using hb
  subst e
  exact⟨h1,hL,h2,h3⟩
 ·obtain ⟨o,es,ep,ho,r⟩:=hm
  exact⟨o,es,ep,k _ o (Ne.symm hL) ho,r⟩
 ·refine (I.hok b u e).stay (fun c v hc q=>k c v ?_ q) (fun _ q=>q) fun _ _ q=>q
  rcases hc with z | z
  ·rw [z]; exact nit b u e
  ·exact nit c _ z
theorem a6.tok (I:a6 X pins σ H s) (t:Nat):a6 X pins σ H { s with toks:=t }:=I.un (h':=s.heap) (t':=t) Un.refl I.hok
theorem a6.kept {t':Nat} (I:a6 X pins σ H s) (k:∀ b u,s.heap.get? b=some u->h'.get? b=some u):a6 X pins σ H { s with heap:=h',toks:=t' }:=I.un (Un.kept k) (I.hok.kept k)
theorem a6.laid {a:Addr}{o:HO}{t':Nat} (I:a6 X pins σ H s) (k:∀ b u,s.heap.get? b=some u->h'.get? b=some u) (hp:s.heap.objs.size<=a) (new:bV X.prog X.w (upd H a o) h' a o) :
  a6 X pins σ (upd H a o) { s with heap:=h',toks:=t' }:=I.un (Un.laid k hp (I.hok.fresh hp)) (I.hok.laid k hp new)
theorem a6.write {x e:Addr}{o:HO}{t':Nat} (I:a6 X pins σ H s) (mu:mH (H x)) (he:e=x ∨ H e=some (.own x)) (k:∀ b u,b ≠ e->s.heap.get? b=some u->h'.get? b=some u) (heo:∃ u,h'.get? e=some u)
  (new:bV X.prog X.w (upd H x o) h' x o):a6 X pins σ (upd H x o) { s with heap:=h',toks:=t' }:=I.un (Un.write mu he k heo) (I.hok.write mu he k heo new)
theorem a6.weak {σ':List (Option V)} (I:a6 X pins σ H s) (hl:σ'.length=σ.length) (w:∀ (i:Nat) v,σ'[i]? = some (some v)->σ[i]? = some (some v)):a6 X pins σ' H s:=
 ⟨I.ok,I.os,I.bare,I.base,let ⟨m,hn,hl'⟩:=I.loc; ⟨m,hn,fun i x v e1 e2 e3=>hl' i x v e1 (w i v e2) e3⟩,I.cell,I.free,I.freeC,I.pin,I.hok,hl.trans I.len⟩
theorem a6.pins_of {pins':List (Addr × Obj)} (I:a6 X pins σ H s) (h:∀ p ∈ pins',s.heap.get? p.1=some p.2/\H p.1=none/\p.1 ≠ X.env.locals/\p.1 ∉ X.fs/\∀ v,p.2.data ≠ .cell v):a6 X pins' σ H s:=
 ⟨I.ok,I.os,I.bare,I.base,I.loc,I.cell,I.free,I.freeC,fun p hp=>(bb3.mp hp).elim (fun z=>I.pin p (be7 _ z)) (h p),I.hok,I.len⟩
theorem sN {N:List Str} (hN:N.Nodup) {i j:Nat}{x:Str} (a:N[i]? = some x) (b:N[j]? = some x):i=j:=by
 obtain ⟨h1,e1⟩:=aZ9.mp a
 obtain ⟨h2,e2⟩:=aZ9.mp b
 exact (List.getElem_inj hN).mp (e1.trans e2.symm)
theorem sO {M:Model}{A:Around}{E:Value->Shared->Prop}{i:Nat}{x:Str}{v:V}{u:Value}{Q:Unit->Shared->Prop} (I:a6 X pins σ H s) (hN:X.N.Nodup) (hi:X.N[i]? = some x) (hx:jN X.env.scope x) (r:aO v u)
  (h:∀ s',a6 X pins (σ.set i (some v)) H s'->(∃ a,Heap.SameBut a s.heap s'.heap/\(a=X.env.locals ∨ X.env.cells.lookup x=some a))->Q () s') (hf:X.fn x=true ∨ X.env.scope.names.lookup x=some .local:=by first | exact .inl rfl | exact .inr rfl | assumption):wpAny M A (storeName X.env x u) Q E s:=by
 obtain ⟨m,hn,hl⟩:=id I.loc
 have hcls:(X.env.scope.kind == .class || (X.env.scope.kind == .module && X.env.locals != X.env.globals))=false:=by rw [I.ok.kind]; rfl
 have hiσ:i < σ.length:=by rw [I.len]; exact (aZ9.mp hi).1
 have cne:=I.cne
 have tracked:∀ {a:Addr}{h':Heap},(∃ o,s.heap.get? a=some o/\H a=none)->Heap.SameBut a s.heap h'->bL X.prog X.w H h':=fun {a h'} ha hs b ob e=>by
  obtain ⟨_,_,hfree⟩:=ha
  refine (I.hok b ob e).stay (fun c w' hc q=>(hs.2 c ?_).trans q) (fun _ q=>q) fun _ _ q=>q
  rintro rfl
  rcases hc with rfl | hc
  ·rw [hfree] at e; cases e
  ·rw [hfree] at hc; cases hc
 rcases hx with hk | hk
 ·refine wpAny_storeName_local hk hn (fun h' hn' hs=>?_) hcls
  obtain ⟨oL,_,_,hoL,_⟩:=id hn
  refine h _ ⟨I.ok,I.os,I.bare,⟨fun b o e n hb hx=>?_,fun b o e n hb hx=>?_,I.base.free,fun b o e hx=>?_,I.base.tups,I.base.frzs,I.base.tbls⟩,⟨_,hn',fun j y v' e1 e2 e3=>?_⟩,fun y c e=>?_,I.free,I.freeC,fun p hp=>?_,tracked ⟨oL,hoL,I.free⟩ hs,by simpa using I.len⟩ ⟨_,hs,.inl rfl⟩
  ·exact (hs.2 b (bc7 (ba5 (ba4 e) I.ok.above))).trans (I.base.keep b o e n hb hx)
  ·obtain ⟨sl,e1⟩:=I.base.slot b o e n hb hx
   exact⟨sl,(hs.2 b (bc7 (ba5 (ba4 e) I.ok.above))).trans e1⟩
  ·obtain ⟨o',e1⟩:=I.base.there b o e hx
   exact⟨o',(hs.2 b (bc7 (ba5 (ba4 e) I.ok.above))).trans e1⟩
  ·by_cases hj:j=i
   ·subst hj
    rw [hi] at e1; cases e1
    rw [bg2 hiσ] at e2
    cases e2
    exact⟨u,r,.inl ⟨hk,by simp⟩⟩
   ·rw [bb8 (Ne.symm hj)] at e2
    obtain ⟨u',r',q⟩:=hl j y v' e1 e2 e3
    refine⟨u',r',?_⟩
    rcases q with ⟨k,e⟩ | ⟨k,c,e,z⟩
    ·refine .inl ⟨k,?_⟩
     have:y ≠ x:=fun e=>hj (sN hN e1 (e ▸ hi))
     simp [this,e]
    ·exact .inr ⟨k,c,e,z.sameBut hs (cne y c e)⟩
  ·obtain ⟨w',z⟩:=I.cell y c e
   exact⟨w',z.sameBut hs (cne y c e)⟩
  ·obtain ⟨e,n,ne,nf,d⟩:=I.pin p hp
   exact⟨(hs.2 p.1 ne).trans e,n,ne,nf,d⟩
 ·have hfn:X.fn x=true:=by
   rcases hf with z | z
   ·exact z
   ·rw [z] at hk; cases hk
  obtain ⟨c,hc⟩:=I.ok.has x (.inl hk)
  obtain ⟨w',z⟩:=I.cell x c hc
  refine wpAny_storeName_cell I.ok.kind hk hc z (fun h' hc' hs=>?_)
  obtain ⟨oc,hoc,hocd⟩:=id z
  refine h { s with heap:=h' } ⟨I.ok,I.os,I.bare,⟨fun b o e n hb hx=>?_,fun b o e n hb hx=>?_,I.base.free,fun b o e hx=>?_,I.base.tups,I.base.frzs,I.base.tbls⟩,⟨m,hn.sameBut hs (Ne.symm (cne x c hc)),fun j y v' e1 e2 e3=>?_⟩,fun y c' e=>?_,I.free,I.freeC,fun p hp=>?_,tracked ⟨oc,hoc,I.freeC x c hc⟩ hs,by simpa using I.len⟩ ⟨c,hs,.inr hc⟩
  ·exact (hs.2 b (bc7 (ba5 (ba4 e) (I.ok.cab x c hfn hc)))).trans (I.base.keep b o e n hb hx)
  ·obtain ⟨sl,e1⟩:=I.base.slot b o e n hb hx
   exact⟨sl,(hs.2 b (bc7 (ba5 (ba4 e) (I.ok.cab x c hfn hc)))).trans e1⟩
  ·obtain ⟨o',e1⟩:=I.base.there b o e hx
   exact⟨o',(hs.2 b (bc7 (ba5 (ba4 e) (I.ok.cab x c hfn hc)))).trans e1⟩
  ·by_cases hj:j=i
   ·subst hj
    rw [hi] at e1; cases e1
    rw [bg2 hiσ] at e2
    cases e2
    exact⟨u,r,.inr ⟨.inl hk,c,hc,hc'⟩⟩
   ·rw [bb8 (Ne.symm hj)] at e2
    obtain ⟨u',r',q⟩:=hl j y v' e1 e2 e3
    refine⟨u',r',?_⟩
    rcases q with q | ⟨k,c',e,z'⟩
    ·exact .inl q
    ·refine .inr ⟨k,c',e,z'.sameBut hs ?_⟩
     rintro rfl
     exact hj (sN hN e1 (I.ok.inj _ _ _ e hc ▸ hi))
  ·by_cases hcc:c'=c
   ·subst hcc; exact⟨_,hc'⟩
   ·obtain ⟨w2,z2⟩:=I.cell y c' e
    exact⟨w2,z2.sameBut hs hcc⟩
  ·obtain ⟨e,n,ne,nf,d⟩:=I.pin p hp
   refine⟨(hs.2 p.1 ?_).trans e,n,ne,nf,d⟩
   intro q
   rw [q,hoc] at e
   have q':oc=p.2:=bc1 e
   exact d w' (by rw [<- q']; exact hocd)
theorem sP {M:Model}{A:Around}{E:Value->Shared->Prop}{i:Nat}{x:Str}{v:V}{u:Value}{Q:Unit->Shared->Prop} (I:a6 X pins σ H s) (hN:X.N.Nodup) (hi:X.N[i]? = some x) (hx:jN X.env.scope x) (r:aO v u)
  (h:∀ s',a6 X pins (σ.set i (some v)) H s'->Q () s') (hf:X.fn x=true ∨ X.env.scope.names.lookup x=some .local:=by first | exact .inl rfl | exact .inr rfl | assumption):wpAny M A (storeName X.env x u) Q E s:=
 sO I hN hi hx r (fun s' I' _=>h s' I') hf
theorem a6.call' {s':Shared}{ch:List Addr} (I:a6 X pins σ H s) (ho:s'.os=s.os) (u:Un (bF X.stack) ch H H' s.heap s'.heap) (hok:bL X.prog X.w H' s'.heap) (hg:AllBare s'.gens)
  (hch:∀ b ∈ ch,(b ∈ X.ex ∨ X.s₀.heap.objs.size<=b)/\b ≠ X.env.locals/\(∀ x c,X.env.cells.lookup x=some c->c ≠ b)/\∀ p ∈ X.pn ++ pins,p.1 ≠ b):a6 X pins σ H' s':=by
 obtain ⟨h',g',d',t',o'⟩:=s'
 have e:o'=s.os:=ho
 subst e
 exact I.call (g':=g') (t':=t') (d':=d') u hok hg hch
end
abbrev XK:=Value->Option Addr->Hp->Prop
abbrev St:=List (Option V)
abbrev VK:=V->Hp->Prop
abbrev TE:=St->Hp->VK->Prop
abbrev TT:=St->Hp->(Bool->Hp->Prop)->Prop
abbrev TA:=St->Hp->(List V->Hp->Prop)->Prop
structure c8 where
 nx:St->Hp->Prop
 rt:VK
 bk:St->Hp->Prop:=fun _ _=>False
 ct:St->Hp->Prop:=fun _ _=>False
abbrev TS:=c8->St->Hp->Prop
def EP (X:Cx) (pins:List (Addr × Obj)) (σ:St) (Q:VK) (u:Value) (s':Shared):Prop:=∃ v H',a6 X pins σ H' s'/\aO v u/\Q v H'
def TP (X:Cx) (pins:List (Addr × Obj)) (σ:St) (Q:Bool->Hp->Prop) (b:Bool) (s':Shared):Prop:=∃ H',a6 X pins σ H' s'/\Q b H'
def AP (X:Cx) (pins:List (Addr × Obj)) (σ:St) (Q:List V->Hp->Prop) (us:List Value) (s':Shared):Prop:=∃ vs H',a6 X pins σ H' s'/\aH vs us/\Q vs H'
def SP (X:Cx) (pins:List (Addr × Obj)) (D:c8) (f:Flow) (s':Shared):Prop:=
 match f with
 | .next=>∃ σ' H',a6 X pins σ' H' s'/\D.nx σ' H'
 | .brk=>∃ σ' H',a6 X pins σ' H' s'/\D.bk σ' H'
 | .cont=>∃ σ' H',a6 X pins σ' H' s'/\D.ct σ' H'
 | .ret u=>∃ v σ' H',a6 X pins σ' H' s'/\aO v u/\D.rt v H'
def PE (X:Cx) (e:Expr) (t:TE):Prop:=
 ∀ (pins:List (Addr × Obj)) (s:Shared) (σ:St) (H:Hp) (Q:VK),a6 X pins σ H s->t σ H Q->wpAny (model X.prog X.w) X.A (eval e X.env) (EP X pins σ Q) X.xe s
def PT (X:Cx) (e:Expr) (t:TT):Prop:=
 ∀ (pins:List (Addr × Obj)) (s:Shared) (σ:St) (H:Hp) (Q:Bool->Hp->Prop),a6 X pins σ H s->t σ H Q->wpAny (model X.prog X.w) X.A (isTrue e X.env (eval e X.env)) (TP X pins σ Q) X.xe s
def PW (X:Cx) (e:Expr) (t:TT):Prop:=
 ∀ (whole:Sem Value) (pins:List (Addr × Obj)) (s:Shared) (σ:St) (H:Hp) (Q:Bool->Hp->Prop),a6 X pins σ H s->t σ H Q->wpAny (model X.prog X.w) X.A (isTrue e X.env whole) (TP X pins σ Q) X.xe s
theorem PW.pt {X:Cx}{e:Expr}{t:TT} (h:PW X e t):PT X e t:=h _
def PA (X:Cx) (es:List Expr) (t:TA):Prop:=
 ∀ (pos:Pos) (pins:List (Addr × Obj)) (s:Shared) (σ:St) (H:Hp) (Q:List V->Hp->Prop),a6 X pins σ H s->t σ H Q->wpAny (model X.prog X.w) X.A (spliced (backTo pos (starEach es X.env))) (AP X pins σ Q) X.xe s
def PS (X:Cx) (st:Stmt) (t:TS):Prop:=
 ∀ (pins:List (Addr × Obj)) (s:Shared) (σ:St) (H:Hp) (D:c8),a6 X pins σ H s->t D σ H->wpAny (model X.prog X.w) X.A (exec st X.env) (SP X pins D) X.xe s
def dC (X:Cx) (st:List Stmt) (t:TS):Prop:=
 ∀ (pins:List (Addr × Obj)) (s:Shared) (σ:St) (H:Hp) (D:c8),a6 X pins σ H s->t D σ H->wpAny (model X.prog X.w) X.A (execs st X.env) (SP X pins D) X.xe s
theorem aJ {α:Type}{t:Sem α}{Q Q':α->Shared->Prop}{M:Model}{A:Around}{E:Value->Shared->Prop}{s:Shared} (h:wpAny M A t Q E s) (hQ:∀ a s,Q a s->Q' a s):wpAny M A t Q' E s:=bh9 h hQ fun _ _ x=>x
section
variable {X : Cx}
theorem bin {a b:Expr}{ta tb:TE} (ha:PE X a ta) (hb:PE X b tb) {pins:List (Addr × Obj)}{s:Shared}{σ:St}{H:Hp}{R:V->V->Hp->Prop} (I:a6 X pins σ H s) (h:ta σ H fun x H1=>tb σ H1 fun y H2=>R x y H2)
  {α:Type}{Q:α->Shared->Prop}{f:Value->Value->Sem α}
  (hf:∀ v u s2 x y H2,a6 X pins σ H2 s2->aO x v->aO y u->R x y H2->wpAny (model X.prog X.w) X.A (f v u) Q X.xe s2) :
  wpAny (model X.prog X.w) X.A (eval a X.env) (fun v s₁=>wpAny (model X.prog X.w) X.A (eval b X.env) (fun u s₂=>wpAny (model X.prog X.w) X.A (f v u) Q X.xe s₂) X.xe s₁) X.xe s:=by
 refine aJ (ha pins s σ H _ I h) fun v s1 ⟨x,H1,I1,r1,q1⟩=>?_
 refine aJ (hb pins s1 σ H1 _ I1 q1) fun u s2 ⟨y,H2,I2,r2,q2⟩=>?_
 exact hf v u s2 x y H2 I2 r1 r2 q2
def jO (i:Nat):TE:=fun σ H Q=>∃ v,σ[i]? = some (some v)/\Q v H
def tC (v:V):TE:=fun _ H Q=>Q v H
theorem kO {i:Nat}{x:Str}{pos:Pos} (hN:X.N[i]? = some x) (hv:hV X.env.scope x) (hd:(x == ("__debug__" : Str))=false:=by decide) (hcd:(x == ("__classdict__" : Str))=false:=by decide):PE X (.Name x pos) (jO i):=by
 intro pins s σ H Q I h
 obtain ⟨v,e,h⟩:=h
 obtain ⟨m,hn,hl⟩:=I.loc
 obtain ⟨u,r,l⟩:=hl i x v hN e hv
 have fin:EP X pins σ Q u s:=⟨v,H,I,r,h⟩
 rcases l with ⟨hk,hm⟩ | ⟨hk,c,hc,hcell⟩
 ·exact wpAny_Name (wpAny_loadName_local I.ok.kind hk hn hm fin) hd
 ·rcases hk with hk | hk
  ·exact wpAny_Name (wpAny_loadName_cell I.ok.kind hk hc hcell fin) hd
  ·exact wpAny_Name (wpAny_loadName_free I.ok.kind hk hc hcell fin hcd) hd
theorem jP {i j pos}:PE X (.Constant (.int i) j pos) (tC (.int i)):=fun _ _ _ H _ I h=>wpAny_Constant_int ⟨.int i,H,I.tok _,⟨_,rfl⟩,h⟩
theorem ae1 {b j pos}:PE X (.Constant (.bool b) j pos) (tC (.bl b)):=fun _ _ _ H _ I h=>Constant_bool ⟨.bl b,H,I,rfl,h⟩
theorem ae2 {j pos}:PE X (.Constant .none j pos) (tC .non):=fun _ _ _ H _ I h=>Constant_none ⟨.non,H,I,rfl,h⟩
theorem ae3 {x j pos}:PE X (.Constant (.str x) j pos) (tC (.str x)):=fun _ _ _ H _ I h=>Calls.Constant_str ⟨.str x,H,I.tok _,⟨_,rfl⟩,h⟩
def Gl (X:Cx) (x:Str):Prop:=X.env.kindOf x=some .globalImplicit
theorem mI {E:Value->Shared->Prop}{pins:List (Addr × Obj)}{s:Shared}{σ:St}{H:Hp}{x:Str}{u:Value}{pos:Pos}{Q:Value->Shared->Prop} (I:a6 X pins σ H s) (hg:Gl X x) (hm:X.mg x=some u) (h:Q u s)
  (hd:(x == ("__debug__" : Str))=false:=by decide):wpAny (model X.prog X.w) X.A (eval (.Name x pos) X.env) Q E s:=
 Calls.Name_function_global I.ok.kind hg (Calls.loadGlobal_global (by rw [I.ok.glob]; exact I.mod.glob.keeps I.bk) hm h) hd
theorem i5 {E:Value->Shared->Prop}{pins:List (Addr × Obj)}{s:Shared}{σ:St}{H:Hp}{x:Str}{u:Value}{pos:Pos}{Q:Value->Shared->Prop} (I:a6 X pins σ H s) (hg:Gl X x) (hm:X.mg x=none) (hv:bootBuiltins x=some u) (h:Q u s)
  (hn:x ≠ "__name__":=by decide) (hd:(x == ("__debug__" : Str))=false:=by decide):wpAny (model X.prog X.w) X.A (eval (.Name x pos) X.env) Q E s:=by
 obtain ⟨mb,h1,h2⟩:=I.mod.blt
 exact Calls.Name_function_global I.ok.kind hg (Calls.loadGlobal_builtin (by rw [I.ok.glob]; exact I.mod.glob.keeps I.bk) hm (by rw [I.ok.blt]; exact h1.keeps I.bk) ((h2 x hn).trans hv) h) hd
theorem xK {x:Str}{v:V}{u:Value}{pos:Pos} (hg:Gl X x) (hm:X.mg x=some u) (r:aO v u) (hd:(x == ("__debug__" : Str))=false:=by decide):PE X (.Name x pos) (tC v):=
 fun _ _ _ H _ I h=>mI I hg hm ⟨v,H,I,r,h⟩ hd
theorem xL {x:Str}{v:V}{u:Value}{pos:Pos} (hg:Gl X x) (hm:X.mg x=none) (hv:bootBuiltins x=some u) (r:aO v u) (hn:x ≠ "__name__":=by decide) (hd:(x == ("__debug__" : Str))=false:=by decide):PE X (.Name x pos) (tC v):=
 fun _ _ _ H _ I h=>i5 I hg hm hv ⟨v,H,I,r,h⟩ hn hd
variable {a b : Expr} {ta tb : TE} {pos : Pos}
def PC (X:Cx) (op:CmpOp) (a b:Expr) (t:TE):Prop:=
 ∀ (pins:List (Addr × Obj)) (s:Shared) (σ:St) (H:Hp) (Q:VK),a6 X pins σ H s->t σ H Q->
  wpAny (model X.prog X.w) X.A (eval a X.env) (fun v s₁=>wpAny (model X.prog X.w) X.A (eval b X.env) (fun u s₂=>wpAny (model X.prog X.w) X.A (compareOp op v u) (EP X pins σ Q) X.xe s₂) X.xe s₁) X.xe s
def tB (t:TE):TT:=fun σ H Q=>t σ H fun x H1=>∃ c,x = .bl c/\Q c H1
theorem ae4 {op:CmpOp}{t:TE} (h:PC X op a b t) (h1:behindInMarks op b=false:=by first | exact nobehind _ (by decide) (by decide) | rfl):PT X (.Compare a [op] [b] pos) (tB t):=by
 intro pins s σ H Q I hw
 refine wpAny_isTrue_Compare1 (aJ (h pins s σ H _ I hw) fun v s1 h1=>aJ h1 fun u s2 h2=>aJ h2 fun c s3 ⟨x,H1,I1,r1,q1⟩=>?_) h1
 obtain ⟨d,rfl,q⟩:=q1
 cases r1
 exact bh6 ⟨H1,I1,q⟩
theorem ae5 {e:Expr}{t:TE} (h:PE X e t) (he:∀ whole,isTrue e X.env whole=(do let v <- whole; standAt e.pos; holding [v] (truthy v)):=by intro _; rfl):PT X e (tB t):=by
 intro pins s σ H Q I hw
 refine isTrue_plain (aJ (h pins s σ H _ I hw) fun v s1 ⟨x,H1,I1,r1,q1⟩=>?_) (he _)
 obtain ⟨d,rfl,q⟩:=q1
 cases r1
 exact bh6 ⟨H1,I1,q⟩
variable {tA tB' : TT} {bM : List Expr}
def xM (t u:TT):TT:=fun σ H Q=>t σ H fun c H1=>if c=true then u σ H1 Q else Q false H1
def xN (t u:TT):TT:=fun σ H Q=>t σ H fun c H1=>if c=true then Q true H1 else u σ H1 Q
def xO (t:TT):TT:=fun σ H Q=>t σ H fun c H1=>Q (!c) H1
theorem ae6 (ha:PT X a tA):PW X (.BoolOp .And [a] pos) tA:=by
 intro wh pins s σ H Q I h
 refine isTrue_and (aJ (ha pins s σ H Q I h) fun c s1 e=>?_)
 cases c with
 | true=>exact isTrue_and_nil e
 | false=>exact e
theorem ae7 (ha:PT X a tA):PW X (.BoolOp .Or [a] pos) tA:=by
 intro wh pins s σ H Q I h
 refine isTrue_or (aJ (ha pins s σ H Q I h) fun c s1 e=>?_)
 cases c with
 | false=>exact isTrue_or_nil e
 | true=>exact e
theorem ae8 (ha:PT X a tA) (hb:PW X (.BoolOp .And (b :: bM) pos) tB'):PW X (.BoolOp .And (a :: b :: bM) pos) (xM tA tB'):=by
 intro wh pins s σ H Q I h
 refine isTrue_and (aJ (ha pins s σ H _ I h) fun c s1 ⟨H1,I1,q1⟩=>?_)
 cases c with
 | true=>exact hb wh pins s1 σ H1 Q I1 q1
 | false=>exact⟨H1,I1,q1⟩
theorem ae9 (ha:PT X a tA) (hb:PW X (.BoolOp .Or (b :: bM) pos) tB'):PW X (.BoolOp .Or (a :: b :: bM) pos) (xN tA tB'):=by
 intro wh pins s σ H Q I h
 refine isTrue_or (aJ (ha pins s σ H _ I h) fun c s1 ⟨H1,I1,q1⟩=>?_)
 cases c with
 | true=>exact⟨H1,I1,q1⟩
 | false=>exact hb wh pins s1 σ H1 Q I1 q1
theorem af0 (ha:PT X a tA):PT X (.UnaryOp .Not a pos) (xO tA):=by
 intro pins s σ H Q I h
 exact isTrue_not (ha pins s σ H (fun c H1=>Q (!c) H1) I h)
def xP (ta tb:TE):TE:=fun σ H Q=>ta σ H fun x H1=>∃ c,x = .bl c/\if c=true then tb σ H1 Q else Q (.bl false) H1
def xQ (ta tb:TE):TE:=fun σ H Q=>ta σ H fun x H1=>∃ c,x = .bl c/\if c=true then Q (.bl true) H1 else tb σ H1 Q
def xR (ta:TE):TE:=fun σ H Q=>ta σ H fun x H1=>∃ c,x = .bl c/\Q (.bl (!c)) H1
theorem af1 {op}{t:TE} (h:PE X a t):PE X (.BoolOp op [a] pos) t:=fun pins s σ H Q I hw=>BoolOp_one (h pins s σ H Q I hw)
theorem af2 (ha:PE X a ta) (hb:PE X (.BoolOp .And (b :: bM) pos) tb):PE X (.BoolOp .And (a :: b :: bM) pos) (xP ta tb):=by
 intro pins s σ H Q I h
 refine BoolOp_and (aJ (ha pins s σ H _ I h) fun v s1 ⟨x,H1,I1,r1,q1⟩=>?_)
 obtain ⟨c,rfl,q1⟩:=q1
 cases r1
 refine bh6 ?_
 cases c with
 | true=>exact hb pins s1 σ H1 Q I1 q1
 | false=>exact⟨.bl false,H1,I1,rfl,q1⟩
theorem af3 (ha:PE X a ta) (hb:PE X (.BoolOp .Or (b :: bM) pos) tb):PE X (.BoolOp .Or (a :: b :: bM) pos) (xQ ta tb):=by
 intro pins s σ H Q I h
 refine BoolOp_or (aJ (ha pins s σ H _ I h) fun v s1 ⟨x,H1,I1,r1,q1⟩=>?_)
 obtain ⟨c,rfl,q1⟩:=q1
 cases r1
 refine bh6 ?_
 cases c with
 | false=>exact hb pins s1 σ H1 Q I1 q1
 | true=>exact⟨.bl true,H1,I1,rfl,q1⟩
theorem af4 (ha:PE X a ta):PE X (.UnaryOp .Not a pos) (xR ta):=by
 intro pins s σ H Q I h
 refine UnaryOp_ (aJ (ha pins s σ H _ I h) fun v s1 ⟨x,H1,I1,r1,q1⟩=>?_)
 obtain ⟨c,rfl,q1⟩:=q1
 cases r1
 exact not_of (bh6 ⟨.bl (!c),H1,I1,rfl,q1⟩)
end
def aG (K:PySem.W.Frag) (H:Hp) (a:Addr) (xs:List V):Prop:=
 Rd H a (.lst xs) ∨
  ∃ (o:Obj) (its:Array Value) (n:Nat),K.lookup a=some o/\o.cls = .type "list"/\o.dict=none/\o.data = .seq its n/\its.size<=sizeLine/\aH xs its.toList
def aD (K:PySem.W.Frag) (H:Hp) (a:Addr) (xs:List V):Prop:=
 Rd H a (.tup xs) ∨
  ∃ (o:Obj) (its:Array Value) (n:Nat),K.lookup a=some o/\o.cls = .type "tuple"/\o.data = .seq its n/\its.size<=sizeLine/\aH xs its.toList
def af5:Value->Option V
 | .none=>some .non
 | .bool b=>some (.bl b)
 | .int i _=>some (.int i)
 | .str x _=>some (.str x)
 | .bytes b _=>some (.byt b)
 | .float b _=>some (.flt b)
 | .ref a=>some (.ref a)
 | .type n=>some (.ty n)
 | _=>none
theorem aO.abs {x:V}{u:Value} (r:aO x u):af5 u=some x:=by
 cases x with
 | non=>cases r; rfl
 | bl _=>cases r; rfl
 | int _=>obtain ⟨t,rfl⟩:=r; rfl
 | str _=>obtain ⟨t,rfl⟩:=r; rfl
 | byt _=>obtain ⟨t,rfl⟩:=r; rfl
 | flt _=>obtain ⟨t,rfl⟩:=r; rfl
 | ref _=>cases r; rfl
 | ty _=>cases r; rfl
theorem aO.inj {x y:V}{u:Value} (r:aO x u) (q:aO y u):x=y:=bc1 (r.abs.symm.trans q.abs)
theorem aH.inj:∀ {xs ys:List V}{us:List Value},aH xs us->aH ys us->xs=ys
 | _,_,_,.nil,.nil=>rfl
 | _,_,_,.cons r t,.cons r' t'=>by rw [r.inj r',aH.inj t t']
section
variable {X : Cx} {pins : List (Addr × Obj)} {σ : St} {H : Hp} {s : Shared} {a : Addr} {xs ys : List V}
theorem aG.of {K:PySem.W.Frag} (h:H a=some (.lst xs)):aG K H a xs:=.inl (.inl h)
theorem aD.of {K:PySem.W.Frag} (h:H a=some (.tup xs)):aD K H a xs:=.inl (.inl h)
theorem a6.list (I:a6 X pins σ H s) (h:aG X.K H a xs):∃ its:List Value,aH xs its/\PlainL s.heap a its.toArray/\xs.length<=sizeLine:=by
 rcases h with h | ⟨o,its,n,hk,hc,hd,hs,hz,r⟩
 ·obtain ⟨z,its,n,r,e⟩:=h.ok I.hok
  exact⟨its,r,⟨_,n,e,rfl,rfl,rfl⟩,z⟩
 ·refine⟨its.toList,r,⟨o,n,I.kIn a o hk,hc,hd,by simpa using hs⟩,?_⟩
  have e:=r.length
  simp only [bg7] at e
  omega
theorem a6.tuple (I:a6 X pins σ H s) (h:aD X.K H a xs):∃ its:List Value,aH xs its/\IsTup s.heap a its.toArray/\xs.length<=sizeLine:=by
 rcases h with h | ⟨o,its,n,hk,hc,hs,hz,r⟩
 ·obtain ⟨z,its,r,p⟩:=h.ok I.hok
  exact⟨its,r,p,z⟩
 ·refine⟨its.toList,r,⟨o,I.kIn a o hk,hc,n,by simpa using hs⟩,?_⟩
  have e:=r.length
  simp only [bg7] at e
  omega
theorem a6.list_inj (I:a6 X pins σ H s) (h:aG X.K H a xs) (h':aG X.K H a ys):xs=ys:=by
 obtain ⟨its,r,⟨o,n,e,_,_,d⟩,_⟩:=I.list h
 obtain ⟨its',r',⟨o',n',e',_,_,d'⟩,_⟩:=I.list h'
 rw [e] at e'; cases e'
 rw [d] at d'
 injection d' with d1 _
 have:its=its':=by simpa using congrArg Array.toList d1
 subst this
 exact r.inj r'
theorem a6.tuple_inj (I:a6 X pins σ H s) (h:aD X.K H a xs) (h':aD X.K H a ys):xs=ys:=by
 obtain ⟨its,r,⟨o,e,_,n,d⟩,_⟩:=I.tuple h
 obtain ⟨its',r',⟨o',e',_,n',d'⟩,_⟩:=I.tuple h'
 rw [e] at e'; cases e'
 rw [d] at d'
 injection d' with d1 _
 have:its=its':=by simpa using congrArg Array.toList d1
 subst this
 exact r.inj r'
end
abbrev Cx.wish (X:Cx) (E:Value->Shared->Prop):Cx:={ X with xe:=E }
abbrev Cx.nox (X:Cx):Cx:=X.wish fun _ _=>False
theorem Cx.Ok.wish {X:Cx} (ok:X.Ok) (E:Value->Shared->Prop):(X.wish E).Ok:=
 ⟨ok.mod,ok.kind,ok.glob,ok.blt,ok.above,ok.inj,ok.has,ok.cab,ok.hd,ok.frames,ok.stk,ok.exf,ok.bs,ok.bsz,ok.noex,ok.exfs,ok.funs,ok.frf⟩
theorem Cx.Ok.unwish {X:Cx}{E:Value->Shared->Prop} (ok:(X.wish E).Ok):X.Ok:=
 ⟨ok.mod,ok.kind,ok.glob,ok.blt,ok.above,ok.inj,ok.has,ok.cab,ok.hd,ok.frames,ok.stk,ok.exf,ok.bs,ok.bsz,ok.noex,ok.exfs,ok.funs,ok.frf⟩
section
variable {X : Cx} {pins : List (Addr × Obj)} {σ : St} {H : Hp} {s : Shared} {E : Value → Shared → Prop}
theorem a6.wish (I:a6 X pins σ H s) (E:Value->Shared->Prop):a6 (X.wish E) pins σ H s:=⟨I.ok.wish E,I.os,I.bare,I.base,I.loc,I.cell,I.free,I.freeC,I.pin,I.hok,I.len⟩
theorem a6.unwish (I:a6 (X.wish E) pins σ H s):a6 X pins σ H s:=⟨I.ok.unwish,I.os,I.bare,I.base,I.loc,I.cell,I.free,I.freeC,I.pin,I.hok,I.len⟩
theorem SP.unwish {D:c8}{f:Flow}{s':Shared} (h:SP (X.wish E) pins D f s'):SP X pins D f s':=by
 cases f with
 | next=>obtain ⟨σ',H',I,q⟩:=h; exact⟨σ',H',I.unwish,q⟩
 | brk=>obtain ⟨σ',H',I,q⟩:=h; exact⟨σ',H',I.unwish,q⟩
 | cont=>obtain ⟨σ',H',I,q⟩:=h; exact⟨σ',H',I.unwish,q⟩
 | ret u=>obtain ⟨v,σ',H',I,r,q⟩:=h; exact⟨v,σ',H',I.unwish,r,q⟩
theorem dC.nox {st:List Stmt}{t:TS} (h:dC X.nox st t):dC X st t:=fun pins s σ H D I hw=>
 bh9 (h pins s σ H D (I.wish _) hw) (fun _ _ q=>q.unwish) fun _ _ z=>False.elim z
end
section
variable {X : Cx} {st : Stmt} {bM : List Stmt} {t u : TS} {e : Expr} {te : TE} {pos : Pos}
def xS:TS:=fun D σ H=>D.nx σ H
def xT (t u:TS):TS:=fun D σ H=>t { D with nx:=u D } σ H
theorem af6:dC X [] xS:=fun _ _ σ H _ I h=>wpAny_execs_nil ⟨σ,H,I,h⟩
theorem jQ (h1:PS X st t) (h2:dC X bM u):dC X (st :: bM) (xT t u):=by
 intro pins s σ H D I h
 refine wpAny_execs_cons (aJ (h1 pins s σ H { D with nx:=u D } I h) fun f s1 q=>?_)
 cases f with
 | next=>
  obtain ⟨σ',H',I',q⟩:=q
  exact h2 pins s1 σ' H' D I' q
 | ret v=>exact q
 | brk=>exact q
 | cont=>exact q
theorem jR (h1:PS X st t):dC X [st] t:=by
 intro pins s σ H D I h
 refine wpAny_execs_cons (aJ (h1 pins s σ H D I h) fun f s1 q=>?_)
 cases f with
 | next=>exact wpAny_execs_nil q
 | ret v=>exact q
 | brk=>exact q
 | cont=>exact q
theorem a6.quiet {pins:List (Addr × Obj)}{σ:St}{H:Hp}{s:Shared} (I:a6 X pins σ H s):interactive X.env=false:=by simp [interactive,I.ok.kind]
def xU (te:TE):TS:=fun D σ H=>te σ H fun _ H1=>D.nx σ H1
theorem mJ (he:PE X e te) (hs:swapsWith e none pos.line X.env=pure false:=by rfl):PS X (.Expr e pos) (xU te):=by
 intro pins s σ H D I h
 exact wpAny_Expr_any (aJ (he pins s σ H _ I h) fun v s1 ⟨x,H1,I1,r1,q1⟩=>⟨σ,H1,I1,q1⟩) I.quiet hs
def sQ (te:TE):TS:=fun D σ H=>te σ H D.rt
theorem kQ (he:PE X e te):PS X (.Return (some e) pos) (sQ te):=by
 intro pins s σ H D I h
 exact wpAny_Return_some (aJ (he pins s σ H _ I h) fun v s1 ⟨x,H1,I1,r1,q1⟩=>⟨x,σ,H1,I1,r1,q1⟩)
def xV (c:TT) (t u:TS):TS:=fun D σ H=>c σ H fun b H1=>if b=true then t D σ H1 else u D σ H1
theorem af7 {c:Expr}{a b:List Stmt}{tc:TT} (hc:PT X c tc) (ha:dC X a t) (hb:dC X b u):PS X (.If c a b pos) (xV tc t u):=by
 intro pins s σ H D I h
 refine wpAny_If (aJ (hc pins s σ H _ I h) fun d s1 ⟨H1,I1,q1⟩=>?_)
 cases d with
 | true=>exact ha pins s1 σ H1 D I1 q1
 | false=>exact hb pins s1 σ H1 D I1 q1
end
abbrev TG:=V->St->Hp->(St->Hp->Prop)->Prop
abbrev jS:=List V->St->Hp->(St->Hp->Prop)->Prop
def PG (X:Cx) (target:Expr) (t:TG):Prop:=
 ∀ (pins:List (Addr × Obj)) (s:Shared) (σ:St) (H:Hp) (v:V) (u:Value) (Q:St->Hp->Prop),a6 X pins σ H s->aO v u->t v σ H Q->
  wpAny (model X.prog X.w) X.A (assign target X.env u) (fun _ s'=>∃ σ' H',a6 X pins σ' H' s'/\Q σ' H') X.xe s
def oR (X:Cx) (ts:List Expr) (t:jS):Prop:=
 ∀ (pins:List (Addr × Obj)) (s:Shared) (σ:St) (H:Hp) (vs:List V) (us:List Value) (Q:St->Hp->Prop),a6 X pins σ H s->aH vs us->t vs σ H Q->
  wpAny (model X.prog X.w) X.A (assignInOrder ((assignEach ts X.env).map (·.2)) us) (fun _ s'=>∃ σ' H',a6 X pins σ' H' s'/\Q σ' H') X.xe s
abbrev sR:=V->V->V->Hp->(Hp->Prop)->Prop
def xW (X:Cx) (t:sR):Prop:=
 ∀ (pins:List (Addr × Obj)) (s:Shared) (σ:St) (H:Hp) (o i v:V) (ov iv u:Value) (Q:Hp->Prop),a6 X pins σ H s->aO o ov->aO i iv->aO v u->t o i v H Q->
  wpAny (model X.prog X.w) X.A (setItem ov iv u) (fun _ s'=>∃ H',a6 X pins σ H' s'/\Q H') X.xe s
section
variable {X : Cx} {pos : Pos}
def cV (i:Nat):TG:=fun v σ H Q=>Q (σ.set i (some v)) H
theorem eN {i:Nat}{x:Str} (hN:X.N.Nodup) (hi:X.N[i]? = some x) (hx:jN X.env.scope x) (hf:X.fn x=true ∨ X.env.scope.names.lookup x=some .local:=by first | exact .inl rfl | exact .inr rfl | assumption):PG X (.Name x pos) (cV i):=by
 intro pins s σ H v u Q I r h
 exact wpAny_assign_Name (sP I hN hi hx r (fun s' I'=>⟨_,H,I',h⟩) hf)
def kR:jS:=fun vs σ H Q=>vs = []/\Q σ H
def fX (t:TG) (u:jS):jS:=fun vs σ H Q=>∃ v r,vs=v :: r/\t v σ H fun σ' H'=>u r σ' H' Q
theorem mK:oR X [] kR:=by
 intro pins s σ H vs us Q I r h
 obtain ⟨e,h⟩:=h
 subst e
 cases r
 exact assignInOrder_nil ⟨σ,H,I,h⟩
theorem gQ {e:Expr}{es:List Expr}{t:TG}{u:jS} (h1:PG X e t) (h2:oR X es u)
  (hs:(assignEach (e :: es) X.env).map (·.2)=assign e X.env :: (assignEach es X.env).map (·.2):=by rfl):oR X (e :: es) (fX t u):=by
 intro pins s σ H vs us Q I r h
 obtain ⟨v,vr,e1,h⟩:=h
 subst e1
 cases r with
 | cons r rr=>
  rw [hs]
  refine assignInOrder_cons (aJ (h1 pins s σ H _ _ _ I r h) fun _ s1 ⟨σ1,H1,I1,q1⟩=>?_)
  exact h2 pins s1 σ1 H1 _ _ Q I1 rr q1
def kS (K:PySem.W.Frag) (n:Nat) (t:jS):TG:=fun v σ H Q=>∃ a xs,v = .ref a/\aD K H a xs/\xs.length=n/\t xs σ H Q
theorem mL {es:List Expr}{k:Nat}{t:jS}{n:Nat} (hc:X.calm=true) (h:oR X es t)
  (hn:(assignEach es X.env).length=n:=by rfl) (hst:(assignEach es X.env).findIdx? (·.1)=none:=by rfl):PG X (.Tuple es k pos) (kS X.K n t):=by
 intro pins s σ H v u Q I r hw
 obtain ⟨a,xs,e1,hq,hl,hw⟩:=hw
 subst e1
 cases r
 obtain ⟨its,rv,ht,hz⟩:=I.tuple hq
 refine assign_Tuple_tuple (I.ok.hd hc) ht (by simp [hn,<- hl,rv.length]) hst fun h' hx=>?_
 have I1:a6 X pins σ H { s with heap:=h' }:=I.kept (t':=s.toks) fun b o e=>hx b o (bc7 (ba4 e)) e
 exact h pins _ σ H xs _ Q I1 (by simpa using rv) hw
def sT (to ti:TE) (t:sR):TG:=fun v σ H Q=>to σ H fun o H1=>ti σ H1 fun i H2=>t o i v H2 fun H3=>Q σ H3
theorem af8 {o i:Expr}{to ti:TE}{t:sR} (ho:PE X o to) (hi:PE X i ti) (hs:xW X t)
  (ha:∀ v,assign (.Subscript o i pos) X.env v=(do
   let ov <- holding [v] (eval o X.env)
   let iv <- holding [v,ov] (eval i X.env)
   standAt pos
   holding [v,ov,iv] (setItem ov iv v)
   release [v,ov,iv] []):=by intro _; rfl):PG X (.Subscript o i pos) (sT to ti t):=by
 intro pins s σ H v u Q I r h
 rw [ha]
 refine aY9 (bh7 (aJ (ho pins s σ H _ I h) fun ov s1 ⟨x,H1,I1,r1,q1⟩=>?_))
 refine aY9 (bh7 (aJ (hi pins s1 σ H1 _ I1 q1) fun iv s2 ⟨y,H2,I2,r2,q2⟩=>?_))
 refine aY9 (wpAny_standAt (aY9 (bh7 (aJ (hs pins s2 σ H2 x y v ov iv u _ I2 r1 r2 r q2) fun _ s3 ⟨H3,I3,q3⟩=>?_))))
 exact wpAny_release ⟨σ,H3,I3,q3⟩
def jT (te:TE) (g:TG):TS:=fun D σ H=>te σ H fun x H1=>g x σ H1 D.nx
theorem af9 {tg e:Expr}{te:TE}{g:TG} (he:PE X e te) (hg:PG X tg g) (hs:swapsWithSole [tg] e pos.line X.env=pure false:=by rfl) (hw:swappedStores [tg] e X.env=pure none:=by rfl)
  (h1:(assignEach [tg] X.env).map (·.2) = [assign tg X.env]:=by rfl):PS X (.Assign [tg] e pos) (jT te g):=by
 intro pins s σ H D I h
 refine wpAny_Assign_stores (aJ (he pins s σ H _ I h) fun v s1 ⟨x,H1,I1,r1,q1⟩=>?_) hs hw
 rw [h1]
 exact aJ (hg pins s1 σ H1 x v _ I1 r1 q1) fun _ s2 q=>q
theorem xX {i:Nat}{x:Str}{e:Expr}{te:TE}{pos':Pos} (hN:X.N.Nodup) (hi:X.N[i]? = some x) (hx:jN X.env.scope x) (he:PE X e te) (hs:swapsWith e (some (.Name x pos')) pos.line X.env=pure false:=by rfl) (hf:X.fn x=true ∨ X.env.scope.names.lookup x=some .local:=by first | exact .inl rfl | exact .inr rfl | assumption) :
  PS X (.Assign [.Name x pos'] e pos) (jT te (cV i)):=by
 intro pins s σ H D I h
 refine wpAny_Assign_Name (aJ (he pins s σ H _ I h) fun v s1 ⟨y,H1,I1,r1,q1⟩=>?_) hs
 exact sP I1 hN hi hx r1 (fun s2 I2=>⟨_,H1,I2,q1⟩) hf
end
section
variable {X : Cx} {pos : Pos}
def xY (c:TT) (tb:TS):TS:=fun D σ H=>∃ W:Nat->St->Hp->Prop,(∃ m,W m σ H)/\∀ m σ H,W m σ H->
 c σ H fun b H1=>if b=true then ∃ N:St->Hp->Prop,(∀ σ' H',N σ' H'->∃ m',m' < m/\W m' σ' H')/\tb { D with nx:=N,ct:=N,bk:=D.nx } σ H1 else D.nx σ H1
theorem ag0 {c:Expr}{body:List Stmt}{tc:TT}{tb:TS} (hp:PassesOwn (model X.prog X.w) X.A X.env X.xe) (hc:PT X c tc) (hb:dC X body tb):PS X (.While c body [] pos) (xY tc tb):=by
 intro pins s σ H D I h
 obtain ⟨W,⟨m0,w0⟩,turn⟩:=h
 refine wpAny_While (codeAny_whileLoop (fun n s'=>∃ σ' H',a6 X pins σ' H' s'/\W n σ' H') ?_ m0 ⟨σ,H,I,w0⟩)
 rintro n s1 ⟨σ1,H1,I1,w1⟩
 refine bn8 hp (aJ (hc pins s1 σ1 H1 _ I1 (turn n σ1 H1 w1)) fun b s2 ⟨H2,I2,q2⟩=>?_)
 cases b with
 | true=>
  obtain ⟨N,hN,q2⟩:=q2
  rw [if_pos rfl]
  refine bn8 hp (aJ (hb pins s2 σ1 H2 _ I2 q2) fun f s3 q3=>?_)
  cases f with
  | next=>
   obtain ⟨σ3,H3,I3,n3⟩:=q3
   obtain ⟨m',hm,w3⟩:=hN σ3 H3 n3
   exact⟨m',hm,σ3,H3,I3,w3⟩
  | cont=>
   obtain ⟨σ3,H3,I3,n3⟩:=q3
   obtain ⟨m',hm,w3⟩:=hN σ3 H3 n3
   exact⟨m',hm,σ3,H3,I3,w3⟩
  | brk=>exact q3
  | ret v=>exact q3
 | false=>
  rw [if_neg ba7]
  exact wpAny_execs_nil ⟨σ1,H2,I2,q2⟩
end
structure It where
 go:Nat->Hp->Prop
 yld:Nat->Hp->V->Hp->Prop
 stop:Nat->Hp->Prop
def fP (X:Cx) (pins:List (Addr × Obj)) (H:Hp) (b:Addr):Prop:=
 H b=none/\b ≠ X.env.locals/\b ∉ X.fs/\(b ∈ X.ex ∨ X.s₀.heap.objs.size<=b)/\(∀ x c,X.env.cells.lookup x=some c->c ≠ b)/\∀ p ∈ X.pn ++ pins,p.1 ≠ b
theorem a6.fpOk {X:Cx}{pins:List (Addr × Obj)}{σ:St}{H H':Hp}{s:Shared}{b:Addr} (I:a6 X pins σ H s) (hb:s.heap.objs.size<=b) (hn:H' b=none):fP X pins H' b:=by
 refine⟨hn,bj0 (ba5 I.lt hb),I.nofs hb,.inr (bd4 I.sz hb),fun x c e z=>?_,fun p hp z=>?_⟩
 ·obtain ⟨v,q⟩:=I.cell x c e
  exact absurd (ba5 q.lt (by rw [z]; exact hb)) (bg3 _)
 ·exact absurd (ba5 (ba4 (I.pin p hp).1) (by rw [z]; exact hb)) (bg3 _)
structure gR (P:Program) (w:World) (K:PySem.W.Frag) (tg:Expr) (J:It) (fp:List Addr) (it:Addr) (tn:Nat->Heap->Prop):Prop where
 mem:it ∈ fp
 obj:∀ i h,tn i h->∀ b ∈ fp,∃ o,h.get? b=some o/\∀ v,o.data ≠ .cell v
 keep:∀ i h h',tn i h->(∀ b ∈ fp,∀ o,h.get? b=some o->h'.get? b=some o)->tn i h'
 item:∀ (X:Cx),X.prog=P->X.w=w->X.K=K->X.calm=true->∀ (i:Nat) (pins:List (Addr × Obj)) (s:Shared) (σ:St) (H:Hp) (E:Value->Shared->Prop),a6 X pins σ H s->(∀ b ∈ fp,fP X pins H b)->tn i s.heap->J.go i H->
  wpAny (model P w) X.A (pyNext (.ref it)) (fun r s1=>∃ u,r=some u/\
   wpAny (model P w) X.A (letOwnedTupleGo tg (.ref it) u) (fun _ s2=>∃ x H',a6 X pins σ H' s2/\aO x u/\J.yld i H x H'/\tn (i+1) s2.heap/\∀ b ∈ fp,H' b=none) E s1) E s
 done:∀ (X:Cx),X.prog=P->X.w=w->X.K=K->X.calm=true->∀ (i:Nat) (pins:List (Addr × Obj)) (s:Shared) (σ:St) (H:Hp) (E:Value->Shared->Prop),a6 X pins σ H s->(∀ b ∈ fp,fP X pins H b)->tn i s.heap->J.stop i H->
  wpAny (model P w) X.A (pyNext (.ref it)) (fun r s1=>r=none/\a6 X pins σ H s1) E s
 self:∀ (A:Around) (i:Nat) (s:Shared) (Q:Value->Shared->Prop) (E:Value->Shared->Prop),tn i s.heap->Q (.ref it) s->wpAny (model P w) A (pyIter (.ref it)) Q E s
abbrev TI:=St->Hp->(It->Hp->Prop)->Prop
def xZ (X:Cx) (pins:List (Addr × Obj)) (σ:St) (tg:Expr) (R:It->Hp->Prop) (itv:Value) (s2:Shared):Prop:=
 ∃ (it:Addr) (fp:List Addr) (tn:Nat->Heap->Prop) (J:It) (H':Hp),itv = .ref it/\a6 X pins σ H' s2/\gR X.prog X.w X.K tg J fp it tn/\tn 0 s2.heap/\(∀ b ∈ fp,fP X pins H' b)/\R J H'
def PI (X:Cx) (tg iter:Expr) (wi:TI):Prop:=
 ∀ (pins:List (Addr × Obj)) (s:Shared) (σ:St) (H:Hp) (R:It->Hp->Prop),a6 X pins σ H s->wi σ H R->
  wpAny (model X.prog X.w) X.A (eval iter X.env) (fun v s1=>wpAny (model X.prog X.w) X.A (pyIter v) (xZ X pins σ tg R) X.xe s1) X.xe s
theorem sV {M:Model}{A:Around}{E:Value->Shared->Prop}{s:Shared}{tg:Expr}{it:Addr}{u:Value}{o:Obj}{n:String}{vs:Array Value}{Q:Unit->Shared->Prop} (ho:s.heap.get? it=some o) (hc:o.cls = .type n) (hd:o.data = .fields vs)
    (hn : ["enumerate","zip","dict_itemiterator","dict_reverseitemiterator","odict_iterator","itertools.zip_longest","itertools.pairwise"].contains n=false) (hQ:Q () s):wpAny M A (letOwnedTupleGo tg (.ref it) u) Q E s:=by
  unfold letOwnedTupleGo
  cases tg <;> first
    | exact aZ5 hQ
    | (cases u <;> first
        | exact aZ5 hQ
        | (refine aY9 (wpAny_load ho ?_)
           rw [hc,hd]
           show wpAny M A (if (["enumerate","zip","dict_itemiterator","dict_reverseitemiterator","odict_iterator","itertools.zip_longest","itertools.pairwise"].contains n && vs[0]? == some (rawInt _))=true then _ else _) Q E s
           rw [if_neg (by intro h; rw [hn,Bool.false_and] at h; cases h)]
           exact aZ5 hQ))
def kT (K:PySem.W.Frag) (a:Addr):It:=
 ⟨fun i H=>∃ xs x,aG K H a xs/\xs[i]? = some x,fun i H x H'=>H'=H/\∀ xs,aG K H a xs->xs[i]? = some x,fun i H=>∃ xs,aG K H a xs/\xs.length<=i⟩
def iX (K:PySem.W.Frag) (a:Addr):It:=
 ⟨fun i H=>∃ xs x,aD K H a xs/\xs[i]? = some x,fun i H x H'=>H'=H/\∀ xs,aD K H a xs->xs[i]? = some x,fun i H=>∃ xs,aD K H a xs/\xs.length<=i⟩
def mM (lo:Int) (n:Nat):It:=⟨fun i _=>i < n,fun i H x H'=>H'=H/\x = .int (lo+i),fun i _=>n<=i⟩
theorem ag1 {P:Program}{w:World}{K:PySem.W.Frag}{tg:Expr} (a it:Addr):gR P w K tg (kT K a) [it] it (fun i h=>h.IsListIter it a i) where
 mem:=by simp
 obj:=fun i h st b hb=>by
  have e:b=it:=by simpa using hb
  subst e
  obtain ⟨o,e,c,d⟩:=st
  exact⟨o,e,fun v z=>by rw [d] at z; cases z⟩
 keep:=fun i h h' st k=>st.at fun o e=>k it (by simp) o e
 item:=by
  intro X hP hw hK hc i pins s σ H E I hf st hg
  subst hP hw hK
  obtain ⟨xs,x,hq,hx⟩:=hg
  obtain ⟨its,rv,p,hz⟩:=I.list hq
  obtain ⟨u,hu,ru⟩:=rv.get hx
  obtain ⟨f0,f1,f2,f3,f4,f5⟩:=hf it (by simp)
  refine wpAny_pyNext_list_item st p.isList (x:=u) (by simpa using hu) fun h' st' sb=>?_
  have I1:a6 X pins σ H { s with heap:=h' }:=I.turned (t':=s.toks) (fun b o hb e=>(sb.2 b hb).trans e) f0 f1 f3 f4 f5
  obtain ⟨o,e,c,d⟩:=id st'
  exact⟨u,rfl,sV (s:={ s with heap:=h' }) e c d (by decide) ⟨x,H,I1,ru,⟨rfl,fun ys hy=>by rw [I.list_inj hy hq]; exact hx⟩,st',fun b hb=>(hf b hb).1⟩⟩
 done:=by
  intro X hP hw hK hc i pins s σ H E I hf st hg
  subst hP hw hK
  obtain ⟨xs,hq,hx⟩:=hg
  obtain ⟨its,rv,p,hz⟩:=I.list hq
  obtain ⟨f0,f1,f2,f3,f4,f5⟩:=hf it (by simp)
  have hl:=rv.length
  exact wpAny_pyNext_list_end (I.ok.hd hc) st p.isList (by simp; omega) fun h' eb=>⟨rfl,I.turned (t':=s.toks) (fun b o hb e=>eb b o hb e) f0 f1 f3 f4 f5⟩
 self:=fun _ _ _ _ _ st h=>wpAny_pyIter_listiter st h
theorem y7 {P:Program}{w:World}{K:PySem.W.Frag}{tg:Expr} (a it:Addr):gR P w K tg (iX K a) [it] it (fun i h=>h.IsTupleIter it a i) where
 mem:=by simp
 obj:=fun i h st b hb=>by
  have e:b=it:=by simpa using hb
  subst e
  obtain ⟨o,e,c,d⟩:=st
  exact⟨o,e,fun v z=>by rw [d] at z; cases z⟩
 keep:=fun i h h' st k=>st.at fun o e=>k it (by simp) o e
 item:=by
  intro X hP hw hK hc i pins s σ H E I hf st hg
  subst hP hw hK
  obtain ⟨xs,x,hq,hx⟩:=hg
  obtain ⟨its,rv,p,hz⟩:=I.tuple hq
  obtain ⟨u,hu,ru⟩:=rv.get hx
  obtain ⟨f0,f1,f2,f3,f4,f5⟩:=hf it (by simp)
  refine wpAny_pyNext_tuple_item st (show s.heap.IsTuple a its.toArray from p) (x:=u) (by simpa using hu) fun h' st' sb=>?_
  have I1:a6 X pins σ H { s with heap:=h' }:=I.turned (t':=s.toks) (fun b o hb e=>(sb.2 b hb).trans e) f0 f1 f3 f4 f5
  obtain ⟨o,e,c,d⟩:=id st'
  exact⟨u,rfl,sV (s:={ s with heap:=h' }) e c d (by decide) ⟨x,H,I1,ru,⟨rfl,fun ys hy=>by rw [I.tuple_inj hy hq]; exact hx⟩,st',fun b hb=>(hf b hb).1⟩⟩
 done:=by
  intro X hP hw hK hc i pins s σ H E I hf st hg
  subst hP hw hK
  obtain ⟨xs,hq,hx⟩:=hg
  obtain ⟨its,rv,p,hz⟩:=I.tuple hq
  obtain ⟨f0,f1,f2,f3,f4,f5⟩:=hf it (by simp)
  have hl:=rv.length
  exact wpAny_pyNext_tuple_end (I.ok.hd hc) st (show s.heap.IsTuple a its.toArray from p) (by simp; omega) fun h' eb=>⟨rfl,I.turned (t':=s.toks) (fun b o hb e=>eb b o hb e) f0 f1 f3 f4 f5⟩
 self:=fun _ _ _ _ _ st h=>wpAny_pyIter_tupleiter st h
theorem ag2 {P:Program}{w:World}{K:PySem.W.Frag}{tg:Expr} (it:Addr) (lo:Int) (n:Nat):gR P w K tg (mM lo n) [it] it (fun i h=>IsRangeIter h it (lo+(i:Nat) * 1) ((n:Int) - (i:Nat)) 1) where
 mem:=by simp
 obj:=fun i h st b hb=>by
  have e:b=it:=by simpa using hb
  subst e
  exact⟨_,st,fun v z=>by
   have z':Data.fields _=Data.cell v:=z
   cases z'⟩
 keep:=fun i h h' st k=>k it (by simp) _ st
 item:=by
  intro X hP hw hK hc i pins s σ H E I hf st hg
  subst hP hw hK
  obtain ⟨f0,f1,f2,f3,f4,f5⟩:=hf it (by simp)
  have W:=Walks.range (prog:=X.prog) (w:=X.w) (I.ok.hd hc) it lo 1 n
  refine W.item i s _ _ hg st fun v h' tk hv st' kk=>?_
  obtain ⟨t,rfl⟩:=hv
  have I1:a6 X pins σ H { s with heap:=h',toks:=tk }:=I.turned (fun b o hb e=>kk b o (by simpa using hb) e) f0 f1 f3 f4 f5
  refine⟨_,rfl,sV (s:={ s with heap:=h',toks:=tk }) (n:="range_iterator") st' rfl rfl (by decide) ⟨.int (lo+i),H,I1,⟨t,?_⟩,⟨rfl,rfl⟩,st',fun b hb=>(hf b hb).1⟩⟩
  rw [Int.mul_one]
 done:=by
  intro X hP hw hK hc i pins s σ H E I hf st hg
  subst hP hw hK
  obtain ⟨f0,f1,f2,f3,f4,f5⟩:=hf it (by simp)
  exact wpAny_pyNext_range_end (I.ok.hd hc) st (by have:n<=i:=hg; omega) fun h' eb=>⟨rfl,I.turned (t':=s.toks) (fun b o hb e=>eb b o hb e) f0 f1 f3 f4 f5⟩
 self:=fun _ _ _ _ _ st h=>wpAny_pyIter_rangeiter st h
section
variable {X : Cx} {tg : Expr}
def ag3 (K:PySem.W.Frag) (tl:TE):TI:=fun σ H R=>tl σ H fun x H1=>∃ a,x = .ref a/\(∃ xs,aD K H1 a xs)/\R (iX K a) H1
theorem oS {l:Expr}{tl:TE} (hl:PE X l tl):PI X tg l (ag3 X.K tl):=by
 intro pins s σ H R I h
 refine aJ (hl pins s σ H _ I h) fun v s1 ⟨x,H1,I1,r1,q1⟩=>?_
 obtain ⟨a,e,⟨xs,hq⟩,q⟩:=q1
 subst e
 cases r1
 obtain ⟨its,rv,p,hz⟩:=I1.tuple hq
 refine bl4 (show s1.heap.IsTuple a its.toArray from p) ?_
 refine⟨s1.heap.objs.size,[s1.heap.objs.size],_,_,H1,rfl,I1.kept (t':=s1.toks) fun b o e=>aZ1 _ e,y7 a _,⟨_,bb2 _ rfl,rfl,rfl⟩,fun b hb=>?_,q⟩
 have e:b=s1.heap.objs.size:=by simpa using hb
 subst e
 exact I1.fpOk (aZ3 _) (I1.hok.fresh (aZ3 _))
theorem yA {pins:List (Addr × Obj)}{σ:St}{H:Hp}{s:Shared}{R:It->Hp->Prop}{E:Value->Shared->Prop}{lo hi:Int}{t u v:Tok}{tk:Nat} (I:a6 X pins σ H s) (h1 : -(2 ^ 62)<=lo) (h2:lo < 2 ^ 62) (h3 : -(2 ^ 62)<=hi) (h4:hi < 2 ^ 62)
  (q:R (mM lo (hi - lo).toNat) H):wpAny (model X.prog X.w) X.A (pyIter (.ref s.heap.objs.size)) (xZ X pins σ tg R) E { s with heap:=s.heap.push { cls:=.type "range",data:=.fields #[.int lo t,.int hi u,.int 1 v] },toks:=tk }:=by
 refine wpAny_pyIter_range (IsRange.new ..) (small_one h1 h2 h3 h4) ?_
 have I1:a6 X pins σ H { s with heap:=s.heap.push { cls:=.type "range",data:=.fields #[.int lo t,.int hi u,.int 1 v] },toks:=tk }:=I.kept fun b o e=>aZ1 _ e
 refine⟨(s.heap.push { cls:=.type "range",data:=.fields #[.int lo t,.int hi u,.int 1 v] }).objs.size,[(s.heap.push { cls:=.type "range",data:=.fields #[.int lo t,.int hi u,.int 1 v] }).objs.size],_,_,H,rfl,
  I1.kept (t':=tk) fun b o e=>aZ1 _ e,ag2 _ lo (hi - lo).toNat,?_,fun b hb=>?_,q⟩
 ·have e1:lo+((0:Nat):Int) * 1=lo:=by simp
  have e2:(((hi - lo).toNat:Nat):Int) - ((0:Nat):Int)=Builtin.Range.rangeSize lo hi 1:=by rw [rangeSize_one]; split <;> omega
  show IsRangeIter _ _ (lo+((0:Nat):Int) * 1) ((((hi - lo).toNat:Nat):Int) - ((0:Nat):Int)) 1
  rw [e1,e2]
  exact bb2 _ rfl
 ·have e:b=(s.heap.push { cls:=.type "range",data:=.fields #[.int lo t,.int hi u,.int 1 v] }).objs.size:=by simpa using hb
  subst e
  exact I1.fpOk (aZ3 _) (I1.hok.fresh (aZ3 _))
def yB (ta:TA):TI:=fun σ H R=>ta σ H fun vs H1=>∃ j:Int,vs = [.int j]/\-(2 ^ 62)<=j/\j < 2 ^ 62/\R (mM 0 j.toNat) H1
def yC (ta:TA):TI:=fun σ H R=>ta σ H fun vs H1=>∃ i j:Int,vs = [.int i,.int j]/\(-(2 ^ 62)<=i/\i < 2 ^ 62/\-(2 ^ 62)<=j/\j < 2 ^ 62)/\R (mM i (j - i).toNat) H1
theorem ag4 {a:Expr}{ta:TA}{p pos:Pos} (hg:Gl X "range") (hm:X.mg "range" = none) (ha:PA X [a] ta) (hs:starEach [a] X.env = [(false,eval a X.env)]:=by rfl):PI X tg (.Call (.Name "range" p) [a] [] pos) (yB ta):=by
 intro pins s σ H R I h
 refine Call_ (i5 I hg hm boot_range (bg5 (aJ (ha pos pins s σ H _ I h) fun us s1 ⟨vs,H1,I1,r1,q1⟩=>?_) hs rfl))
 obtain ⟨j,e,q1,q2,q⟩:=q1
 subst e
 cases r1 with
 | cons r rr=>
  cases rr
  obtain ⟨t,rfl⟩:=r
  exact call_range_1 (yA I1 (by omega) (by omega) q1 q2 (by simpa using q))
theorem ag5 {a b:Expr}{ta:TA}{p pos:Pos} (hg:Gl X "range") (hm:X.mg "range" = none) (ha:PA X [a,b] ta) (hs:starEach [a,b] X.env = [(false,eval a X.env),(false,eval b X.env)]:=by rfl) (hs2:starEach [b] X.env = [(false,eval b X.env)]:=by rfl) :
  PI X tg (.Call (.Name "range" p) [a,b] [] pos) (yC ta):=by
 intro pins s σ H R I h
 refine Call_ (i5 I hg hm boot_range (bg5 (aJ (ha pos pins s σ H _ I h) fun us s1 ⟨vs,H1,I1,r1,q1⟩=>?_) (by rw [hs,hs2]) (by rw [hs2]; rfl)))
 obtain ⟨i,j,e,⟨q1,q2,q3,q4⟩,q⟩:=q1
 subst e
 cases r1 with
 | cons r rr=>
  cases rr with
  | cons r' rr=>
   cases rr
   obtain ⟨t,rfl⟩:=r
   obtain ⟨t',rfl⟩:=r'
   exact call_range_2 (yA I1 q1 q2 q3 q4 q)
def yD (wi:TI) (g:TG) (tb:TS):TS:=fun D σ H=>wi σ H fun J H1=>∃ W:Nat->Nat->St->Hp->Prop,(∃ m,W 0 m σ H1)/\∀ i m σ H,W i m σ H->
 (J.stop i H/\D.nx σ H) ∨ (J.go i H/\∃ N:St->Hp->Prop,(∀ σ' H',N σ' H'->∃ m',m' < m/\W (i+1) m' σ' H')/\∀ x H',J.yld i H x H'->g x σ H' fun σ2 H2=>tb { D with nx:=N,ct:=N,bk:=D.nx } σ2 H2)
def mO (fp:List Addr) (h:Heap):List (Addr × Obj):=fp.filterMap fun b=>(h.get? b).map fun o=>(b,o)
theorem oT {fp:List Addr}{h:Heap}{b:Addr}{o:Obj} (hb:b ∈ fp) (e:h.get? b=some o):(b,o) ∈ mO fp h:=List.mem_filterMap.mpr ⟨b,hb,by rw [e]; rfl⟩
theorem ag6 {fp:List Addr}{h:Heap}{p:Addr × Obj} (hp:p ∈ mO fp h):p.1 ∈ fp/\h.get? p.1=some p.2:=by
 obtain ⟨b,hb,e⟩:=List.mem_filterMap.mp hp
 cases q:h.get? b with
 | none=>rw [q] at e; cases e
 | some o=>
  rw [q] at e
  have e':(b,o)=p:=bc1 e
  subst e'
  exact⟨hb,q⟩
theorem a6.pinned {pins:List (Addr × Obj)}{σ:St}{H:Hp}{s:Shared}{fp:List Addr} (I:a6 X pins σ H s) (hf:∀ b ∈ fp,fP X pins H b) (ho:∀ b ∈ fp,∃ o,s.heap.get? b=some o/\∀ v,o.data ≠ .cell v):a6 X (pins ++ mO fp s.heap) σ H s:=
 I.pins_of fun p hp=>(bb3.mp hp).elim (fun z=>I.pin p (bc3 _ z)) fun z=>by
  obtain ⟨hb,e⟩:=ag6 z
  obtain ⟨f0,f1,f2,_⟩:=hf p.1 hb
  obtain ⟨o,e',d⟩:=ho p.1 hb
  rw [e] at e'; cases e'
  exact⟨e,f0,f1,f2,d⟩
theorem a6.unpinned {pins pl:List (Addr × Obj)}{σ:St}{H:Hp}{s:Shared} (I:a6 X (pins ++ pl) σ H s):a6 X pins σ H s:=I.pins_of fun p hp=>I.pin p (bc3 _ (be7 _ hp))
theorem sW {iter:Expr}{body:List Stmt}{wi:TI}{g:TG}{tb:TS}{pos:Pos} (hp:PassesOwn (model X.prog X.w) X.A X.env X.xe) (hc:X.calm=true) (hi:PI X tg iter wi) (hg:PG X tg g) (hb:dC X body tb)
  (hs:∀ x,foldedSetIterable iter X.env x=pure x:=by intro _; rfl):PS X (.For tg iter body [] pos) (yD wi g tb):=by
 intro pins s σ H D I h
 refine wpAny_For (aJ (hi pins s σ H _ I h) fun v s1 h1=>aJ h1 fun itv s2 h2=>?_) hs
 obtain ⟨it,fp,tn,J,H2,e,I2,T,st2,f2,W,⟨m0,w0⟩,turn⟩:=h2
 subst e
 have stat:∀ {H':Hp},(∀ b ∈ fp,H' b=none)->∀ b ∈ fp,fP X pins H' b:=fun hn b hb=>⟨hn b hb,(f2 b hb).2⟩
 refine codeAny_forLoop_any (fun n s'=>∃ i σ' H',a6 X pins σ' H' s'/\tn i s'.heap/\(∀ b ∈ fp,H' b=none)/\W i n σ' H') ?_ m0 ⟨0,σ,H2,I2,st2,fun b hb=>(f2 b hb).1,w0⟩
 rintro n s3 ⟨i,σ3,H3,I3,st3,fr3,w3⟩
 rcases turn i n σ3 H3 w3 with ⟨stop,qn⟩ | ⟨go,N,hN,step⟩
 ·refine bn8 hp (aJ (T.done X rfl rfl rfl hc i pins s3 σ3 H3 X.xe I3 (stat fr3) st3 stop) fun r s4 ⟨hr,I4⟩=>?_)
  subst hr
  exact wpAny_execs_nil ⟨σ3,H3,I4,qn⟩
 ·refine bn8 hp (aJ (T.item X rfl rfl rfl hc i pins s3 σ3 H3 X.xe I3 (stat fr3) st3 go) fun r s4 ⟨u,hr,h4⟩=>?_)
  subst hr
  refine bn8 hp (aJ h4 fun _ s5 ⟨x,H5,I5,r5,y5,st5,fr5⟩=>?_)
  have I5':=I5.pinned (stat fr5) (T.obj _ _ st5)
  refine bn8 hp (aJ (hg _ s5 σ3 H5 x u _ I5' r5 (step x H5 y5)) fun _ s6 ⟨σ6,H6,I6,q6⟩=>?_)
  refine bn8 hp (aJ (hb _ s6 σ6 H6 _ I6 q6) fun f s7 q7=>?_)
  have again:∀ {σ7:St}{H7:Hp},a6 X (pins ++ mO fp s5.heap) σ7 H7 s7->N σ7 H7->∃ m,m < n/\∃ i σ' H',a6 X pins σ' H' s7/\tn i s7.heap/\(∀ b ∈ fp,H' b=none)/\W i m σ' H':=fun {σ7 H7} I7 n7=>by
   obtain ⟨m',hm,w7⟩:=hN σ7 H7 n7
   refine⟨m',hm,i+1,σ7,H7,I7.unpinned,T.keep _ _ _ st5 fun b hb o e=>(I7.pin (b,o) (bc3 _ (bc3 _ (oT hb e)))).1,fun b hb=>?_,w7⟩
   obtain ⟨o,e,d⟩:=T.obj _ _ st5 b hb
   exact (I7.pin (b,o) (bc3 _ (bc3 _ (oT hb e)))).2.1
  cases f with
  | next=>obtain ⟨σ7,H7,I7,n7⟩:=q7; exact again I7 n7
  | cont=>obtain ⟨σ7,H7,I7,n7⟩:=q7; exact again I7 n7
  | brk=>obtain ⟨σ7,H7,I7,q7⟩:=q7; exact⟨σ7,H7,I7.unpinned,q7⟩
  | ret v=>obtain ⟨x7,σ7,H7,I7,r7,q7⟩:=q7; exact⟨x7,σ7,H7,I7.unpinned,r7,q7⟩
end
theorem aY5 {K:PySem.W.Frag}{a:Addr}{xs:List V}{g:TG}{tb:TS}{D:c8}{σ:St}{H:Hp} (Pv:Nat->St->Hp->Prop) (h0:Pv 0 σ H) (hl:∀ i σ H,i<=xs.length->Pv i σ H->aG K H a xs)
  (hs:∀ i x σ H,xs[i]? = some x->Pv i σ H->g x σ H fun σ2 H2=>tb { D with nx:=Pv (i+1),ct:=Pv (i+1),bk:=D.nx } σ2 H2) (hd:∀ σ H,Pv xs.length σ H->D.nx σ H) :
  ∃ W:Nat->Nat->St->Hp->Prop,(∃ m,W 0 m σ H)/\∀ i m σ H,W i m σ H->
   ((kT K a).stop i H/\D.nx σ H) ∨ ((kT K a).go i H/\∃ N:St->Hp->Prop,(∀ σ' H',N σ' H'->∃ m',m' < m/\W (i+1) m' σ' H')/\∀ x H',(kT K a).yld i H x H'->g x σ H' fun σ2 H2=>tb { D with nx:=N,ct:=N,bk:=D.nx } σ2 H2):=by
 refine⟨fun i m σ H=>m=xs.length - i/\i<=xs.length/\Pv i σ H,⟨xs.length,by simp,be8 _,h0⟩,?_⟩
 rintro i m σ H ⟨rfl,hi,p⟩
 have q:=hl i σ H hi p
 by_cases hlt:i < xs.length
 ·refine .inr ⟨⟨xs,xs[i],q,by simp [hlt]⟩,Pv (i+1),fun σ' H' p'=>⟨xs.length - (i+1),by omega,rfl,hlt,p'⟩,fun x H' y=>?_⟩
  obtain ⟨e,y⟩:=y
  subst e
  exact hs i x σ _ (y xs q) p
 ·have e:i=xs.length:=by omega
  subst e
  exact .inl ⟨⟨xs,q,aZ3 _⟩,hd σ H p⟩
theorem yE {K:PySem.W.Frag}{a:Addr}{xs:List V}{g:TG}{tb:TS}{D:c8}{σ:St}{H:Hp} (Pv:Nat->St->Hp->Prop) (h0:Pv 0 σ H) (hl:∀ i σ H,i<=xs.length->Pv i σ H->aD K H a xs)
  (hs:∀ i x σ H,xs[i]? = some x->Pv i σ H->g x σ H fun σ2 H2=>tb { D with nx:=Pv (i+1),ct:=Pv (i+1),bk:=D.nx } σ2 H2) (hd:∀ σ H,Pv xs.length σ H->D.nx σ H) :
  ∃ W:Nat->Nat->St->Hp->Prop,(∃ m,W 0 m σ H)/\∀ i m σ H,W i m σ H->
   ((iX K a).stop i H/\D.nx σ H) ∨ ((iX K a).go i H/\∃ N:St->Hp->Prop,(∀ σ' H',N σ' H'->∃ m',m' < m/\W (i+1) m' σ' H')/\∀ x H',(iX K a).yld i H x H'->g x σ H' fun σ2 H2=>tb { D with nx:=N,ct:=N,bk:=D.nx } σ2 H2):=by
 refine⟨fun i m σ H=>m=xs.length - i/\i<=xs.length/\Pv i σ H,⟨xs.length,by simp,be8 _,h0⟩,?_⟩
 rintro i m σ H ⟨rfl,hi,p⟩
 have q:=hl i σ H hi p
 by_cases hlt:i < xs.length
 ·refine .inr ⟨⟨xs,xs[i],q,by simp [hlt]⟩,Pv (i+1),fun σ' H' p'=>⟨xs.length - (i+1),by omega,rfl,hlt,p'⟩,fun x H' y=>?_⟩
  obtain ⟨e,y⟩:=y
  subst e
  exact hs i x σ _ (y xs q) p
 ·have e:i=xs.length:=by omega
  subst e
  exact .inl ⟨⟨xs,q,aZ3 _⟩,hd σ H p⟩
abbrev R2:=V->V->Hp->VK->Prop
def bP (X:Cx) (f:Value->Value->Sem Value) (r:R2):Prop:=
 ∀ (pins:List (Addr × Obj)) (s:Shared) (σ:St) (H:Hp) (x y:V) (v u:Value) (Q:VK),a6 X pins σ H s->aO x v->aO y u->r x y H Q->
  wpAny (model X.prog X.w) X.A (f v u) (EP X pins σ Q) X.xe s
def sX (X:Cx) (f:Value->Sem Value) (r:V->Hp->VK->Prop):Prop:=
 ∀ (pins:List (Addr × Obj)) (s:Shared) (σ:St) (H:Hp) (x:V) (v:Value) (Q:VK),a6 X pins σ H s->aO x v->r x H Q->
  wpAny (model X.prog X.w) X.A (f v) (EP X pins σ Q) X.xe s
def cK (X:Cx) (f:Value) (r:List V->Hp->VK->Prop):Prop:=
 ∀ (pins:List (Addr × Obj)) (s:Shared) (σ:St) (H:Hp) (xs:List V) (us:List Value) (Q:VK),a6 X pins σ H s->aH xs us->r xs H Q->
  wpAny (model X.prog X.w) X.A (call f us) (EP X pins σ Q) X.xe s
def ag7 (X:Cx) (r:V->Hp->(Bool->Hp->Prop)->Prop):Prop:=
 ∀ (pins:List (Addr × Obj)) (s:Shared) (σ:St) (H:Hp) (x:V) (v:Value) (Q:Bool->Hp->Prop),a6 X pins σ H s->aO x v->r x H Q->
  wpAny (model X.prog X.w) X.A (truthy v) (TP X pins σ Q) X.xe s
def mP (r:R2) (ta tb:TE):TE:=fun σ H Q=>ta σ H fun x H1=>tb σ H1 fun y H2=>r x y H2 Q
def tUn (r:V->Hp->VK->Prop) (ta:TE):TE:=fun σ H Q=>ta σ H fun x H1=>r x H1 Q
def rI (C:Int->Int->Prop) (g:Int->Int->V):R2:=fun x y H Q=>∃ i j,x = .int i/\y = .int j/\C i j/\Q (g i j) H
def gS (g:Int->Int->V):R2:=fun x y H Q=>∃ i j,x = .int i/\y = .int j/\Q (g i j) H
def rU (g:Int->V):V->Hp->VK->Prop:=fun x H Q=>∃ i,x = .int i/\Q (g i) H
section
variable {X : Cx} {a b c : Expr} {ta tb tc : TE} {pos : Pos}
theorem sY (ha:PE X a ta) (hb:PE X b tb) {pins:List (Addr × Obj)}{s:Shared}{σ:St}{H:Hp}{R:V->V->Hp->Prop} (I:a6 X pins σ H s)
  (h:ta σ H fun x H1=>tb σ H1 fun y H2=>R x y H2) {Q:Value->Shared->Prop}{f:Value->Value->Sem Value}
  (hf:∀ v u s2 x y H2,a6 X pins σ H2 s2->aO x v->aO y u->R x y H2->wpAny (model X.prog X.w) X.A (f v u) Q X.xe s2) :
  wpAny (model X.prog X.w) X.A (eval a X.env) (fun v s₁=>wpAny (model X.prog X.w) X.A (eval b X.env) (fun u s₂=>wpAny (model X.prog X.w) X.A (f v u) Q X.xe s₂) X.xe s₁) X.xe s:=by
 refine aJ (ha pins s σ H _ I h) fun v s1 ⟨x,H1,I1,r1,q1⟩=>?_
 refine aJ (hb pins s1 σ H1 _ I1 q1) fun u s2 ⟨y,H2,I2,r2,q2⟩=>?_
 exact hf v u s2 x y H2 I2 r1 r2 q2
theorem ag8 {op:Operator}{r:R2} (ho:bP X (binaryOp op) r) (ha:PE X a ta) (hb:PE X b tb):PE X (.BinOp a op b pos) (mP r ta tb):=by
 intro pins s σ H Q I h
 exact wpAny_BinOp (sY ha hb I h fun v u s2 x y H2 I2 rx ry q=>ho pins s2 σ H2 x y v u Q I2 rx ry q)
theorem ag9 {op:UnaryOp}{r:V->Hp->VK->Prop} (ho:sX X (unaryOp op) r) (ha:PE X a ta):PE X (.UnaryOp op a pos) (tUn r ta):=by
 intro pins s σ H Q I h
 exact UnaryOp_ (aJ (ha pins s σ H _ I h) fun v s1 ⟨x,H1,I1,r1,q1⟩=>ho pins s1 σ H1 x v Q I1 r1 q1)
theorem mQ {f:Value->Value->Sem Value}{C:Int->Int->Prop}{g:Int->Int->Int}
  (rule:∀ (i j:Int) (t u:Tok) (s:Shared) (Q:Value->Shared->Prop) (E:Value->Shared->Prop),C i j->Q (.int (g i j) s.toks) { s with toks:=s.toks+1 }->wpAny (model X.prog X.w) X.A (f (.int i t) (.int j u)) Q E s) :
  bP X f (rI C fun i j=>.int (g i j)):=by
 intro pins s σ H x y v u Q I rx ry h
 obtain ⟨i,j,rfl,rfl,hc,q⟩:=h
 obtain ⟨t,rfl⟩:=rx
 obtain ⟨t',rfl⟩:=ry
 exact rule i j t t' s _ _ hc ⟨.int (g i j),H,I.tok _,⟨_,rfl⟩,q⟩
theorem yF {f:Value->Value->Sem Value}{g:Int->Int->Int}
  (rule:∀ (i j:Int) (t u:Tok) (s:Shared) (Q:Value->Shared->Prop) (E:Value->Shared->Prop),Q (.int (g i j) s.toks) { s with toks:=s.toks+1 }->wpAny (model X.prog X.w) X.A (f (.int i t) (.int j u)) Q E s) :
  bP X f (gS fun i j=>.int (g i j)):=by
 intro pins s σ H x y v u Q I rx ry h
 obtain ⟨i,j,rfl,rfl,q⟩:=h
 obtain ⟨t,rfl⟩:=rx
 obtain ⟨t',rfl⟩:=ry
 exact rule i j t t' s _ _ ⟨.int (g i j),H,I.tok _,⟨_,rfl⟩,q⟩
theorem oU {f:Value->Value->Sem Value}{g:Int->Int->Bool}
  (rule:∀ (i j:Int) (t u:Tok) (s:Shared) (Q:Value->Shared->Prop) (E:Value->Shared->Prop),Q (.bool (g i j)) s->wpAny (model X.prog X.w) X.A (f (.int i t) (.int j u)) Q E s) :
  bP X f (gS fun i j=>.bl (g i j)):=by
 intro pins s σ H x y v u Q I rx ry h
 obtain ⟨i,j,rfl,rfl,q⟩:=h
 obtain ⟨t,rfl⟩:=rx
 obtain ⟨t',rfl⟩:=ry
 exact rule i j t t' s _ _ ⟨.bl (g i j),H,I,rfl,q⟩
def sZ (i j:Int):Prop:=0 < j/\j < 1073741824
def kU (i j:Int):Prop:=0<=j/\j<=1000000/\i.natAbs < 2 ^ 64
def mR (i j:Int):Prop:=(-(2 ^ 64) < i/\i < 2 ^ 64) ∨ (-(2 ^ 64) < j/\j < 2 ^ 64)
theorem mR.ok {i j:Int} (h:mR i j):IntMulOk i j:=by
 rcases h with ⟨h1,h2⟩ | ⟨h1,h2⟩
 ·exact .of_left (intBits_le_64 h1 h2)
 ·exact .of_right (intBits_le_64 h1 h2)
theorem ah0:bP X (binaryOp .Add) (gS fun i j=>.int (i+j)):=yF fun _ _ _ _ _ _ _ q=>add_int q
theorem ah1:bP X (binaryOp .Sub) (gS fun i j=>.int (i - j)):=yF fun _ _ _ _ _ _ _ q=>sub_int q
theorem ah2:bP X (binaryOp .Mult) (rI mR fun i j=>.int (i * j)):=mQ fun _ _ _ _ _ _ _ hc q=>mul_int q hc.ok
theorem ah3:bP X (binaryOp .FloorDiv) (rI sZ fun i j=>.int (i / j)):=mQ fun i j _ _ _ _ _ hc q=>by
 have h1:(0:Int) < j:=hc.1
 have h2:j < 1073741824:=hc.2
 exact floordiv_int (by omega) (by rw [Int.fdiv_eq_ediv_of_nonneg i (by omega)]; exact q) (.inl (PyProof.noPylong_small (by omega)))
theorem ah4:bP X (binaryOp .Mod) (rI (fun _ j=>0 < j) fun i j=>.int (i % j)):=mQ fun i j _ _ _ _ _ hc q=>by
 have h1:(0:Int) < j:=hc
 exact mod_int' (by omega) (by rw [Int.fmod_eq_emod_of_nonneg i (by omega)]; exact q)
theorem ah5:bP X (binaryOp .Pow) (rI kU fun i j=>.int (i ^ j.toNat)):=mQ fun _ _ _ _ _ _ _ hc q=>pow_int_small hc.1 hc.2.1 hc.2.2 q
theorem ah6:bP X (binaryOp .LShift) (rI kU fun i j=>.int (i * 2 ^ j.toNat)):=mQ fun _ _ _ _ _ _ _ hc q=>lshift_int_small hc.1 hc.2.1 hc.2.2 q
theorem unI {f:Value->Sem Value}{g:Int->Int}
  (rule:∀ (i:Int) (t:Tok) (s:Shared) (Q:Value->Shared->Prop) (E:Value->Shared->Prop),Q (.int (g i) s.toks) { s with toks:=s.toks+1 }->wpAny (model X.prog X.w) X.A (f (.int i t)) Q E s) :
  sX X f (rU fun i=>.int (g i)):=by
 intro pins s σ H x v Q I rx h
 obtain ⟨i,rfl,q⟩:=h
 obtain ⟨t,rfl⟩:=rx
 exact rule i t s _ _ ⟨.int (g i),H,I.tok _,⟨_,rfl⟩,q⟩
theorem ah7:sX X (unaryOp .USub) (rU fun i=>.int (-i)):=unI fun _ _ _ _ _ q=>neg_int q
end
def yG:V->V->Bool
 | .non,.non=>true | .non,.int _=>true | .int _,.non=>true | .non,.bl _=>true | .bl _,.non=>true | .non,.str _=>true | .str _,.non=>true
 | .int _,.int _=>true | .bl _,.bl _=>true | .str _,.str _=>true | .byt _,.byt _=>true
 | .int _,.str _=>true | .str _,.int _=>true | .bl _,.str _=>true | .str _,.bl _=>true
 | _,_=>false
def yH:R2:=fun x y H Q=>yG x y=true/\Q (.bl (decide (x=y))) H
def yI:R2:=fun x y H Q=>yG x y=true/\Q (.bl (!decide (x=y))) H
theorem yJ {i j:Int}:decide (V.int i=V.int j)=(i == j):=by
 rw [bg9]
 simp
theorem yK {i j:Bool}:decide (V.bl i=V.bl j)=(i == j):=by
 rw [bg9]
 simp
theorem yL {i j:Str}:decide (V.str i=V.str j)=(i == j):=by
 rw [bg9]
 simp
theorem yM {i j:Array UInt8}:decide (V.byt i=V.byt j)=(i.toList == j.toList):=by
 rw [bg9]
 cases i
 cases j
 simp
section
variable {X : Cx} {a b c : Expr} {ta tb tc : TE} {pos : Pos}
theorem bQ {pins:List (Addr × Obj)}{σ:St}{H:Hp}{s:Shared}{Q:VK}{k k':Bool} (I:a6 X pins σ H s) (q:Q (.bl k) H) (e:k=k'):EP X pins σ Q (.bool k') s:=by
 subst e
 exact⟨.bl k,H,I,rfl,q⟩
theorem yN:bP X (compareOp .Eq) yH:=by
 intro pins s σ H x y v u Q I rx ry h
 obtain ⟨hs,q⟩:=h
 cases x with
 | non=>
  cases rx
  cases y with
  | non=>cases ry; exact PySem.EqNone.eq_none_none (bQ I q (by simp))
  | bl j=>cases ry; exact PySem.EqNone.eq_none_bool (bQ I q (by simp))
  | int j=>obtain ⟨t',rfl⟩:=ry; exact PySem.EqNone.eq_none_int (bQ I q (by simp))
  | str j=>obtain ⟨t',rfl⟩:=ry; exact PySem.EqNone.eq_none_str (bQ I q (by simp))
  | _=>exact absurd (show false=true from hs) ba7
 | bl i=>
  cases rx
  cases y with
  | non=>cases ry; exact PySem.EqNone.eq_bool_none (bQ I q (by simp))
  | bl j=>cases ry; exact eq_bool (bQ I q yK)
  | str j=>obtain ⟨t',rfl⟩:=ry; exact PySem.EqMixed.eq_bool_str (bQ I q (by simp))
  | _=>exact absurd (show false=true from hs) ba7
 | int i=>
  obtain ⟨t,rfl⟩:=rx
  cases y with
  | non=>cases ry; exact PySem.EqNone.eq_int_none (bQ I q (by simp))
  | int j=>obtain ⟨t',rfl⟩:=ry; exact eq_int (bQ I q yJ)
  | str j=>obtain ⟨t',rfl⟩:=ry; exact PySem.EqMixed.eq_int_str (bQ I q (by simp))
  | _=>exact absurd (show false=true from hs) ba7
 | str i=>
  obtain ⟨t,rfl⟩:=rx
  cases y with
  | non=>cases ry; exact PySem.EqNone.eq_str_none (bQ I q (by simp))
  | bl j=>cases ry; exact PySem.EqMixed.eq_str_bool (bQ I q (by simp))
  | int j=>obtain ⟨t',rfl⟩:=ry; exact PySem.EqMixed.eq_str_int (bQ I q (by simp))
  | str j=>obtain ⟨t',rfl⟩:=ry; exact eq_str (bQ I q yL)
  | _=>exact absurd (show false=true from hs) ba7
 | byt i=>
  obtain ⟨t,rfl⟩:=rx
  cases y with
  | byt j=>obtain ⟨t',rfl⟩:=ry; exact PySem.W.eq_bytes (bQ I q yM)
  | _=>exact absurd (show false=true from hs) ba7
 | _=>cases y <;> exact absurd (show false=true from hs) ba7
theorem ah8:bP X (compareOp .NotEq) yI:=by
 intro pins s σ H x y v u Q I rx ry h
 obtain ⟨hs,q⟩:=h
 cases x with
 | non=>
  cases rx
  cases y with
  | non=>cases ry; exact PySem.EqNone.ne_none_none (bQ I q (by simp))
  | bl j=>cases ry; exact PySem.EqNone.ne_none_bool (bQ I q (by simp))
  | int j=>obtain ⟨t',rfl⟩:=ry; exact PySem.EqNone.ne_none_int (bQ I q (by simp))
  | str j=>obtain ⟨t',rfl⟩:=ry; exact PySem.EqNone.ne_none_str (bQ I q (by simp))
  | _=>exact absurd (show false=true from hs) ba7
 | bl i=>
  cases rx
  cases y with
  | non=>cases ry; exact PySem.EqNone.ne_bool_none (bQ I q (by simp))
  | bl j=>cases ry; exact ne_bool (bQ I q (congrArg not yK))
  | str j=>obtain ⟨t',rfl⟩:=ry; exact PySem.EqMixed.ne_bool_str (bQ I q (by simp))
  | _=>exact absurd (show false=true from hs) ba7
 | int i=>
  obtain ⟨t,rfl⟩:=rx
  cases y with
  | non=>cases ry; exact PySem.EqNone.ne_int_none (bQ I q (by simp))
  | int j=>obtain ⟨t',rfl⟩:=ry; exact ne_int (bQ I q (congrArg not yJ))
  | str j=>obtain ⟨t',rfl⟩:=ry; exact PySem.EqMixed.ne_int_str (bQ I q (by simp))
  | _=>exact absurd (show false=true from hs) ba7
 | str i=>
  obtain ⟨t,rfl⟩:=rx
  cases y with
  | non=>cases ry; exact PySem.EqNone.ne_str_none (bQ I q (by simp))
  | bl j=>cases ry; exact PySem.EqMixed.ne_str_bool (bQ I q (by simp))
  | int j=>obtain ⟨t',rfl⟩:=ry; exact PySem.EqMixed.ne_str_int (bQ I q (by simp))
  | str j=>obtain ⟨t',rfl⟩:=ry; exact ne_str (bQ I q (congrArg not yL))
  | _=>exact absurd (show false=true from hs) ba7
 | byt i=>
  obtain ⟨t,rfl⟩:=rx
  cases y with
  | byt j=>obtain ⟨t',rfl⟩:=ry; exact PySem.W.ne_bytes (bQ I q (congrArg not yM))
  | _=>exact absurd (show false=true from hs) ba7
 | _=>cases y <;> exact absurd (show false=true from hs) ba7
theorem oV:bP X (compareOp .Lt) (gS fun i j=>.bl (decide (i < j))):=oU fun _ _ _ _ _ _ _ q=>lt_int q
theorem ah9:bP X (compareOp .LtE) (gS fun i j=>.bl (decide (i<=j))):=oU fun _ _ _ _ _ _ _ q=>le_int q
theorem ai0:bP X (compareOp .Gt) (gS fun i j=>.bl (decide (j < i))):=oU fun _ _ _ _ _ _ _ q=>gt_int q
theorem yO:bP X (compareOp .GtE) (gS fun i j=>.bl (decide (j<=i))):=oU fun _ _ _ _ _ _ _ q=>ge_int q
theorem ai1:bP X (compareOp .Is) (fun x y H Q=>y = .non/\Q (.bl (decide (x = .non))) H):=by
 intro pins s σ H x y v u Q I rx ry h
 obtain ⟨rfl,q⟩:=h
 cases ry
 refine is_none_gen (bQ I q ?_)
 cases x <;> first
  | (cases rx; rfl)
  | (obtain ⟨t,rfl⟩:=rx; rfl)
theorem e9 (b:Expr) {op:CmpOp} (h:op ≠ .In:=by decide) (h2:op ≠ .NotIn:=by decide):behindInMarks op b=false:=by
 have e1:(op == CmpOp.In)=false:=by cases op <;> first | rfl | exact absurd rfl h
 have e2:(op == CmpOp.NotIn)=false:=by cases op <;> first | rfl | exact absurd rfl h2
 cases b <;> simp [behindInMarks,e1,e2]
theorem t5 {op:CmpOp}{r:R2} (ho:bP X (compareOp op) r) (ha:PE X a ta) (hb:PE X b tb) (hm:behindInMarks op b=false):PE X (.Compare a [op] [b] pos) (mP r ta tb):=by
 intro pins s σ H Q I h
 exact wpAny_Compare1 (sY ha hb I h fun v u s2 x y H2 I2 rx ry q=>ho pins s2 σ H2 x y v u Q I2 rx ry q) hm
def ai2 (t:TE):TT:=fun σ H Q=>t σ H fun x H'=>∃ k,x = .bl k/\Q k H'
theorem ai3 {op:CmpOp}{r:R2} (ho:bP X (compareOp op) r) (ha:PE X a ta) (hb:PE X b tb) (hm:behindInMarks op b=false):PT X (.Compare a [op] [b] pos) (ai2 (mP r ta tb)):=by
 intro pins s σ H Q I h
 refine wpAny_isTrue_Compare1 (aJ (ha pins s σ H _ I h) fun v s1 ⟨x,H1,I1,r1,q1⟩=>aJ (hb pins s1 σ H1 _ I1 q1) fun u s2 ⟨y,H2,I2,r2,q2⟩=>
  aJ (ho pins s2 σ H2 x y v u _ I2 r1 r2 q2) fun c s3 ⟨z,H3,I3,r3,k,e,q3⟩=>?_) hm
 subst e
 cases r3
 exact bh6 ⟨H3,I3,q3⟩
def t6 (K:PySem.W.Frag) (x:V) (H:Hp) (k:Bool):Prop:=
 match x with
 | .non=>k=false
 | .bl b=>k=b
 | .int i=>k=(i != 0)
 | .str y=>y.length<=sizeLine/\k=((y.length:Int) != 0)
 | .byt y=>y.size<=sizeLine/\k=((y.size:Int) != 0)
 | .ref p=>(∃ xs,aG K H p xs/\k = !xs.isEmpty) ∨ (∃ xs,aD K H p xs/\k = !xs.isEmpty) ∨ ∃ kvs,H p=some (.dK kvs)/\k = !kvs.isEmpty
 | _=>False
theorem ai4 {κ:Type}{kvs:List (κ × V)}{vs:List (κ × Value)} (r:KV kvs vs):(!vs.isEmpty) = !kvs.isEmpty:=by
 cases r <;> rfl
theorem yP {xs:List V}{its:List Value} (r:aH xs its):(!its.toArray.isEmpty) = !xs.isEmpty:=by
 cases r <;> simp
theorem kW:(sizeLine:Nat) < 2 ^ 63:=by rw [sizeLine_eq]; decide
theorem ai5:ag7 X (fun x H Q=>∃ k,t6 X.K x H k/\Q k H):=by
 intro pins s σ H x v Q I rx h
 obtain ⟨k,e,q⟩:=h
 have hl:=kW
 have hs:sizeLine=16777216:=sizeLine_eq
 cases x with
 | non=>
  cases rx
  have e':k=false:=e
  subst e'
  exact truthy_none ⟨H,I,q⟩
 | bl b=>
  cases rx
  have e':k=b:=e
  subst e'
  exact bh6 ⟨H,I,q⟩
 | int i=>
  obtain ⟨t,rfl⟩:=rx
  have e':k=(i != 0):=e
  subst e'
  exact PySem.P.truthy_int ⟨H,I,q⟩
 | str y=>
  obtain ⟨t,rfl⟩:=rx
  obtain ⟨hy,e'⟩:y.length<=sizeLine/\k=((y.length:Int) != 0):=e
  subst e'
  exact PySem.P.truthy_str (by omega) ⟨H,I.tok _,q⟩
 | byt y=>
  obtain ⟨t,rfl⟩:=rx
  obtain ⟨hy,e'⟩:y.size<=sizeLine/\k=((y.size:Int) != 0):=e
  subst e'
  exact PySem.W.truthy_bytes (by omega) ⟨H,I.tok _,q⟩
 | ref p=>
  cases rx
  have e':(∃ xs,aG X.K H p xs/\k = !xs.isEmpty) ∨ (∃ xs,aD X.K H p xs/\k = !xs.isEmpty) ∨ ∃ kvs,H p=some (.dK kvs)/\k = !kvs.isEmpty:=e
  rcases e' with ⟨xs,hx,e'⟩ | ⟨xs,hx,e'⟩ | ⟨kvs,hx,e'⟩
  ·subst e'
   obtain ⟨its,r,pl,hz⟩:=I.list hx
   have hlen:=r.length
   exact wpAny_truthy_list pl.isList (by simp only [aZ2]; omega) ⟨H,I.tok _,by rw [yP r]; exact q⟩
  ·subst e'
   obtain ⟨its,r,pl,hz⟩:=I.tuple hx
   have hlen:=r.length
   exact truthy_tuple pl (by simp only [aZ2]; omega) ⟨H,I.tok _,by rw [yP r]; exact q⟩
  ·subst e'
   obtain ⟨hz,hS,vs,r,m⟩:kvs.length<=sizeLine/\(p == sysModules)=false/\∃ vs,KV kvs vs/\s.heap.DictOf (eM X.prog X.w) p vs:=I.hok p _ hx
   have hlen:kvs.length=vs.length:=Paired.length r
   exact wpAny_truthy_dict hS m (by omega) ⟨H,I.tok _,by rw [ai4 r]; exact q⟩
 | _=>exact (show False from e).elim
theorem ai6 (ha:PE X a ta) (he:∀ whole,isTrue a X.env whole=(do let v <- whole; standAt a.pos; holding [v] (truthy v))) :
  PT X a (fun σ H Q=>ta σ H fun x H'=>∃ k,t6 X.K x H' k/\Q k H'):=by
 intro pins s σ H Q I h
 exact isTrue_plain (aJ (ha pins s σ H _ I h) fun v s1 ⟨x,H1,I1,r1,q1⟩=>ai5 pins s1 σ H1 x v Q I1 r1 q1) (he _)
theorem fY {x:V}{us:List Value} (r:aH [x] us):∃ u,us = [u]/\aO x u:=by
 cases r with
 | cons r1 r2=>cases r2; exact⟨_,rfl,r1⟩
theorem mS {x y:V}{us:List Value} (r:aH [x,y] us):∃ u w',us = [u,w']/\aO x u/\aO y w':=by
 cases r with
 | cons r1 r2=>
  cases r2 with
  | cons r3 r4=>cases r4; exact⟨_,_,rfl,r1,r3⟩
theorem ai7 (hc:X.calm=true):cK X (.builtin "max") (fun xs H Q=>∃ i j,xs = [.int i,.int j]/\Q (.int (if j > i then j else i)) H):=by
 intro pins s σ H xs us Q I r h
 obtain ⟨i,j,rfl,q⟩:=h
 obtain ⟨u,w',rfl,⟨t,rfl⟩,⟨t',rfl⟩⟩:=mS r
 refine max_two_ints (I.ok.hd hc) fun h' tk k=>⟨_,H,I.kept k,?_,q⟩
 by_cases hj:j > i
 ·rw [if_pos hj,if_pos hj]; exact⟨_,rfl⟩
 ·rw [if_neg hj,if_neg hj]; exact⟨_,rfl⟩
theorem ai8 (hc:X.calm=true):cK X (.builtin "min") (fun xs H Q=>∃ i j,xs = [.int i,.int j]/\Q (.int (if j < i then j else i)) H):=by
 intro pins s σ H xs us Q I r h
 obtain ⟨i,j,rfl,q⟩:=h
 obtain ⟨u,w',rfl,⟨t,rfl⟩,⟨t',rfl⟩⟩:=mS r
 refine min_two_ints (I.ok.hd hc) fun h' tk k=>⟨_,H,I.kept k,?_,q⟩
 by_cases hj:j < i
 ·rw [if_pos hj,if_pos hj]; exact⟨_,rfl⟩
 ·rw [if_neg hj,if_neg hj]; exact⟨_,rfl⟩
end
structure t7 (h:Heap) (x dx C:Addr) (mA:Str->Option Value):Prop where
 obj:h.get? x=some (PySem.W.instObj C dx)
 ns:h.Ns1 dx mA
 ne:dx ≠ x
theorem ai9 {h:Heap}{dx:Addr}{mA:Str->Option Value} (n:h.Ns1 dx mA):∃ od,h.get? dx=some od/\∀ name,PySem.W.lookIn name od=some (mA name):=by
 obtain ⟨o,es,ep,ho,hd,hk,_,hm⟩:=n
 refine⟨o,ho,fun name=>?_⟩
 have e:=hm name
 unfold nsFind findBy at e
 rw [<- Array.find?_toList] at e
 unfold PySem.W.lookIn
 rw [hd]
 dsimp only
 split
 ·rename_i y q
  rw [q] at e
  exact congrArg some e
 ·rename_i q
  rw [q] at e
  have a:es.toList.any (·.refKey)=false:=by
   rw [List.any_eq_false]
   intro y hy
   obtain ⟨z,t,hkey⟩:=hk y (Array.mem_toList_iff.mp hy)
   simp [DictEntry.refKey,hkey]
  have a' : ¬ es.toList.any (·.refKey)=true:=by rw [a]; exact ba7
  rw [if_neg a']
  exact congrArg some e
theorem t7.look {h:Heap}{x dx C:Addr}{mA:Str->Option Value} (I:t7 h x dx C mA):∃ od,PySem.W.InstAt h x (PySem.W.instObj C dx) C (some od)/\∀ name,PySem.W.lookIn name od=some (mA name):=
 let ⟨od,ho,hl⟩:=ai9 I.ns
 ⟨od,⟨I.obj,rfl,rfl,ho⟩,hl⟩
section
variable {P : Program} {w : World} {H H' : Hp} {h h' : Heap} {a C dx : Addr} {fs fs' : List (Str × V)}
theorem aj0 (hok:bL P w H h) (e:H a=some (.ins C dx fs)):∃ mA,t7 h a dx C mA/\(∀ f,jM (fs.lookup f) (mA f))/\PySem.Within mA (fs.map (·.1))/\fs.length<=1000/\H dx=some (.own a):=by
 obtain ⟨d,z,ne,ob,mA,n,r,q⟩:=(show bV P w H h a (.ins C dx fs) from hok a _ e)
 exact⟨mA,⟨ob,n,ne⟩,r,q,z,d⟩
end
structure t8 (K:PySem.W.Frag) (C:Addr):Prop where
 pg:PySem.W.plainGet K C Str.empty=true
 hd:PySem.W.hasDictIn K C=true
 po:PySem.W.plainOver K C=true
 sa:PySem.W.findIn K (.ref C) "__setattr__" = some (some (.builtin "object.__setattr__"))
theorem t8.get {K:PySem.W.Frag}{C:Addr} (c:t8 K C) (f:Str):PySem.W.plainGet K C f=true:=c.pg
section
variable {X : Cx} {pins : List (Addr × Obj)} {σ : St} {H : Hp} {s : Shared} {A : Around} {E : Value → Shared → Prop} {Q : Value → Shared → Prop} {c : Value} {b : Bool}
inductive eO (K:PySem.W.Frag) (H:Hp):V->Value->Prop where
 | non:eO K H .non (.type "NoneType")
 | bl (x:Bool):eO K H (.bl x) (.type "bool")
 | int (i:Int):eO K H (.int i) (.type "int")
 | str (x:Str):eO K H (.str x) (.type "str")
 | flt (x:UInt64):eO K H (.flt x) (.type "float")
 | lst {a:Addr}{xs:List V} (e:H a=some (.lst xs)):eO K H (.ref a) (.type "list")
 | frz {a:Addr}{o:Obj}{xs:List V} (e:H a=some (.frz o (.lst xs))):eO K H (.ref a) (.type "list")
 | tup {a:Addr}{xs:List V} (e:H a=some (.tup xs)):eO K H (.ref a) (.type "tuple")
 | dK {a:Addr}{kvs:List (aP × V)} (e:H a=some (.dK kvs)):eO K H (.ref a) (.type "dict")
 | dT {a:Addr}{kvs:List (List aP × V)} (e:H a=some (.dT kvs)):eO K H (.ref a) (.type "dict")
 | ins {a C dx:Addr}{fs:List (Str × V)} (e:H a=some (.ins C dx fs)) (cl:t8 K C) (ha:PySem.W.findIn K (.ref C) "__class__" = some (some (.builtin "object.__class__")))
   (hn:PySem.W.specialIn K (.builtin "object.__class__") "__get__" = some (some (.builtin "getset_descriptor.__get__"))) (htk:PySem.W.takesIn K (.builtin "object.__class__")=some true)
   (hm:PySem.W.mroIn K C (.type "object")=some true):eO K H (.ref a) (.ref C)
theorem aj1 {x:V}{u t:Value} (I:a6 X pins σ H s) (rx:aO x u) (ty:eO X.K H x t) (e:PySem.W.kitOne X.K t c=some b) (h:∀ tk,Q (.bool b) { s with toks:=tk }) :
  wpAny (model X.prog X.w) A (call (.builtin "isinstance") [u,c]) Q E s:=by
 cases ty with
 | non=>cases (show u=Value.none from rx); exact bf7 PySem.W.kitx_none I.kIn True.intro e (fun z=>nomatch z) h
 | bl y=>cases (show u=Value.bool y from rx); exact bf7 PySem.W.kitx_bool I.kIn True.intro e (fun z=>nomatch z) h
 | int i=>obtain ⟨t,q⟩:=(show ∃ t,u=Value.int i t from rx); cases q; exact bf7 PySem.W.kitx_int I.kIn True.intro e (fun z=>nomatch z) h
 | str y=>obtain ⟨t,q⟩:=(show ∃ t,u=Value.str y t from rx); cases q; exact bf7 PySem.W.kitx_str I.kIn True.intro e (fun z=>nomatch z) h
 | flt y=>obtain ⟨t,q⟩:=(show ∃ t,u=Value.float y t from rx); cases q; exact bf7 PySem.W.kitx_float I.kIn True.intro e (fun z=>nomatch z) h
 | @lst a xs ea=>
  cases (show u=Value.ref a from rx)
  obtain ⟨_,_,n,_,h1⟩:=(show bV X.prog X.w H s.heap a (.lst xs) from I.hok a _ ea)
  exact bf7 PySem.W.kitx_list I.kIn ⟨_,h1,rfl⟩ e (fun z=>nomatch z) h
 | @frz a ob xs ea=>
  cases (show u=Value.ref a from rx)
  obtain ⟨_,_,_,n,_,h1⟩:=(show bV X.prog X.w H s.heap a (.frz ob (.lst xs)) from I.hok a _ ea)
  exact bf7 PySem.W.kitx_list I.kIn ⟨_,h1,rfl⟩ e (fun z=>nomatch z) h
 | @tup a xs ea=>
  cases (show u=Value.ref a from rx)
  obtain ⟨_,_,_,p⟩:=(show bV X.prog X.w H s.heap a (.tup xs) from I.hok a _ ea)
  obtain ⟨o,h1,h2,_⟩:=p
  exact bf7 PySem.W.kitx_tuple I.kIn ⟨o,h1,h2⟩ e (fun z=>nomatch z) h
 | @dK a kvs ea=>
  cases (show u=Value.ref a from rx)
  obtain ⟨_,_,vs,_,p⟩:=(show bV X.prog X.w H s.heap a (.dK kvs) from I.hok a _ ea)
  obtain ⟨o,es,ep,h1,h2,_⟩:=p
  exact bf7 PySem.W.kitx_dict I.kIn ⟨o,h1,h2.1⟩ e (fun z=>nomatch z) h
 | @dT a kvs ea=>
  cases (show u=Value.ref a from rx)
  obtain ⟨_,_,xs,_,o,es,ep,h1,h2,_⟩:=(show bV X.prog X.w H s.heap a (.dT kvs) from I.hok a _ ea)
  exact bf7 PySem.W.kitx_dict I.kIn ⟨o,h1,h2.1⟩ e (fun z=>nomatch z) h
 | @ins a C dx fs ea cl ha hn htk hm=>
  cases (show u=Value.ref a from rx)
  obtain ⟨mA,O,_⟩:=aj0 I.hok ea
  obtain ⟨od,J,_⟩:=O.look
  exact bf7 (PySem.W.kitx_own (cl.get _) cl.hd ha hn htk hm) I.kIn J e (fun z=>nomatch z) h
end
structure bR (k:Nat) (A:Around):Prop where
 hd:A.handled=none
 dp:A.depth+3 * k+5 < recursionLimit
 un:A.units+16 * k+200 < cLine
theorem bR.mono {j k:Nat}{A:Around} (r:bR k A) (h:j<=k):bR j A:=⟨r.hd,by have:=r.dp; omega,by have:=r.un; omega⟩
theorem bR.deeper {k:Nat}{A:Around} (r:bR (k+1) A) (env:Env):bR k (A.deeper env):=
 ⟨r.hd,by have:=r.dp; show A.depth+1+3 * k+5 < _; omega,by have:=r.un; show A.units+3+16 * k+200 < _; omega⟩
theorem bR.depth {k:Nat}{A:Around} (r:bR k A):A.depth < recursionLimit:=by have:=r.dp; omega
theorem bR.units {k:Nat}{A:Around} (r:bR k A):A.units+64 < cLine:=by have:=r.un; omega
def kX:TA:=fun _ H Q=>Q [] H
def jU (ta:TE) (tr:TA):TA:=fun σ H Q=>ta σ H fun x H1=>tr σ H1 fun xs H2=>Q (x :: xs) H2
section
variable {X : Cx} {e : Expr} {es : List Expr} {te : TE} {t : TA} {pos : Pos}
theorem dD:PA X [] kX:=fun _ _ _ _ H Q I h=>Calls.spliced_nil ⟨[],H,I,.nil,h⟩
theorem cQ (ha:PE X e te) (hr:PA X es t) (hs:starEach (e :: es) X.env=(false,eval e X.env) :: starEach es X.env:=by rfl):PA X (e :: es) (jU te t):=by
 intro pos pins s σ H Q I h
 rw [hs]
 show wpAny _ _ (spliced ((false,eval e X.env) :: backTo pos (starEach es X.env))) _ _ s
 refine Calls.spliced_cons (aJ (ha pins s σ H _ I h) fun u s1 ⟨x,H1,I1,r1,q1⟩=>?_)
 exact aJ (hr pos pins s1 σ H1 _ I1 q1) fun us s2 ⟨xs,H2,I2,r2,q2⟩=>⟨x :: xs,H2,I2,.cons r1 r2,q2⟩
def yQ (t:TA):TE:=fun σ H Q=>t σ H fun xs H1=>xs.length<=sizeLine/\∀ p,H1 p=none->Q (.ref p) (upd H1 p (.tup xs))
def yR (t:TA):TE:=fun σ H Q=>t σ H fun xs H1=>xs.length<=sizeLine/\∀ p,H1 p=none->Q (.ref p) (upd H1 p (.lst xs))
theorem aj2 {x1} (h:PA X es t):PE X (.Tuple es x1 pos) (yQ t):=by
 intro pins s σ H Q I hq
 refine wpAny_Tuple_spliced (aJ (h pos pins s σ H _ I hq) fun us s1 ⟨xs,H1,I1,r,z,q⟩=>⟨by rw [<- r.length]; exact z,?_⟩)
 have hf:H1 s1.heap.objs.size=none:=I1.hok.fresh (aZ3 _)
 refine⟨.ref s1.heap.objs.size,upd H1 s1.heap.objs.size (.tup xs),I1.laid (t':=s1.toks) (fun b u e=>aZ1 _ e) (aZ3 _) ?_,rfl,q _ hf⟩
 exact⟨z,us,r,⟨_,bb2 _ rfl,rfl,_,rfl⟩⟩
theorem t9 (h:PA X es t):PE X (.List es pos) (yR t):=by
 intro pins s σ H Q I hq
 refine wpAny_List_spliced (aJ (h pos pins s σ H _ I hq) fun us s1 ⟨xs,H1,I1,r,z,q⟩=>⟨by rw [<- r.length]; exact z,?_⟩)
 have hf:H1 s1.heap.objs.size=none:=I1.hok.fresh (aZ3 _)
 refine⟨.ref s1.heap.objs.size,upd H1 s1.heap.objs.size (.lst xs),I1.laid (t':=s1.toks) (fun b u e=>aZ1 _ e) (aZ3 _) ?_,rfl,q _ hf⟩
 exact⟨z,us,0,r,bb2 _ rfl⟩
end
abbrev Sp:=List V->Hp->VK->XK->Prop
abbrev fQ:=List Env->Hp->Shared->XK->Value->Shared->Prop
structure oW (P:Program) (w:World) (K:PySem.W.Frag) (mg:Str->Option Value) (base:Heap) (A:Around) (outer:List Env) (s:Shared) (H:Hp):Prop where
 frames:A.frames=some outer
 mod:Mod K mg base
 bs:∀ b o,base.get? b=some o->s.heap.get? b=some o/\H b=none
 bsz:base.objs.size<=s.heap.objs.size
 funs:s.heap.FunFrames base outer
 frf:∀ b ∈ bF outer,H b=none
 hok:bL P w H s.heap
 bare:AllBare s.gens
def CE (outer:List Env) (P:Program) (w:World) (H:Hp) (s:Shared) (Q:VK) (u:Value) (s':Shared):Prop:=
 ∃ v H',s'.os=s.os/\AllBare s'.gens/\Un (bF outer) [] H H' s.heap s'.heap/\bL P w H' s'.heap/\aO v u/\Q v H'
def CR (CX:fQ) (outer:List Env) (P:Program) (w:World) (H:Hp) (s:Shared) (Q:VK) (E:XK) (r:Result) (s':Shared):Prop:=
 match r with
 | .ok (.ret u)=>CE outer P w H s Q u s'
 | .ok _=>False
 | .error e=>CX outer H s E e s'
structure cG (P:Program) (w:World) (K:PySem.W.Frag) (mg:Str->Option Value) (base:Heap) (CX:fQ) (k:Nat) (f:Addr) (fd:FuncData) (ps:List Str) (sp:Sp):Prop where
 len:∀ vs H Q E,sp vs H Q E->vs.length=ps.length
 run:∀ (A:Around) (outer:List Env) (s:Shared) (H:Hp) (args:Args) (us:List Value) (vs:List V) (Q:VK) (E:XK),bR k A->oW P w K mg base A outer s H->BindsTo s fd args (ps.zip us)->aH vs us->sp vs H Q E->
  codeAny (model P w) A (.call (.ref f) args) (CR CX outer P w H s Q E) s
theorem cG.imp {P:Program}{w:World}{K:PySem.W.Frag}{mg:Str->Option Value}{base:Heap}{CX:fQ}{k:Nat}{f:Addr}{fd:FuncData}{ps:List Str}{sp sp':Sp} (F:cG P w K mg base CX k f fd ps sp)
  (h:∀ vs H Q E,sp' vs H Q E->sp vs H Q E):cG P w K mg base CX k f fd ps sp':=
 ⟨fun vs H Q E q=>F.len vs H Q E (h _ _ _ _ q),fun A outer s H args us vs Q E hr he hb hv hs=>F.run A outer s H args us vs Q E hr he hb hv (h _ _ _ _ hs)⟩
section
variable {X : Cx} {pins : List (Addr × Obj)} {σ : St} {H : Hp} {s s' : Shared}
theorem a6.env0 (I:a6 X pins σ H s):oW X.prog X.w X.K X.mg X.base X.A X.stack s H:=
 ⟨I.ok.frames,I.ok.mod,I.bs,bd4 I.ok.bsz I.sz,I.stack,I.stkFree,I.hok,I.bare⟩
theorem a6.after {Q:VK}{u:Value} (I:a6 X pins σ H s) (h:CE X.stack X.prog X.w H s Q u s'):EP X pins σ Q u s':=by
 obtain ⟨v,H',os,bare,un,hok,r,q⟩:=h
 obtain ⟨hh,g,d,t,os'⟩:=s'
 obtain rfl:os'=s.os:=os
 exact⟨v,H',I.call (h':=hh) (g':=g) (d':=d) (t':=t) (ch:=[]) un hok bare (fun b z=>absurd z (by simp)),r,q⟩
end
def tD (sp:Sp) (dvs:List V) (E:XK) (t:TA):TE:=fun σ H Q=>t σ H fun vs H1=>sp (vs ++ dvs) H1 Q E
def fZ (K:PySem.W.Frag) (fd:FuncData) (ps:List Str) (ds:List Value):Prop:=
 ∀ (s:Shared) (us:List Value),K.In s.heap->(us ++ ds).length=ps.length->BindsTo s fd ⟨us,[]⟩ (ps.zip (us ++ ds))
theorem fZ.all {K:PySem.W.Frag}{fd:FuncData}{ps:List Str} (h:∀ us:List Value,us.length=ps.length->bindArgs fd ⟨us,[]⟩=pure (ps.zip us)):fZ K fd ps []:=fun s us _ hl=>by
 rw [bd0] at hl ⊢
 exact .of_eq (h us hl)
def mT (CX:fQ) (X:Cx) (E:XK):Prop:=∀ (pins:List (Addr × Obj)) (σ:St) (H:Hp) (s:Shared) (e:Value) (s':Shared),a6 X pins σ H s->CX X.stack H s E e s'->X.xe e s'
section
variable {X : Cx} {CX : fQ} {k : Nat} {f C : Addr} {fd : FuncData} {ps : List Str} {sp : Sp} {dvs : List V} {ds : List Value} {E : XK} {x m : Str} {p pos apos : Pos} {e o : Expr} {es : List Expr} {ta : TE} {t : TA}
theorem aj3 {pins:List (Addr × Obj)}{σ:St}{H:Hp}{s:Shared}{Q:VK}{us:List Value}{vs:List V} (F:cG X.prog X.w X.K X.mg X.base CX k f fd ps sp) (hr:bR k X.A) (hb:fZ X.K fd ps ds) (hd:aH dvs ds) (hx:mT CX X E)
  (I:a6 X pins σ H s) (r:aH vs us) (h:sp (vs ++ dvs) H Q E):wpAny (model X.prog X.w) X.A (call (.ref f) us) (EP X pins σ Q) X.xe s:=by
 have r2:aH (vs ++ dvs) (us ++ ds):=r.append hd
 have hl:(us ++ ds).length=ps.length:=by rw [<- r2.length]; exact F.len _ _ _ _ h
 refine wpAny_call (codeAny_mono (F.run X.A X.stack s H ⟨us,[]⟩ (us ++ ds) (vs ++ dvs) Q E hr I.env0 (hb s us I.kIn hl) r2 h) fun r s' hq=>?_)
 cases r with
 | error e=>exact hx pins σ H s e s' I hq
 | ok fl=>
  cases fl with
  | ret u=>exact I.after hq
  | next=>exact False.elim hq
  | brk=>exact False.elim hq
  | cont=>exact False.elim hq
theorem tE (F:cG X.prog X.w X.K X.mg X.base CX k f fd ps sp) (hr:bR k X.A) (hg:Gl X x) (hm:X.mg x=some (.ref f)) (hk:PySem.W.keepIn X.K (.ref f)=true) (hb:fZ X.K fd ps ds) (hd:aH dvs ds) (hx:mT CX X E)
  (ha:PA X (e :: es) t) (hdb:(x == ("__debug__" : Str))=false:=by decide) (he:starEach (e :: es) X.env=(false,eval e X.env) :: starEach es X.env:=by rfl) (hpl:(backTo pos (starEach es X.env)).any (·.1)=false:=by rfl) :
  PE X (.Call (.Name x p) (e :: es) [] pos) (tD sp dvs E t):=by
 intro pins s σ H Q I h
 refine wpAny_Call_Name_kw (mI I hg hm ?_ hdb)
 refine PySem.W.callWith_K (h₀:=X.base) I.ok.mod.kin hk (aJ (ha pos pins s σ H _ I h) fun us s1 ⟨vs,H1,I1,r,q⟩=>⟨I1.kIn,?_⟩) he hpl
 exact aj3 F hr hb hd hx I1 r q
end
def PK (X:Cx) (kws:List Keyword) (t:TA):Prop:=
 ∀ (pos:Pos) (pins:List (Addr × Obj)) (s:Shared) (σ:St) (H:Hp) (Q:List V->Hp->Prop),a6 X pins σ H s->t σ H Q->wpAny (model X.prog X.w) X.A (evalAll ((backToKw pos (keywordEach kws X.env)).map (·.2))) (AP X pins σ Q) X.xe s
structure FnScope (N P:List Str) (sc:Scope):Prop where
 kind:sc.kind = .function
 co:sc.isCoroutine=false
 gen:sc.isGenerator=false
 nd:N.Nodup
 pre:N.take P.length=P
 par:∀ x ∈ P,sc.names.lookup x=some .local ∨ sc.names.lookup x=some .cell
 nofree:∀ y ∈ sc.names,y.2 ≠ .free
theorem yS {kindOf:Str->Option NameKind}{x:Str}:∀ {binds:List (Str × Value)}{m:Str->Option Value},(∀ v,(x,v) ∉ binds)->bindL kindOf binds m x=m x
 | [],_,_=>rfl
 | (n,v) :: r,m,h=>by
  unfold bindL
  rw [yS fun w hw=>h w (bb0 _ hw)]
  split
  ·have:x ≠ n:=by rintro rfl; exact h v bb1
   simp [this]
  ·rfl
theorem yT {kindOf:Str->Option NameKind}{x:Str}:∀ {binds:List (Str × Value)}{m:Str->Option Value},(∀ v,(x,v) ∉ binds)->bindC kindOf binds m x=m x
 | [],_,_=>rfl
 | (n,v) :: r,m,h=>by
  unfold bindC
  rw [yT fun w hw=>h w (bb0 _ hw)]
  split
  ·rfl
  ·have:x ≠ n:=by rintro rfl; exact h v bb1
   simp [this]
theorem yU {kindOf:Str->Option NameKind}{x:Str}{v:Value}:∀ {P:List Str}{vs:List Value}{i:Nat}{m:Str->Option Value},P.Nodup->P[i]? = some x->vs[i]? = some v->kindOf x=some .local->
  bindL kindOf (P.zip vs) m x=some v
 | [],_,_,_,_,h,_,_=>by simp at h
 | _ :: _,[],_,_,_,_,h,_=>by simp at h
 | p :: P,w :: vs,0,m,nd,h1,h2,hk=>by
  simp at h1 h2; subst h1; subst h2
  show bindL kindOf ((p,w) :: P.zip vs) m p=_
  unfold bindL
  rw [yS fun v hv=>(bn9.mp nd).1 (List.of_mem_zip hv).1,if_pos hk]
  simp
 | p :: P,w :: vs,i+1,m,nd,h1,h2,hk=>by
  show bindL kindOf ((p,w) :: P.zip vs) m x=_
  unfold bindL
  exact yU (i:=i) (bn9.mp nd).2 (by simpa using h1) (by simpa using h2) hk
theorem yV {kindOf:Str->Option NameKind}{x:Str}{v:Value}:∀ {P:List Str}{vs:List Value}{i:Nat}{m:Str->Option Value},P.Nodup->P[i]? = some x->vs[i]? = some v->kindOf x ≠ some .local->
  bindC kindOf (P.zip vs) m x=some v
 | [],_,_,_,_,h,_,_=>by simp at h
 | _ :: _,[],_,_,_,_,h,_=>by simp at h
 | p :: P,w :: vs,0,m,nd,h1,h2,hk=>by
  simp at h1 h2; subst h1; subst h2
  show bindC kindOf ((p,w) :: P.zip vs) m p=_
  unfold bindC
  rw [yT fun v hv=>(bn9.mp nd).1 (List.of_mem_zip hv).1,if_neg hk]
  simp
 | p :: P,w :: vs,i+1,m,nd,h1,h2,hk=>by
  show bindC kindOf ((p,w) :: P.zip vs) m x=_
  unfold bindC
  exact yV (i:=i) (bn9.mp nd).2 (by simpa using h1) (by simpa using h2) hk
def fR (N:List Str) (vs:List V):St:=vs.map some ++ List.replicate (N.length - vs.length) none
def cW (CX:fQ) (P:Program) (w:World) (K:PySem.W.Frag) (mg:Str->Option Value) (base:Heap) (N:List Str) (qual:Str) (scope:Scope) (f:Addr) (cd:Value) (A:Around) (outer:List Env) (s:Shared) (H:Hp) (E:XK):Cx where
 prog:=P
 w:=w
 K:=K
 mg:=mg
 base:=base
 A:=A.deeper (envOfC qual scope s.heap.objs.size f cd)
 N:=N
 s₀:=s
 H₀:=H
 env:=envOfC qual scope s.heap.objs.size f cd
 outer:=outer
 stack:=envOfC qual scope s.heap.objs.size f cd :: outer
 ex:=[]
 calm:=true
 fn:=fun _=>true
 pn:=[]
 xe:=fun e s'=>wpAny (model P w) (A.deeper (envOfC qual scope s.heap.objs.size f cd)) (leaving (envOfC qual scope s.heap.objs.size f cd) e) (fun _ s''=>CX outer H s E e s'') (fun e' s''=>CX outer H s E e' s'') s'
theorem yW {sc:Scope}{n:Nat}{x:Str} (h:sc.names.lookup x=some .cell):∃ c,(cellsFrom n sc.names []).lookup x=some c:=by
 have q:=PySem.W.cellsFrom_some sc.names n [] (.inl h)
 exact Option.isSome_iff_exists.mp q
theorem aj4 {CX:fQ}{P:Program}{w:World}{K:PySem.W.Frag}{mg:Str->Option Value}{base:Heap}{N ps:List Str}{qual:Str}{scope:Scope}{f:Addr}{cd:Value}{A:Around}{outer:List Env}{s s1:Shared}{H:Hp}{E:XK}{us:List Value}{vs:List V}
  (S:FnScope N ps scope) (hd:A.handled=none) (e0:oW P w K mg base A outer s H) (hl:vs.length=ps.length) (r:aH vs us)
  (x:InCallC s s.heap.objs.size (bindL (envOfC qual scope s.heap.objs.size f cd).kindOf (ps.zip us) fun _=>none) (cellsFrom (s.heap.objs.size+1) scope.names []) (bindC (envOfC qual scope s.heap.objs.size f cd).kindOf (ps.zip us) fun _=>none) s1) :
  a6 (cW CX P w K mg base N qual scope f cd A outer s H E) [] (fR N vs) H s1:=by
 have hpl:ps.length<=N.length:=by have:=congrArg List.length S.pre; rw [bh3] at this; omega
 obtain ⟨h1,tk,rfl,hk⟩:=x.done
 have noA:∀ b:Addr,b ∉ (cW CX P w K mg base N qual scope f cd A outer s H E).ex:=fun b z=>absurd (show b ∈ ([]:List Addr) from z) (by simp)
 refine⟨⟨e0.mod,S.kind,rfl,rfl,aZ3 _,fun y z c h1 h2=>?_,fun y hy=>?_,fun y c _ h=>?_,fun _=>hd,Around.frames_deeper e0.frames,.inr ⟨rfl,rfl⟩,fun b z=>absurd z (noA b),e0.bs,e0.bsz,fun b _ _=>noA b,fun b z=>absurd z (noA b),e0.funs,e0.frf⟩,
  rfl,e0.bare,Un.kept hk,⟨_,x.toInCall.ns,fun i y v h1 h2 h3=>?_⟩,fun y c h=>⟨_,x.cell y c h⟩,e0.hok.fresh (aZ3 _),fun y c h=>?_,fun p hp=>absurd (show p ∈ ([]:List (Addr × Obj)) from hp) (by simp),e0.hok.kept hk,?_⟩
 ·exact name_of_addr x.apart (be6 h1) (be6 h2)
 ·have hy:scope.names.lookup y=some .cell ∨ scope.names.lookup y=some .free:=hy
  rcases hy with hy | hy
  ·exact yW hy
  ·exact absurd rfl (S.nofree _ (be6 hy))
 ·exact bi9 (x.above y c (be6 h))
 ·have hi:i < vs.length:=by
   unfold fR at h2
   by_cases hi:i < vs.length
   ·exact hi
   ·rw [be2 (by simpa using hi)] at h2
    rw [List.getElem?_replicate] at h2
    split at h2 <;> cases h2
  have ha:vs[i]? = some v:=by
   unfold fR at h2
   rw [bd2 (by simpa using hi),ba1] at h2
   cases e:vs[i]? with
   | none=>rw [e] at h2; cases h2
   | some a=>rw [e] at h2; cases h2; rfl
  obtain ⟨u,hu,rv⟩:=r.get ha
  have hp:ps[i]? = some y:=by
   rw [<- S.pre,List.getElem?_take_of_lt (by omega)]; exact h1
  have ndP:ps.Nodup:=by rw [<- S.pre]; exact S.nd.sublist (List.take_sublist _ _)
  refine⟨u,rv,?_⟩
  rcases S.par y (bb4 hp) with k | k
  ·exact .inl ⟨k,yU ndP hp hu k⟩
  ·obtain ⟨c,e⟩:=yW (n:=s.heap.objs.size+1) k
   refine .inr ⟨.inl k,c,e,?_⟩
   have q:=x.cell y c e
   rw [yV ndP hp hu (by show scope.names.lookup y ≠ _; rw [k]; decide)] at q
   exact q
 ·exact e0.hok.fresh (bi9 (x.above y c (be6 h)))
 ·unfold fR
  show _=N.length
  rw [ba8,ba3,List.length_replicate]
  omega
theorem yX {CX:fQ}{P:Program}{w:World}{K:PySem.W.Frag}{mg:Str->Option Value}{base:Heap}{k:Nat}{f:Addr}{name qual:Str}{params:Arguments}{body:List Stmt}{scope:Scope}{dV kV doc pm cdv ct oc:Value}{an od:Option Addr}
  {osl:Array (Option Value)}{N ps:List Str}{sp:Sp} (lk:K.lookup f=some ⟨oc,od,.func (PySem.W.fnOf name qual params body scope dV kV doc pm an cdv ct),osl⟩) (hcd:PySem.W.codeIn K cdv qual=true) (S:FnScope N ps scope)
  (len:∀ vs H Q E,sp vs H Q E->vs.length=ps.length)
  (hbody:∀ (A:Around) (outer:List Env) (s:Shared) (H:Hp) (vs:List V) (Q:VK) (E:XK),bR k (A.deeper (envOfC qual scope s.heap.objs.size f cdv))->sp vs H Q E->
   ∃ t,dC (cW CX P w K mg base N qual scope f cdv A outer s H E) body t/\t { nx:=fun _ H'=>Q .non H',rt:=Q } (fR N vs) H) :
  cG P w K mg base CX (k+1) f (PySem.W.fnOf name qual params body scope dV kV doc pm an cdv ct) ps sp:=by
 refine⟨len,fun A outer s H args us vs Q E hr e0 hb r hsp=>?_⟩
 have hl:=len _ _ _ _ hsp
 have KX:K.In s.heap:=e0.mod.kin.keeps fun b o e=>(e0.bs b o e).1
 have lim:s.heap.NoLimit:=e0.mod.nolimit.keeps fun b o e=>(e0.bs b o e).1
 have hkind:∀ y ∈ ps.zip us,scope.names.lookup y.1=some .local ∨ (scope.names.lookup y.1=some .cell/\((cellsFrom (s.heap.objs.size+1) scope.names []).lookup y.1).isSome=true):=fun ⟨n,v⟩ hy=>by
  rcases S.par n (List.of_mem_zip hy).1 with q | q
  ·exact .inl q
  ·exact .inr ⟨q,PySem.W.cellsFrom_some _ _ _ (.inl q)⟩
 refine codeAny_call_function hr.depth (KX _ _ lk) rfl S.co S.gen rfl (PySem.W.codeRec_of KX hcd) (hb _ _ _ _ ?_)
 refine wpAny_newFunctionEnv_cells S.kind hkind fun env he s1 x=>?_
 subst he
 refine⟨lim.keeps x.toInCall.keep,codeAny_func ?_⟩
 obtain ⟨t,ht,hq⟩:=hbody A outer s H vs Q E (hr.deeper _) hsp
 have I:a6 (cW CX P w K mg base N qual scope f cdv A outer s H E) [] (fR N vs) H s1:=aj4 S hr.hd e0 hl r x
 refine bh9 (ht [] s1 (fR N vs) H _ I hq) (fun fl s' hs=>?_) fun e s' hs=>hs
 have fin:∀ {σ':St}{H':Hp}{v:V}{u:Value},a6 (cW CX P w K mg base N qual scope f cdv A outer s H E) [] σ' H' s'->aO v u->Q v H'->CE outer P w H s Q u s':=
  fun {σ' H' v u} J rv q=>⟨v,H',J.os,J.bare,J.base,J.hok,rv,q⟩
 cases fl with
 | ret u=>
  obtain ⟨v,σ',H',J,rv,q⟩:=hs
  exact fin J rv q
 | next=>
  obtain ⟨σ',H',J,q⟩:=hs
  exact fin (v:=V.non) (u:=Value.none) J rfl q
 | brk=>
  obtain ⟨_,_,_,q⟩:=hs
  exact False.elim q
 | cont=>
  obtain ⟨_,_,_,q⟩:=hs
  exact False.elim q
section
variable {X : Cx} {x : Str} {p pos : Pos} {e : Expr} {es : List Expr} {t : TA} {id T : String} {r : List V → Hp → VK → Prop}
def tF (r:List V->Hp->VK->Prop) (t:TA):TE:=fun σ H Q=>t σ H fun vs H1=>r vs H1 Q
theorem mU (hc:cK X (.builtin id) r) (hg:Gl X x) (hm:X.mg x=none) (hv:bootBuiltins x=some (.builtin id)) (ha:PA X (e :: es) t) (hn:x ≠ "__name__":=by decide) (hdb:(x == ("__debug__" : Str))=false:=by decide)
  (he:starEach (e :: es) X.env=(false,eval e X.env) :: starEach es X.env:=by rfl) (hpl:(backTo pos (starEach es X.env)).any (·.1)=false:=by rfl):PE X (.Call (.Name x p) (e :: es) [] pos) (tF r t):=by
 intro pins s σ H Q I h
 refine wpAny_Call_Name_kw (i5 I hg hm hv ?_ hn hdb)
 exact PyProof.Rows.callWith_builtin1 (aJ (ha pos pins s σ H _ I h) fun us s1 ⟨vs,H1,I1,r1,q1⟩=>hc pins s1 σ H1 vs us Q I1 r1 q1) he hpl
theorem yY (hc:cK X (.type T) r) (hg:Gl X x) (hm:X.mg x=none) (hv:bootBuiltins x=some (.type T)) (ha:PA X (e :: es) t) (hn:x ≠ "__name__":=by decide) (hdb:(x == ("__debug__" : Str))=false:=by decide)
  (he:starEach (e :: es) X.env=(false,eval e X.env) :: starEach es X.env:=by rfl) (hpl:(backTo pos (starEach es X.env)).any (·.1)=false:=by rfl):PE X (.Call (.Name x p) (e :: es) [] pos) (tF r t):=by
 intro pins s σ H Q I h
 refine wpAny_Call_Name_kw (i5 I hg hm hv ?_ hn hdb)
 exact bg5 (aJ (ha pos pins s σ H _ I h) fun us s1 ⟨vs,H1,I1,r1,q1⟩=>hc pins s1 σ H1 vs us Q I1 r1 q1) he hpl
end
end L2
namespace HT
open PySem PyProof.Rows
def aQ:List Int->List Int->Bool
 | [],[]=>false
 | [],_ :: _=>true
 | _ :: _,[]=>false
 | x :: xs,y :: ys=>if x=y then aQ xs ys else decide (x < y)
theorem g9 (x y:Int) (xs ys:List Int):aQ (x :: xs) (y :: ys)=if x=y then aQ xs ys else decide (x < y):=rfl
theorem yZ:aQ [] []=false:=rfl
theorem aj5 (y:Int) (ys:List Int):aQ [] (y :: ys)=true:=rfl
theorem aj6 (x:Int) (xs:List Int):aQ (x :: xs) []=false:=rfl
theorem z9 (A:Around) (s:Shared) (a:Int) (t:Tok) (c:Int) (u:Tok):∃ e,SeqAt.EqAt A s (.int a t) (.int c u) e/\(e=true ↔ a=c):=
 ⟨(a == c),SeqAt.EqAt.int_int a t c u,by simp⟩
theorem zA (A:Around) (s:Shared) (a:Int) (t:Tok) (c:Int) (u:Tok) (prog:Program) (w:World) (E:Value->Shared->Prop) (Q:Value->Shared->Prop) (h:Q (.bool (decide (a < c))) s) :
  wpAny (model prog w) A (richCompare .Lt (.int a t) (.int c u)) Q E s:=
 (PyProof.Rows.lt_int h:wpAny (model prog w) A (compareOp .Lt (.int a t) (.int c u)) Q E s)
section
open PySem.SeqAt
open PySem.AutoSeq1 (wpAny_loadPart')
open PySem.MeetsSeq PySem.MeetsSeq2 PySem.MeetsSeq3
theorem zB (l b:Addr) (items items2:Array Value) (n n2:Nat) (dd dd2:Option Addr) (sl sl2:Array (Option Value)) (ns ms:List Int) (hi:IntsAre items.toList ns) (hj:IntsAre items2.toList ms) :
  Meets (Builtin.«tuple.__lt__» ⟨[.ref l,.ref b],[]⟩)
   (fun _ R s=>s.heap.get? l=some { cls:=.type "tuple",dict:=dd,data:=.seq items n,slots:=sl }/\s.heap.get? b=some { cls:=.type "tuple",dict:=dd2,data:=.seq items2 n2,slots:=sl2 }/\
    R (.ok (.ret (.bool (aQ ns ms)))) s):=
 .of_wp fun prog w A R s h=>by
  obtain ⟨hp,g,d,tk,os⟩:=s; obtain ⟨hl,hb,h⟩:=h
  have f2:=AutoSeq1.sub_tuple_tuple
  have z1:items.size=ns.length:=by rw [<- hi.length]; simp
  have z2:items2.size=ms.length:=by rw [<- hj.length]; simp
  wp_walk using wpAny_loadPart' hl,wpAny_loadPart' hb,wpAny_forIn_list _ (fun bM b s'=>b.1=none/\s'=⟨hp,g,d,tk,os⟩/\∃ (vs ws:List Value) (ns' ms':List Int),bM=vs.zip ws/\
   IntsAre vs ns'/\IntsAre ws ms'/\ns'.length+items2.size=ms'.length+items.size/\R (.ok (.ret (.bool (aQ ns' ms')))) ⟨hp,g,d,tk,os⟩) _
  case turn=>
   rintro ⟨y,x⟩ bM b s' ⟨hb',rfl,vs,ws,ns',ms',hz,hvi,hwi,hlen,hR⟩
   cases hvi with
   | nil=>rw [List.zip_nil_left] at hz; cases hz
   | cons a t hvi'=>
    cases hwi with
    | nil=>rw [List.zip_nil_right] at hz; cases hz
    | cons c u hwi'=>
     rw [bn2] at hz
     injection hz with hyx hrest
     injection hyx with hy hx
     subst hy hx
     rw [g9] at hR
     simp only [bd5] at hlen
     obtain ⟨e,he,hiff⟩:=z9 A.in1 ⟨hp,g,d,tk,os⟩ a t c u
     refine aY9 (he prog w _ _ ?_)
     cases e with
     | true=>
      rw [if_pos (hiff.mp rfl)] at hR
      wp_walk
      exact⟨rfl,rfl,_,_,_,_,hrest,hvi',hwi',by omega,hR⟩
     | false=>
      rw [if_neg (fun q=>absurd (hiff.mpr q) ba7)] at hR
      have hri:=zA A.in1 ⟨hp,g,d,tk,os⟩ a t c u prog w
      wp_walk using hri
      exact⟨_,rfl,by simpa using hR⟩
  case fin=>
   rintro ⟨b1,b2⟩ s' ⟨hb',rfl,vs,ws,ns',ms',hz,hvi,hwi,hlen,hR⟩
   simp only at hb'
   subst hb'
   have hv:aQ ns' ms'=decide (items.size < items2.size):=by
    cases hvi with
    | nil=>
     cases hwi with
     | nil=>
      simp only [List.length_nil] at hlen
      rw [yZ]
      exact (aZ8 (by omega)).symm
     | cons c u hw=>
      simp only [List.length_nil,bd5] at hlen
      rw [aj5]
      exact (ba2 (by omega)).symm
    | cons a t hv=>
     cases hwi with
     | nil=>
      simp only [List.length_nil,bd5] at hlen
      rw [aj6]
      exact (aZ8 (by omega)).symm
     | cons c u hw=>
      rw [bn2] at hz
      cases hz
   rw [hv] at hR
   wp_walk
   exact⟨_,rfl,by simpa [Builtin.Tuple.tupleCompareSizes] using hR⟩
  case h=>
   exact⟨rfl,rfl,items.toList,items2.toList,ns,ms,rfl,hi,hj,by omega,h⟩
end
section
variable {prog : Program} {w : World} {A : Around} {E : Value → Shared → Prop} {s : Shared}
theorem aj7 {l b:Addr}{items items2:Array Value}{ns ms:List Int}{Q:Value->Shared->Prop} (hl:IsTup s.heap l items) (hb:IsTup s.heap b items2) (hi:IntsAre items.toList ns) (hj:IntsAre items2.toList ms)
  (hu:A.units < cLine) (h:Q (.bool (aQ ns ms)) s):wpAny (model prog w) A (compareOp .Lt (.ref l) (.ref b)) Q E s:=by
 obtain ⟨⟨cls,dd,data,sl⟩,ho,hc,n,hd⟩:=id hl
 obtain ⟨⟨cls2,dd2,data2,sl2⟩,ho2,hc2,n2,hd2⟩:=id hb
 simp only at hc hd hc2 hd2
 subst hc hd hc2 hd2
 exact richCompare_meets_room (op:=.Lt) ⟨_,ho,rfl⟩ ⟨_,ho2,rfl⟩ PySem.F.slot_tuple_lt PySem.F.entry_tuple_lt (PySem.F.args_tuple_lt_2 _ _) (zB l b items items2 n n2 dd dd2 sl sl2 ns ms hi hj)
  ⟨ho,ho2,show Value.bool (aQ ns ms) ≠ Value.notImplemented/\Q (.bool (aQ ns ms)) s from ⟨(fun x=>nomatch x),h⟩⟩ hu
theorem aj8 {t b:Addr}{vs ws:List Value}{Q:Value->Shared->Prop} (ht:IsTup s.heap t vs.toArray) (hb:IsTup s.heap b ws.toArray) (hv:vs ≠ [])
  (h1:ws = []->Q (.ref t) s) (h2:ws ≠ []->Q (.ref s.heap.objs.size) { s with heap:=s.heap.push { cls:=.type "tuple",data:=.seq (vs ++ ws).toArray } })
  (hsz:vs.length+ws.length<=sizeLine):wpAny (model prog w) A (binaryOp .Add (.ref t) (.ref b)) Q E s:=by
 obtain ⟨⟨cls,dd,data,sl⟩,ho,hc,n,hd⟩:=id ht
 obtain ⟨⟨cls2,dd2,data2,sl2⟩,ho2,hc2,n2,hd2⟩:=id hb
 simp only at hc hd hc2 hd2
 subst hc hd hc2 hd2
 have e:vs.toArray ++ ws.toArray=(vs ++ ws).toArray:=by simp
 by_cases hw:ws = []
 ·exact concat_meets ⟨_,ho,rfl⟩ ⟨_,ho2,rfl⟩ noFill_tuple_add seq_tuple_add PySem.F.slot_tuple_add PySem.F.entry_tuple_add (PySem.F.args_tuple_add_2 _ _)
   (tuple_addW1 t b vs.toArray ws.toArray n n2 dd dd2 sl sl2 (by simpa using hv) (by simp [hw])) ⟨ho,ho2,h1 hw⟩
 ·refine concat_meets ⟨_,ho,rfl⟩ ⟨_,ho2,rfl⟩ noFill_tuple_add seq_tuple_add PySem.F.slot_tuple_add PySem.F.entry_tuple_add (PySem.F.args_tuple_add_2 _ _)
   (tuple_addW2 t b vs.toArray ws.toArray n n2 dd dd2 sl sl2 (by simpa using hv) (by simpa using hw) (by rw [aZ2,aZ2]; exact hsz)) ⟨ho,ho2,?_⟩
  rw [e]
  exact h2 hw
def aR (n d:Nat):Option Int->Nat
 | none=>d
 | some v=>if v < 0 then (v+(n:Int)).toNat else min v.toNat n
theorem aj9 (n d k:Nat):aR n d (some (k:Int))=min k n:=by
 show (if (k:Int) < 0 then ((k:Int)+(n:Int)).toNat else min (k:Int).toNat n)=min k n
 rw [if_neg (by omega),be3]
theorem ak0 (n d:Nat) (hd:d<=n) (o:Option Int):aR n d o<=n:=by
 cases o with
 | none=>exact hd
 | some v=>
  show (if v < 0 then (v+(n:Int)).toNat else min v.toNat n)<=n
  by_cases hv:v < 0
  ·rw [if_pos hv]; omega
  ·rw [if_neg hv]; exact Nat.min_le_right _ _
theorem zC (v:Int) (n d:Nat):(if v < 0 then max (v+(n:Int)) 0 else min v (n:Int))=((aR n d (some v):Nat):Int):=by
 show (if v < 0 then max (v+(n:Int)) 0 else min v (n:Int))=(((if v < 0 then (v+(n:Int)).toNat else min v.toNat n):Nat):Int)
 by_cases hv:v < 0
 ·simp only [if_pos hv]; omega
 ·simp only [if_neg hv]; omega
theorem ak1 (lo hi:Option Int) (n:Nat):Builtin.Slice.sliceAdjust lo hi 1 (n:Int)=(((aR n 0 lo:Nat):Int),((aR n n hi:Nat):Int)):=by
 have h1 : ¬ ((1:Int) < 0):=by omega
 unfold Builtin.Slice.sliceAdjust
 simp only [h1,bi7]
 refine Prod.ext ?_ ?_
 ·cases lo with
  | none=>rfl
  | some v=>exact zC v n 0
 ·cases hi with
  | none=>rfl
  | some v=>exact zC v n n
theorem ak2 (i j:Nat):Builtin.Slice.slicePlaces (i:Int) (j:Int) 1=j - i:=by
 unfold Builtin.Slice.slicePlaces
 have h1:(1:Int) > 0:=by omega
 simp only [h1,if_true,Int.ediv_one]
 split <;> omega
theorem zD {v:Value}{o:Option Int}{Q:Option Int->Shared->Prop} (p:IsPart v o) (h:Q o s):wpAny (model prog w) A (Builtin.Slice.slicePartIndex v) Q E s:=by
 cases p with
 | none=>exact slicePart_none h
 | int i t=>exact slicePart_int h
theorem zE {sl:Addr}{vl vu:Value}{lo hi:Option Int}{n:Nat}{Q:Int × Int × Nat->Shared->Prop} (hs:s.heap.IsSliceOf sl vl vu .none) (pl:IsPart vl lo) (pu:IsPart vu hi)
  (h:Q (((aR n 0 lo:Nat):Int),1,aR n n hi - aR n 0 lo) s):wpAny (model prog w) A (Builtin.Slice.sliceApplied (.ref sl) (pure (n:Int))) Q E s:=by
 obtain ⟨os,hos,hcs,hds⟩:=id hs
 unfold Builtin.Slice.sliceApplied Builtin.Slice.sliceFields
 refine aY9 (aY9 (bf4 hos hds (x:=vl) rfl (aY9 (bf4 hos hds (x:=vu) rfl (aY9 (bf4 hos hds (x:=.none) rfl (aZ5 ?_)))))))
 refine aY9 (slicePart_none ?_)
 show wpAny _ _ (if ((1:Int) == 0)=true then _ else _) _ _ s
 rw [if_neg (by decide)]
 refine aY9 (zD pl (aY9 (zD pu (aY9 (aZ5 ?_)))))
 show wpAny _ _ (match Builtin.Slice.sliceAdjust lo hi 1 (n:Int) with | (lo,hi)=>pure (lo,(1:Int),Builtin.Slice.slicePlaces lo hi 1)) _ _ s
 rw [ak1 lo hi n]
 show wpAny _ _ (pure (((aR n 0 lo:Nat):Int),(1:Int),Builtin.Slice.slicePlaces ((aR n 0 lo:Nat):Int) ((aR n n hi:Nat):Int) 1)) _ _ s
 rw [ak2]
 exact aZ5 h
theorem ak3 (xs:Array Value) (i k:Nat):((List.range k).filterMap fun (m:Nat)=>xs[((i:Int)+(m:Int) * 1).toNat]?).toArray=((xs.toList.drop i).take k).toArray:=by
 have e:(fun (m:Nat)=>xs[((i:Int)+(m:Int) * 1).toNat]?)=fun m=>xs[i+m]?:=by
  funext m
  have:((i:Int)+(m:Int) * 1).toNat=i+m:=by omega
  rw [this]
 rw [e]
 have:=pick_run xs i k
 rw [List.filterMap_map] at this
 have e2:((fun x=>xs[x]?) ∘ fun x=>i+x)=fun m=>xs[i+m]?:=rfl
 rw [e2] at this
 rw [this]
theorem ak4 {t sl:Addr}{items:Array Value}{vl vu:Value}{lo hi:Option Int}{Q:Value->Shared->Prop} (ht:IsTup s.heap t items) (hs:s.heap.IsSliceOf sl vl vu .none) (pl:IsPart vl lo) (pu:IsPart vu hi)
  (hw : ¬ (aR items.size 0 lo=0/\aR items.size items.size hi=items.size))
  (h:Q (.ref s.heap.objs.size) { s with heap:=s.heap.push { cls:=.type "tuple",data:=.seq ((items.toList.drop (aR items.size 0 lo)).take (aR items.size items.size hi - aR items.size 0 lo)).toArray } })
  (hsz:items.size<=sizeLine):wpAny (model prog w) A (getItem (.ref t) (.ref sl)) Q E s:=by
 have htake:sizeOk (.seq ((items.toList.drop (aR items.size 0 lo)).take (aR items.size items.size hi - aR items.size 0 lo)).toArray):=by
  show ((items.toList.drop (aR items.size 0 lo)).take (aR items.size items.size hi - aR items.size 0 lo)).toArray.size<=sizeLine
  rw [aZ2,bh3,bf8,bg7]
  omega
 have hj:aR items.size items.size hi<=items.size:=ak0 _ _ (aZ3 _) hi
 obtain ⟨os,hos,hcs,hds⟩:=id hs
 have hTs:s.TypeIs (.ref sl) "slice":=⟨os,hos,hcs⟩
 unfold getItem
 try with_reducible refine bh7 ?_
 first | refine aY9 (aZ5 ?_) | skip
 refine aY9 (wpAny_sequenceKey ht.typeIs (by decide) ?_)
 refine aY9 (bh4 (name:=Str.ofString "__getitem__") ht.typeIs bl3
  (bi1 bl3 ht.typeIs entry_tuple_getitem ?_ (args_tuple_getitem _ _)))
 show wpAny _ _ (Builtin.Tuple.tupleItemsOf (.ref t) >>= _) _ _ s
 refine aY9 (tupleItemsOf_ ht ?_)
 refine aY9 (wpAny_typeOf hTs ?_)
 rw [if_pos (by decide)]
 refine aY9 (zE hs pl pu ?_)
 have hno : ¬ ((((aR items.size 0 lo:Nat):Int) == 0 && (1:Int) == 1 && (aR items.size items.size hi - aR items.size 0 lo) == items.size)=true):=by
  intro q
  rw [bf3,bf3] at q
  have q1:((aR items.size 0 lo:Nat):Int)=0:=eq_of_beq q.1.1
  have q2:aR items.size items.size hi - aR items.size 0 lo=items.size:=eq_of_beq q.2
  exact hw ⟨by omega,by omega⟩
 show wpAny _ _ (if (((aR items.size 0 lo:Nat):Int) == 0 && (1:Int) == 1 && (aR items.size items.size hi - aR items.size 0 lo) == items.size)=true then _ else _) _ _ s
 rw [if_neg hno,ak3]
 first
  | exact aY9 (m:=Builtin.Tuple.tupleExact _) (bk8 (aZ5 ⟨_,rfl,aZ5 h⟩) htake)
  | exact aY9 (m:=Builtin.Tuple.tupleExact _) (bk8 (aY9 (aZ5 (aZ5 ⟨_,rfl,aZ5 h⟩))) htake)
  | exact aY9 (aY9 (m:=Builtin.Tuple.tupleExact _) (bk8 (aZ5 (aZ5 ⟨_,rfl,aZ5 h⟩)) htake))
  | exact aY9 (aY9 (m:=Builtin.Tuple.tupleExact _) (bk8 (aZ5 ⟨_,rfl,aZ5 h⟩) htake))
end
end HT
namespace L2
open PySem PySem.Spec PyProof.Rows
abbrev TO:=St->Hp->(Option Int->Hp->Prop)->Prop
def PO (X:Cx) (e:Option Expr) (t:TO):Prop:=
 ∀ (pins:List (Addr × Obj)) (s:Shared) (σ:St) (H:Hp) (Q:Option Int->Hp->Prop),a6 X pins σ H s->t σ H Q->
  wpAny (model X.prog X.w) X.A (evalPart e X.env) (fun u s'=>∃ o H',a6 X pins σ H' s'/\IsPart u o/\Q o H') X.xe s
def ak5:TO:=fun _ H Q=>Q none H
def ak6 (t:TE):TO:=fun σ H Q=>t σ H fun x H1=>∃ i,x = .int i/\Q (some i) H1
theorem oX {ns:List Int}:∀ {us:List Value},aH (ns.map V.int) us->IntsAre us ns:=by
 induction ns with
 | nil=>intro us r; rw [List.map_nil] at r; cases r; exact .nil
 | cons n ns ih=>
  intro us r
  rw [be9] at r
  cases r with
  | cons r1 r2=>
   obtain ⟨t,e⟩:=r1
   subst e
   exact .cons n t (ih r2)
section
variable {X : Cx} {e : Expr} {te : TE} {lo hi : Option Expr} {tl th : TO} {pos p2 : Pos}
theorem tG:PO X none ak5:=by
 intro pins s σ H Q I h
 rw [evalPart_none]
 exact aZ5 ⟨none,H,I,.none,h⟩
theorem tH (h:PE X e te):PO X (some e) (ak6 te):=by
 intro pins s σ H Q I hw
 rw [evalPart_some]
 refine aJ (h pins s σ H _ I hw) fun u s1 ⟨x,H1,I1,r1,q1⟩=>?_
 obtain ⟨i,rfl,q⟩:=q1
 obtain ⟨t,rfl⟩:=r1
 exact⟨some i,H1,I1,.int i t,q⟩
def iY (X:Cx) (r:V->Option Int->Option Int->Hp->VK->Prop):Prop:=
 ∀ (pins:List (Addr × Obj)) (s:Shared) (σ:St) (H:Hp) (x:V) (v vl vu:Value) (lo hi:Option Int) (sl:Addr) (Q:VK),a6 X pins σ H s->aO x v->s.heap.IsSliceOf sl vl vu .none->IsPart vl lo->IsPart vu hi->r x lo hi H Q->
  ∃ T id,typeLookup (.type T) "__getitem__" = pure (some (.builtin id))/\s.TypeIs v T/\wpAny (model X.prog X.w) X.A (getItem v (.ref sl)) (EP X pins σ Q) X.xe s
theorem iY.or {r r':V->Option Int->Option Int->Hp->VK->Prop} (h:iY X r) (h':iY X r'):iY X (fun x lo hi H Q=>r x lo hi H Q ∨ r' x lo hi H Q):=by
 intro pins s σ H x v vl vu lo hi sl Q I rx hs pl pu q
 rcases q with q | q
 ·exact h pins s σ H x v vl vu lo hi sl Q I rx hs pl pu q
 ·exact h' pins s σ H x v vl vu lo hi sl Q I rx hs pl pu q
def tSl (r:V->Option Int->Option Int->Hp->VK->Prop) (te:TE) (tl th:TO):TE:=fun σ H Q=>te σ H fun x H1=>tl σ H1 fun l H2=>th σ H2 fun u H3=>r x l u H3 Q
theorem tI {r:V->Option Int->Option Int->Hp->VK->Prop} (hr:iY X r) (he:PE X e te) (hl:PO X lo tl) (hu:PO X hi th):PE X (.Subscript e (.Slice lo hi none p2) pos) (tSl r te tl th):=by
 intro pins s σ H Q I h
 refine Subscript_ (aJ (he pins s σ H _ I h) fun v s1 ⟨x,H1,I1,r1,q1⟩=>?_)
 refine wpAny_Slice (aJ (hl pins s1 σ H1 _ I1 q1) fun vl s2 ⟨l,H2,I2,pl,q2⟩=>aJ (hu pins s2 σ H2 _ I2 q2) fun vu s3 ⟨u,H3,I3,pu,q3⟩=>?_)
 rw [evalPart_none]
 refine aZ5 ?_
 have I4:a6 X pins σ H3 { s3 with heap:=s3.heap.push { cls:=.type "slice",data:=.fields #[vl,vu,.none] } }:=I3.kept (t':=s3.toks) fun b ob q=>aZ1 _ q
 obtain ⟨T,id,hT,ht,hg⟩:=hr pins { s3 with heap:=s3.heap.push { cls:=.type "slice",data:=.fields #[vl,vu,.none] } } σ H3 x v vl vu l u s3.heap.objs.size Q I4 r1 (Heap.IsSliceOf.new ..) pl pu q3
 show wpAny (model X.prog X.w) X.A (subscriptTail e (.Slice lo hi none p2) v (.ref s3.heap.objs.size)) (EP X pins σ Q) X.xe { s3 with heap:=s3.heap.push { cls:=.type "slice",data:=.fields #[vl,vu,.none] } }
 exact tail_any (ops:=[.ref s3.heap.objs.size,v]) ht hT hg (by with_unfolding_all rfl)
def dE (xs:List V) (lo hi:Option Int):List V:=(xs.drop (HT.aR xs.length 0 lo)).take (HT.aR xs.length xs.length hi - HT.aR xs.length 0 lo)
theorem zF (xs:List V) (lo hi:Option Int):(dE xs lo hi).length<=xs.length:=by
 unfold dE
 rw [bh3,bf8]
 omega
def ak7 (K:PySem.W.Frag):V->Option Int->Option Int->Hp->VK->Prop:=fun x lo hi H Q=>∃ a xs,x = .ref a/\aD K H a xs/\
 ¬ (HT.aR xs.length 0 lo=0/\HT.aR xs.length xs.length hi=xs.length)/\∀ p,H p=none->Q (.ref p) (upd H p (.tup (dE xs lo hi)))
theorem ak8:iY X (ak7 X.K):=by
 intro pins s σ H x v vl vu lo hi sl Q I rx hs pl pu h
 obtain ⟨a,xs,rfl,hx,hw,q⟩:=h
 cases rx
 obtain ⟨its,r,ht,hz⟩:=I.tuple hx
 have hlen:its.toArray.size=xs.length:=by rw [aZ2]; exact r.length.symm
 refine⟨"tuple",_,PyProof.Rows.slot_tuple_getitem.lookup,ht.typeIs,?_⟩
 refine HT.ak4 ht hs pl pu (by rw [hlen]; exact hw) ?_ (by rw [hlen]; exact hz)
 rw [hlen]
 refine⟨.ref s.heap.objs.size,_,I.laid (t':=s.toks) (o:=.tup (dE xs lo hi)) (fun b ob q=>aZ1 _ q) (aZ3 _) ?_,rfl,q _ (I.hok.fresh (aZ3 _))⟩
 exact⟨bd4 (zF xs lo hi) hz,_,(r.drop (HT.aR xs.length 0 lo)).take (HT.aR xs.length xs.length hi - HT.aR xs.length 0 lo),IsTup.new _ _⟩
def ak9 (K:PySem.W.Frag):R2:=fun x y H Q=>∃ a b xs ys,x = .ref a/\y = .ref b/\aD K H a xs/\aD K H b ys/\xs ≠ []/\xs.length+ys.length<=sizeLine/\
 (ys = []->Q (.ref a) H)/\(ys ≠ []->∀ p,H p=none->Q (.ref p) (upd H p (.tup (xs ++ ys))))
theorem aH.nil_iff {xs:List V}{us:List Value} (r:aH xs us):us = [] ↔ xs = []:=by
 cases r with
 | nil=>simp
 | cons _ _=>simp
theorem al0:bP X (binaryOp .Add) (ak9 X.K):=by
 intro pins s σ H x y v u Q I rx ry h
 obtain ⟨a,b,xs,ys,rfl,rfl,ha,hb,hx,hz,q1,q2⟩:=h
 cases rx
 cases ry
 obtain ⟨its,r1,p1,_⟩:=I.tuple ha
 obtain ⟨its2,r2,p2,_⟩:=I.tuple hb
 refine HT.aj8 p1 p2 (fun z=>hx (r1.nil_iff.mp z)) (fun z=>⟨.ref a,H,I,rfl,q1 (r2.nil_iff.mp z)⟩) (fun z=>?_) (by rw [<- r1.length,<- r2.length]; exact hz)
 refine⟨.ref s.heap.objs.size,_,I.laid (t':=s.toks) (o:=.tup (xs ++ ys)) (fun b ob q=>aZ1 _ q) (aZ3 _) ?_,rfl,q2 (fun w=>z (r2.nil_iff.mpr w)) _ (I.hok.fresh (aZ3 _))⟩
 exact⟨by rw [ba8]; exact hz,_,r1.append r2,IsTup.new _ _⟩
end
def eQ (n:Nat) (i:Int):Option Nat:=if 0<=i then (if i < n then some i.toNat else none) else if -(n:Int)<=i then some (i+n).toNat else none
def atI {α:Type} (xs:List α) (i:Int):Option α:=(eQ xs.length i).bind fun j=>xs[j]?
theorem zG {n:Nat}{i:Int}{j:Nat} (h:eQ n i=some j):seqIndex? i n=some j/\j < n/\-(n:Int)<=i/\i < n:=by
 unfold eQ at h
 by_cases h0:0<=i
 ·rw [if_pos h0] at h
  by_cases h1:i < n
  ·rw [if_pos h1] at h
   have e:i.toNat=j:=bc1 h
   exact⟨by rw [seqIndex_of h0 h1,e],by omega,by omega,h1⟩
  ·rw [if_neg h1] at h; cases h
 ·rw [if_neg h0] at h
  by_cases h1 : -(n:Int)<=i
  ·rw [if_pos h1] at h
   have e:(i+n).toNat=j:=bc1 h
   exact⟨by rw [seqIndex_neg (by omega) h1,e],by omega,h1,by omega⟩
  ·rw [if_neg h1] at h; cases h
theorem tJ {α:Type}{xs:List α}{i:Int}{v:α} (h:atI xs i=some v):∃ j,seqIndex? i xs.length=some j/\xs[j]? = some v/\j < xs.length/\-(xs.length:Int)<=i/\i < xs.length:=by
 unfold atI at h
 cases e:eQ xs.length i with
 | none=>rw [e] at h; cases h
 | some j=>
  rw [e] at h
  obtain ⟨h1,h2,h3,h4⟩:=zG e
  exact⟨j,h1,h,h2,h3,h4⟩
theorem iZ {α:Type}{xs:List α}{j:Nat}{v:α} (h:xs[j]? = some v):atI xs (j:Int)=some v:=by
 have hj:j < xs.length:=(aZ9.mp h).1
 have e:eQ xs.length (j:Int)=some j:=by
  unfold eQ
  rw [if_pos (by omega),if_pos (by omega)]; simp
 unfold atI; rw [e]; exact h
def zH (b:Expr):Prop:=∀ o i,subscripted b false o i=operate [o,i] (getItem o i)
def i6 (X:Cx) (r:R2):Prop:=
 ∀ (value slice:Expr) (pins:List (Addr × Obj)) (s:Shared) (σ:St) (H:Hp) (x y:V) (v u:Value) (Q:VK),a6 X pins σ H s->aO x v->aO y u->r x y H Q->
  subscripted slice false v u=operate [v,u] (getItem v u)->wpAny (model X.prog X.w) X.A (subscriptTail value slice v u) (EP X pins σ Q) X.xe s
def MtR (X:Cx) (id:String) (r:V->List V->Hp->VK->Prop):Prop:=
 ∀ (pins:List (Addr × Obj)) (s:Shared) (σ:St) (H:Hp) (x:V) (xs:List V) (v:Value) (us:List Value) (Q:VK),a6 X pins σ H s->aO x v->aH xs us->r x xs H Q->
  wpAny (model X.prog X.w) X.A (call (.builtin id) (v :: us)) (EP X pins σ Q) X.xe s
section
variable {X : Cx} {a b : Expr} {ta tb : TE} {pos : Pos}
theorem i6.or {r r':R2} (h:i6 X r) (h':i6 X r'):i6 X (fun x y H Q=>r x y H Q ∨ r' x y H Q):=by
 intro value slice pins s σ H x y v u Q I rx ry q hs
 rcases q with q | q
 ·exact h value slice pins s σ H x y v u Q I rx ry q hs
 ·exact h' value slice pins s σ H x y v u Q I rx ry q hs
theorem i7 {r:R2} (hr:i6 X r) (ha:PE X a ta) (hb:PE X b tb) (hs:zH b):PE X (.Subscript a b pos) (mP r ta tb):=by
 intro pins s σ H Q I h
 exact Subscript_ (sY ha hb I h fun v u s2 x y H2 I2 rx ry q=>hr a b pins s2 σ H2 x y v u Q I2 rx ry q (hs _ _))
def zI (K:PySem.W.Frag):R2:=fun x y H Q=>∃ p xs i v,x = .ref p/\y = .int i/\aG K H p xs/\atI xs i=some v/\Q v H
def zJ (K:PySem.W.Frag):R2:=fun x y H Q=>∃ p xs i v,x = .ref p/\y = .int i/\aD K H p xs/\atI xs i=some v/\Q v H
def zK:R2:=fun x y H Q=>∃ z i c,x = .str z/\y = .int i/\z.length<=sizeLine/\atI z.cps.toList i=some c/\Q (.str ⟨#[c]⟩) H
theorem mV:i6 X (zI X.K):=by
 intro value slice pins s σ H x y v u Q I rx ry h hs
 obtain ⟨p,xs,i,z,rfl,rfl,hq,he,q⟩:=h
 cases rx
 obtain ⟨t,rfl⟩:=ry
 obtain ⟨its,r,pl,hz⟩:=I.list hq
 obtain ⟨j,h1,h2,h3,h4,h5⟩:=tJ he
 obtain ⟨w,ew,rw'⟩:=r.get h2
 have hl:=r.length
 have hn:=kW
 have fin:EP X pins σ Q w s:=⟨z,H,I,rw',q⟩
 by_cases h0:0<=i
 ·have hj:i.toNat=j:=by
   rw [seqIndex_of h0 h5] at h1
   exact bc1 h1
  exact item_listR pl.isList h0 (by omega) (by rw [hj]; simpa using ew) fin hs
 ·have hj:(i+(its.toArray.size:Int)).toNat=j:=by
   rw [seqIndex_neg (by omega) h4] at h1
   rw [aZ2,<- hl]
   exact bc1 h1
  exact subscriptTail_builtinR (x:=w) pl.isList.typeIs slot_list_getitem.lookup
   (wpAny_getItem_list_neg (Q:=fun r s'=>r=w/\EP X pins σ Q r s') pl.isList (by omega) (by rw [aZ2] <;> omega) (by omega) (by rw [hj]; simpa using ew) ⟨rfl,fin⟩) hs
theorem mW:i6 X (zJ X.K):=by
 intro value slice pins s σ H x y v u Q I rx ry h hs
 obtain ⟨p,xs,i,z,rfl,rfl,hq,he,q⟩:=h
 cases rx
 obtain ⟨t,rfl⟩:=ry
 obtain ⟨its,r,pl,hz⟩:=I.tuple hq
 obtain ⟨j,h1,h2,h3,h4,h5⟩:=tJ he
 obtain ⟨w,ew,rw'⟩:=r.get h2
 have hl:=r.length
 have hn:=kW
 have fin:EP X pins σ Q w s:=⟨z,H,I,rw',q⟩
 exact subscriptTail_builtinR (x:=w) pl.typeIs slot_tuple_getitem.lookup
  (getItem_tuple (j:=j) (Q:=fun r s'=>r=w/\EP X pins σ Q r s') pl (by omega) (by omega) (by rw [aZ2,<- hl]; exact h1) (by simpa using ew) ⟨rfl,fin⟩) hs
theorem al1:i6 X zK:=by
 intro value slice pins s σ H x y v u Q I rx ry h hs
 obtain ⟨z,i,c,rfl,rfl,hz,he,q⟩:=h
 obtain ⟨t,rfl⟩:=rx
 obtain ⟨t',rfl⟩:=ry
 obtain ⟨j,h1,h2,h3,h4,h5⟩:=tJ he
 have hl:z.cps.toList.length=z.length:=by simp [Str.length]
 rw [hl] at h1 h4 h5
 have hn:=kW
 exact tail_any (typeIs_str s z t) slot_str_getitem.lookup (getItem_str (c:=c) (by
  have e1:decide (i < -(2 ^ 63:Int))=false:=aZ8 (by omega)
  have e2:decide (i >= 2 ^ 63)=false:=aZ8 (by omega)
  rw [e1,e2,Bool.or_false]) (by rw [h1]; simpa using h2) ⟨.str ⟨#[c]⟩,H,I.tok _,⟨_,rfl⟩,q⟩) hs
def zL (K:PySem.W.Frag):R2:=fun x y H Q=>zI K x y H Q ∨ zJ K x y H Q ∨ zK x y H Q
theorem al2:i6 X (zL X.K):=mV.or (mW.or al1)
theorem al3 (its:List Value) (n j:Nat) (u:Value):Obj.mapSeq (·.setIfInBounds j u) { cls:=.type "list",data:=.seq its.toArray n }={ cls:=.type "list",data:=.seq (its.set j u).toArray n }:=by
 simp [Obj.mapSeq]
theorem a6.lst {pins:List (Addr × Obj)}{σ:St}{H:Hp}{s:Shared}{p:Addr}{xs:List V} (I:a6 X pins σ H s) (h:H p=some (.lst xs)) :
  ∃ (its:List Value) (n:Nat),aH xs its/\s.heap.get? p=some { cls:=.type "list",data:=.seq its.toArray n }/\xs.length<=sizeLine:=by
 obtain ⟨z,its,n,r,e⟩:=I.hok p _ h
 exact⟨its,n,r,e,z⟩
theorem a6.lstUpd {pins:List (Addr × Obj)}{σ:St}{H:Hp}{s:Shared}{p:Addr}{xs ys:List V}{its its':List Value}{n n':Nat}{f:Obj->Obj} (I:a6 X pins σ H s) (h:H p=some (.lst xs))
  (ho:s.heap.get? p=some { cls:=.type "list",data:=.seq its.toArray n }) (hf:f { cls:=.type "list",data:=.seq its.toArray n }={ cls:=.type "list",data:=.seq its'.toArray n' }) (r:aH ys its') (hz:ys.length<=sizeLine) (t:Nat) :
  a6 X pins σ (upd H p (.lst ys)) { s with heap:=s.heap.update p f,toks:=t }:=by
 have e:(s.heap.update p f).get? p=some { cls:=.type "list",data:=.seq its'.toArray n' }:=by
  rw [bn7 f ho (by rw [hf] <;> rfl),hf]
 refine I.write (x:=p) (e:=p) (by rw [h]; trivial) (.inl rfl) (fun b u hb q=>(bl0 _ _ (Ne.symm hb)).trans q) ⟨_,e⟩ ?_
 exact⟨hz,its',n',r,e⟩
def tK:V->V->V->Hp->(Hp->Prop)->Prop:=fun o i v H Q=>∃ p xs k j,o = .ref p/\i = .int k/\H p=some (.lst xs)/\eQ xs.length k=some j/\Q (upd H p (.lst (xs.set j v)))
theorem al4:xW X tK:=by
 intro pins s σ H o i v ov iv u Q I ro ri rv h
 obtain ⟨p,xs,k,j,rfl,rfl,hp,hj,q⟩:=h
 cases ro
 obtain ⟨t,rfl⟩:=ri
 obtain ⟨its,n,r,ho,hz⟩:=I.lst hp
 obtain ⟨h1,h2,h3,h4⟩:=zG hj
 have hl:=r.length
 have hn:=kW
 have I':a6 X pins σ (upd H p (.lst (xs.set j v))) { s with heap:=s.heap.update p (Obj.mapSeq (·.setIfInBounds j u)) }:=
  I.lstUpd hp ho (al3 its n j u) (r.set rv j) (by rw [bd8]; exact hz) s.toks
 by_cases h0:0<=k
 ·have hk:k.toNat=j:=by
   rw [seqIndex_of h0 h4] at h1
   exact bc1 h1
  exact PySem.W.ki_setAt ho h0 (by omega) (by rw [aZ2,<- hl]; exact h4) (by rw [hk]; exact⟨_,I',q⟩)
 ·have hk:(k+(its.toArray.size:Int)).toNat=j:=by
   rw [seqIndex_neg (by omega) h3] at h1
   rw [aZ2,<- hl]
   exact bc1 h1
  exact PySem.W.ki_setBack ho (by omega) (by rw [aZ2,<- hl]; exact h3) (by omega) (by rw [hk]; exact⟨_,I',q⟩)
theorem al5 (lo hi:Option Int) (n:Nat):(sliceBounds lo hi none n).1=((HT.aR n 0 lo:Nat):Int)/\(sliceBounds lo hi none n).2.1=((HT.aR n n hi:Nat):Int)/\(sliceBounds lo hi none n).2.2=1:=by
 refine⟨?_,?_,rfl⟩
 ·cases lo with
  | none=>simp [sliceBounds,HT.aR]
  | some i=>
   simp only [sliceBounds,HT.aR,Option.getD_none,show (1:Int) > 0 by decide,if_true]
   by_cases h:i < 0
   ·simp only [h,if_true] <;> omega
   ·simp only [h,bi7] <;> omega
 ·cases hi with
  | none=>simp [sliceBounds,HT.aR]
  | some i=>
   simp only [sliceBounds,HT.aR,Option.getD_none,show (1:Int) > 0 by decide,if_true]
   by_cases h:i < 0
   ·simp only [h,if_true] <;> omega
   ·simp only [h,bi7] <;> omega
theorem al6 (its:List Value) (lo hi:Option Int):slicePick its.toArray lo hi none=((its.drop (HT.aR its.length 0 lo)).take (HT.aR its.length its.length hi - HT.aR its.length 0 lo)).toArray:=by
 obtain ⟨h1,h2,h3⟩:=al5 lo hi its.toArray.size
 unfold slicePick
 rw [h1,h2,h3]
 simp only [sliceRange_one,pick_run,aZ2] <;> rfl
def al7 (K:PySem.W.Frag):V->Option Int->Option Int->Hp->VK->Prop:=fun x lo hi H Q=>∃ a xs,x = .ref a/\aG K H a xs/\∀ p,H p=none->Q (.ref p) (upd H p (.lst (dE xs lo hi)))
theorem zM:iY X (al7 X.K):=by
 intro pins s σ H x v vl vu lo hi sl Q I rx hs pl pu h
 obtain ⟨a,xs,rfl,hx,q⟩:=h
 cases rx
 obtain ⟨its,r,ht,hz⟩:=I.list hx
 have hlen:=r.length
 refine⟨"list",_,slot_list_getitem.lookup,ht.isList.typeIs,?_⟩
 refine wpAny_getItem_list_slice ht.isList hs pl pu .none (by simp) ?_ (by rw [aZ2] <;> omega)
 rw [al6,<- hlen]
 refine⟨.ref s.heap.objs.size,_,I.laid (t':=s.toks) (o:=.lst (dE xs lo hi)) (fun b ob q=>aZ1 _ q) (aZ3 _) ?_,rfl,q _ (I.hok.fresh (aZ3 _))⟩
 exact⟨bd4 (zF xs lo hi) hz,_,0,(r.drop (HT.aR xs.length 0 lo)).take (HT.aR xs.length xs.length hi - HT.aR xs.length 0 lo),bb2 _ rfl⟩
def i8:V->Bool
 | .non=>true
 | .bl _=>true
 | .int _=>true
 | .str _=>true
 | _=>false
def gA:V->V->Bool
 | .non,.non=>true
 | .bl a,.bl b=>a == b
 | .bl a,.int b=>(if a then 1 else 0) == b
 | .int a,.bl b=>a == (if b then 1 else 0)
 | .int a,.int b=>a == b
 | .str a,.str b=>a == b
 | _,_=>false
theorem al8 {A:Around}{s:Shared}{y x:V}{u v:Value} (ry:aO y u) (rx:aO x v) (fy:i8 y=true) (fx:i8 x=true):SeqAt.EqAt A s u v (gA y x):=by
 cases y with
 | non=>
  cases ry
  cases x with
  | non=>cases rx; exact SeqAt.EqAt.same _
  | bl b=>cases rx; exact SeqAt.EqAt.none_bool b
  | int b=>obtain ⟨t,rfl⟩:=rx; exact SeqAt.EqAt.none_int b t
  | str b=>obtain ⟨t,rfl⟩:=rx; exact SeqAt.EqAt.none_str b t
  | _=>exact absurd (show false=true from fx) ba7
 | bl a=>
  cases ry
  cases x with
  | non=>cases rx; exact SeqAt.EqAt.bool_none a
  | bl b=>cases rx; exact SeqAt.EqAt.bool_bool a b
  | int b=>obtain ⟨t,rfl⟩:=rx; exact SeqAt.EqAt.bool_int a b t
  | str b=>obtain ⟨t,rfl⟩:=rx; exact SeqAt.EqAt.bool_str a b t
  | _=>exact absurd (show false=true from fx) ba7
 | int a=>
  obtain ⟨t',rfl⟩:=ry
  cases x with
  | non=>cases rx; exact SeqAt.EqAt.int_none a t'
  | bl b=>cases rx; exact SeqAt.EqAt.int_bool a t' b
  | int b=>obtain ⟨t,rfl⟩:=rx; exact SeqAt.EqAt.int_int a t' b t
  | str b=>obtain ⟨t,rfl⟩:=rx; exact SeqAt.EqAt.int_str a t' b t
  | _=>exact absurd (show false=true from fx) ba7
 | str a=>
  obtain ⟨t',rfl⟩:=ry
  cases x with
  | non=>cases rx; exact SeqAt.EqAt.str_none a t'
  | bl b=>cases rx; exact SeqAt.EqAt.str_bool a t' b
  | int b=>obtain ⟨t,rfl⟩:=rx; exact SeqAt.EqAt.str_int a t' b t
  | str b=>obtain ⟨t,rfl⟩:=rx; exact SeqAt.EqAt.str_str a t' b t
  | _=>exact absurd (show false=true from fx) ba7
 | _=>exact absurd (show false=true from fy) ba7
def i9 (x:V) (u:Value):Bool:=match u with
 | .none=>gA .non x
 | .bool b=>gA (.bl b) x
 | .int i _=>gA (.int i) x
 | .str z _=>gA (.str z) x
 | _=>false
theorem zN {x y:V}{u:Value} (r:aO y u) (f:i8 y=true):i9 x u=gA y x:=by
 cases y with
 | non=>cases r; rfl
 | bl b=>cases r; rfl
 | int i=>obtain ⟨t,rfl⟩:=r; rfl
 | str z=>obtain ⟨t,rfl⟩:=r; rfl
 | _=>exact absurd (show false=true from f) ba7
theorem tL {x:V}:∀ {xs:List V}{us:List Value},aH xs us->xs.all i8=true->us.any (i9 x)=xs.any fun y=>gA y x
 | _,_,.nil,_=>rfl
 | y :: xs,u :: us,.cons r t,f=>by
  rw [bm9,bf3] at f
  rw [bn0,bn0,zN r f.1,tL t f.2]
theorem tM {A:Around}{s:Shared}{x:V}{v:Value} (rx:aO x v) (fx:i8 x=true):∀ {xs:List V}{us:List Value},aH xs us->xs.all i8=true->∀ u ∈ us,SeqAt.EqAt A s u v (i9 x u)
 | _,_,.nil,_=>fun u hu=>by cases hu
 | y :: xs,u :: us,.cons r t,f=>fun u' hu=>by
  rw [bm9,bf3] at f
  rcases aZ6.mp hu with rfl | hu
  ·rw [zN r f.1]; exact al8 r rx f.1 fx
  ·exact tM rx fx t f.2 u' hu
def mX (x:V) (xs:List V):Bool:=xs.any fun y=>gA y x
def zO (K:PySem.W.Frag) (neg:Bool):R2:=fun x y H Q=>∃ p xs,y = .ref p/\(aG K H p xs ∨ aD K H p xs)/\i8 x=true/\xs.all i8=true/\Q (.bl (if neg then !mX x xs else mX x xs)) H
theorem al9:bP X (compareOp .In) (zO X.K false):=by
 intro pins s σ H x y v u Q I rx ry h
 obtain ⟨p,xs,rfl,hq,fx,fs,q⟩:=h
 cases ry
 rcases hq with hq | hq
 ·obtain ⟨its,r,pl,hz⟩:=I.list hq
  refine SeqAt.in_listAt (i9 x) pl.isList (fun w hw=>tM rx fx r fs w (by simpa using hw)) ⟨.bl _,H,I,rfl,?_⟩
  rw [show its.toArray.any (i9 x)=its.any (i9 x) by simp,tL r fs]
  exact q
 ·obtain ⟨its,r,pl,hz⟩:=I.tuple hq
  refine SeqAt.in_tupleAt (i9 x) pl (fun w hw=>tM rx fx r fs w (by simpa using hw)) ⟨.bl _,H,I,rfl,?_⟩
  rw [show its.toArray.any (i9 x)=its.any (i9 x) by simp,tL r fs]
  exact q
theorem am0:cK X (.builtin "len") (fun xs H Q=>∃ p ys,xs = [.ref p]/\(aG X.K H p ys ∨ aD X.K H p ys)/\Q (.int ys.length) H):=by
 intro pins s σ H xs us Q I r h
 obtain ⟨p,ys,rfl,hq,q⟩:=h
 obtain ⟨u,rfl,rx⟩:=fY r
 cases rx
 have hn:=kW
 rcases hq with hq | hq
 ·obtain ⟨its,r',pl,hz⟩:=I.list hq
  have hlen:=r'.length
  exact Calls.call_len_list pl.isList (by simp only [aZ2] <;> omega) ⟨.int ys.length,H,I.tok _,⟨s.toks+1,by rw [aZ2,hlen]⟩,q⟩
 ·obtain ⟨its,r',pl,hz⟩:=I.tuple hq
  have hlen:=r'.length
  exact len_tuple pl (by simp only [aZ2] <;> omega) ⟨.int ys.length,H,I.tok _,⟨s.toks+1,by rw [aZ2,hlen]⟩,q⟩
theorem cK.or {f:Value}{r r':List V->Hp->VK->Prop} (h:cK X f r) (h':cK X f r'):cK X f (fun xs H Q=>r xs H Q ∨ r' xs H Q):=by
 intro pins s σ H xs us Q I rs q
 rcases q with q | q
 ·exact h pins s σ H xs us Q I rs q
 ·exact h' pins s σ H xs us Q I rs q
theorem am1:cK X (.type "list") (fun xs H Q=>∃ p ys,xs = [.ref p]/\(aG X.K H p ys ∨ aD X.K H p ys)/\∀ l,H l=none->Q (.ref l) (upd H l (.lst ys))):=by
 intro pins s σ H xs us Q I r h
 obtain ⟨p,ys,rfl,hq,q⟩:=h
 obtain ⟨u,rfl,rx⟩:=fY r
 cases rx
 have fin:∀ (its:List Value),aH ys its->ys.length<=sizeLine->∀ (h':Heap) (c':Nat),(∀ b o',s.heap.get? b=some o'->h'.get? b=some o')->
   h'.get? s.heap.objs.size=some { cls:=.type "list",dict:=none,data:=.seq its.toArray c',slots:=#[] }->EP X pins σ Q (.ref s.heap.objs.size) { s with heap:=h' }:=fun its r' hz h' c' kp e=>
  ⟨.ref s.heap.objs.size,_,I.laid (t':=s.toks) kp (aZ3 _) (show bV X.prog X.w _ h' _ (.lst ys) from ⟨hz,its,c',r',e⟩),rfl,q _ (I.hok.fresh (aZ3 _))⟩
 rcases hq with hq | hq
 ·obtain ⟨its,r',pl,hz⟩:=I.list hq
  have hlen:=r'.length
  obtain ⟨o,ho,hc,n,hd⟩:=pl.isList
  exact call_list_seq p (.inl rfl) ho hc hd (fun h' c' kp e=>fin its r' hz h' c' kp e) (by simp only [aZ2] <;> omega)
 ·obtain ⟨its,r',pl,hz⟩:=I.tuple hq
  have hlen:=r'.length
  obtain ⟨o,ho,hc,n,hd⟩:=pl
  exact call_list_seq p (.inr rfl) ho hc hd (fun h' c' kp e=>fin its r' hz h' c' kp e) (by simp only [aZ2] <;> omega)
theorem am2:cK X (.type "tuple") (fun xs H Q=>∃ p ys,xs = [.ref p]/\((aG X.K H p ys/\∀ l,H l=none->Q (.ref l) (upd H l (.tup ys))) ∨ (aD X.K H p ys/\Q (.ref p) H))):=by
 intro pins s σ H xs us Q I r h
 obtain ⟨p,ys,rfl,h⟩:=h
 obtain ⟨u,rfl,rx⟩:=fY r
 cases rx
 rcases h with ⟨hq,q⟩ | ⟨hq,q⟩
 ·obtain ⟨its,r',pl,hz⟩:=I.list hq
  have hlen:=r'.length
  refine call_tuple_list pl.isList (fun h' kp=>?_) (by simp only [aZ2] <;> omega)
  have I1:a6 X pins σ H { s with heap:=h' }:=I.kept (t':=s.toks) kp
  have I2:a6 X pins σ (upd H h'.objs.size (.tup ys)) { s with heap:=h'.push { cls:=.type "tuple",data:=.seq its.toArray } }:=
   I1.laid (t':=s.toks) (fun b o e=>aZ1 _ e) (aZ3 _) (show bV X.prog X.w _ _ _ (.tup ys) from ⟨hz,its,r',IsTup.new _ _⟩)
  exact⟨.ref h'.objs.size,_,I2,rfl,q _ (I1.hok.fresh (aZ3 _))⟩
 ·obtain ⟨its,r',pl,hz⟩:=I.tuple hq
  exact call_tuple_same pl ⟨.ref p,H,I,rfl,q⟩
def gB (K:PySem.W.Frag) (T:String) (x:V) (H:Hp):Prop:=match x with
 | .str _=>T="str"
 | .int _=>T="int"
 | .ref p=>(T="list"/\∃ xs,aG K H p xs) ∨ (T="tuple"/\∃ o,K.lookup p=some o/\o.cls = .type "tuple"/\o.dict=none) ∨
   (T="dict"/\((∃ kvs,H p=some (.dK kvs)) ∨ ∃ kvs,H p=some (.dT kvs))) ∨ (T="set"/\∃ S n,H p=some (.set S n))
 | _=>False
theorem am3 {pins:List (Addr × Obj)}{σ:St}{H:Hp}{s:Shared}{T:String}{x:V}{v:Value} (I:a6 X pins σ H s) (r:aO x v) (ty:gB X.K T x H) :
  s.TypeIs v T/\∀ a,v = .ref a->∃ ob,s.heap.get? a=some ob/\ob.dict=none:=by
 cases x with
 | str z=>
  obtain ⟨t,rfl⟩:=r
  cases (show T="str" from ty)
  exact⟨typeIs_str s z t,fun _ e=>nomatch e⟩
 | int i=>
  obtain ⟨t,rfl⟩:=r
  cases (show T="int" from ty)
  exact⟨typeIs_int s i t,fun _ e=>nomatch e⟩
 | ref p=>
  cases r
  rcases ty with ⟨rfl,xs,hq⟩ | ⟨rfl,o,hk,hc,hd⟩ | ⟨rfl,hk⟩ | ⟨rfl,S,n,hk⟩
  ·obtain ⟨its,_,pl,_⟩:=I.list hq
   refine⟨pl.isList.typeIs,fun a e=>?_⟩
   cases e
   obtain ⟨o,n,e,c,hd,_⟩:=pl
   exact⟨o,e,hd⟩
  ·refine⟨⟨o,I.kIn p o hk,hc⟩,fun a e=>?_⟩
   cases e
   exact⟨o,I.kIn _ o hk,hd⟩
  ·have z:∃ o,s.heap.get? p=some o/\o.ExactDict:=by
    rcases hk with ⟨kvs,hk⟩ | ⟨kvs,hk⟩
    ·obtain ⟨_,_,_,_,o,_,_,e,ex,_⟩:=I.hok p _ hk
     exact⟨o,e,ex⟩
    ·obtain ⟨_,_,_,_,o,_,_,e,ex,_⟩:=I.hok p _ hk
     exact⟨o,e,ex⟩
   obtain ⟨o,e,ex⟩:=z
   refine⟨⟨o,e,ex.1⟩,fun a e2=>?_⟩
   cases e2
   exact⟨o,e,ex.2.1⟩
  ·obtain ⟨o,_,_,_,e,ex,_⟩:=I.hok p _ hk
   refine⟨⟨o,e,ex.1⟩,fun a e2=>?_⟩
   cases e2
   exact⟨o,e,ex.2.1⟩
 | _=>exact False.elim ty
def zP (K:PySem.W.Frag) (T:String) (r:V->List V->Hp->VK->Prop) (to:TE) (t:TA):TE:=fun σ H Q=>to σ H fun x H1=>gB K T x H1/\t σ H1 fun xs H2=>r x xs H2 Q
variable {o e : Expr} {es : List Expr} {to : TE} {t : TA} {name : Str} {apos cpos : Pos} {T id : String} {r : V → List V → Hp → VK → Prop}
theorem mY (pa:PlainAttrs T) (slot:Slot T name id) (hty:typeOf (.builtin id)=pure (.type "method_descriptor")) (hm:MtR X id r) (ho:PE X o to) (ha:PA X (e :: es) t)
  (hbase:attributeBase o name X.env (eval o X.env)=eval o X.env:=by rfl)
  (hfew:((backTo cpos (starEach (e :: es) X.env)).all (fun x=>!x.1) && (backToKw cpos (keywordEach [] X.env)).all (fun x=>x.1.isSome)
   && decide ((e :: es).length+([]:List Keyword).length+(if ([]:List Keyword).isEmpty then 0 else 1) < 30))=true:=by rfl)
  (hline:(apos.endLine == cpos.line)=true:=by rfl) (hs:starEach (e :: es) X.env=(false,eval e X.env) :: starEach es X.env:=by rfl) (hplain:(backTo cpos (starEach es X.env)).any (·.1)=false:=by rfl) :
  PE X (.Call (.Attribute o name apos) (e :: es) [] cpos) (zP X.K T r to t):=by
 intro pins s σ H Q I h
 refine wpAny_Call_method_late hbase hfew hline rfl (aJ (ho pins s σ H _ I h) fun v s1 ⟨x,H1,I1,r1,ty,q1⟩=>?_)
 obtain ⟨h1,h2⟩:=am3 I1 r1 ty
 refine⟨T,id,pa,slot,hty,h1,h2,?_⟩
 have hA:=ha cpos pins s1 σ H1 _ I1 q1
 rw [hs] at hA ⊢
 refine Calls.callWith_builtin (by show (false || (backTo cpos (starEach es X.env)).any (·.1))=false; rw [hplain] <;> rfl) (Calls.evalArgs_plain ?_)
 exact aJ hA fun us s2 ⟨vs,H2,I2,r2,q2⟩=>hm pins s2 σ H2 x vs v us Q I2 r1 r2 q2
end
def zQ (X:Cx) (id:String) (r:V->List V->Hp->VK->Prop):Prop:=
 ∀ (pins:List (Addr × Obj)) (s:Shared) (σ:St) (H:Hp) (x:V) (xs:List V) (v:Value) (us:List Value) (Q:VK),a6 X pins σ H s->aO x v->aH xs us->r x xs H Q->
  wpAny (model X.prog X.w) X.A (call (.builtin id) (v :: us)) (EP X pins σ Q) X.xe s
theorem aH.one {x:V}{us:List Value} (h:aH [x] us):∃ u,us = [u]/\aO x u:=by
 cases h with
 | cons r t=>
  cases t
  exact⟨_,rfl,r⟩
theorem aH.two {x y:V}{us:List Value} (h:aH [x,y] us):∃ u v,us = [u,v]/\aO x u/\aO y v:=by
 cases h with
 | cons r t=>
  cases t with
  | cons q t=>
   cases t
   exact⟨_,_,rfl,r,q⟩
theorem aH.eraseIdx:∀ {xs:List V}{us:List Value} (i:Nat),aH xs us->aH (xs.eraseIdx i) (us.eraseIdx i)
 | _,_,_,.nil=>.nil
 | _,_,0,.cons _ t=>t
 | _,_,i+1,.cons r t=>.cons r (aH.eraseIdx i t)
theorem aH.rep {xs:List V}{us:List Value} (h:aH xs us):∀ k:Nat,aH (List.replicate k xs).flatten (List.replicate k us).flatten
 | 0=>.nil
 | k+1=>by
  rw [bi3,bi3,bm3,bm3]
  exact aH.append h (aH.rep h k)
theorem zR (its:List Value):∀ (k:Nat) (acc:List Value),
  List.foldl (fun x1 x2=>x1 ++ x2) acc.toArray (List.replicate k its.toArray)=(acc ++ (List.replicate k its).flatten).toArray
 | 0,acc=>by simp
 | k+1,acc=>by
  have e:acc.toArray ++ its.toArray=(acc ++ its).toArray:=by simp
  have e2:(acc ++ its) ++ (List.replicate k its).flatten=acc ++ (List.replicate (k+1) its).flatten:=by
   rw [bi3,bm3,bb9]
  rw [<- e2,<- zR its k (acc ++ its),<- e,bi3,List.foldl_cons]
section
variable {X : Cx} {pins : List (Addr × Obj)} {σ : St} {H : Hp} {s : Shared} {l b : Addr} {xs ys zs : List V}
theorem a6.lset {its its':List Value}{n:Nat}{f:Array Value->Array Value}{t':Nat} (I:a6 X pins σ H s) (hH:H l=some (.lst xs))
  (e:s.heap.get? l=some { cls:=.type "list",data:=.seq its.toArray n }) (hf:f its.toArray=its'.toArray) (hv:aH ys its') (hz:ys.length<=sizeLine) :
  a6 X pins σ (upd H l (.lst ys)) { s with heap:=s.heap.update l (Obj.mapSeq f),toks:=t' }:=by
 have q:=PySem.IsL.update e f
 rw [hf] at q
 refine I.write (x:=l) (e:=l) (by rw [hH]; exact trivial) (.inl rfl) (fun b' u hb hu=>(bl0 s.heap (Obj.mapSeq f) (Ne.symm hb)).trans hu) ⟨_,q⟩ ?_
 exact⟨hz,its',_,hv,q⟩
theorem a6.lnew {its:List Value}{t':Nat} (I:a6 X pins σ H s) (hv:aH ys its) (hz:ys.length<=sizeLine) :
  a6 X pins σ (upd H s.heap.objs.size (.lst ys)) { s with heap:=s.heap.push { cls:=.type "list",data:=.seq its.toArray },toks:=t' }:=
 I.laid (fun _ _ q=>aZ1 _ q) (aZ3 _) ⟨hz,its,0,hv,bb2 _ rfl⟩
theorem a6.fresh (I:a6 X pins σ H s):H s.heap.objs.size=none:=I.hok.fresh (aZ3 _)
theorem a6.lstM (I:a6 X pins σ H s) (hH:H l=some (.lst xs)):xs.length<=sizeLine/\∃ (its:List Value) (n:Nat),aH xs its/\xs.length=its.length/\s.heap.get? l=some { cls:=.type "list",data:=.seq its.toArray n }:=by
 obtain ⟨z,its,n,r,e⟩:=I.hok l _ hH
 exact⟨z,its,n,r,r.length,e⟩
theorem zS {n:Nat} (h:n<=sizeLine):Builtin.List.listTooLong n=false:=by
 unfold Builtin.List.listTooLong
 exact aZ8 (by omega)
end
section
variable {X : Cx}
def zT:V->List V->Hp->VK->Prop:=fun x vs H Q=>∃ l xs y,x = .ref l/\vs = [y]/\H l=some (.lst xs)/\xs.length < sizeLine/\Q .non (upd H l (.lst (xs ++ [y])))
theorem kY:zQ X "list.append" zT:=by
 intro pins s σ H x vs v us Q I rx rv h
 obtain ⟨l,xs,y,rfl,rfl,hH,hz,q⟩:=h
 cases rx
 obtain ⟨u,rfl,ru⟩:=rv.one
 obtain ⟨z,its,n,r,hl,e⟩:=I.lstM hH
 refine call_meets F.slot_list_append ⟨_,e,rfl⟩ F.entry_list_append (F.args_list_append_2 _ _) (PySem.list_append l its.toArray n u (by rw [aZ2]; omega)) ⟨e,?_⟩
 refine⟨.non,_,I.lset (its':=its ++ [u]) hH e (by simp) (r.append (.cons ru .nil)) ?_,rfl,q⟩
 rw [ba8,bg6]
 omega
def am4:V->List V->Hp->VK->Prop:=fun x vs H Q=>∃ l b xs zs,x = .ref l/\vs = [.ref b]/\H l=some (.lst xs)/\H b=some (.lst zs)/\xs.length+zs.length<=sizeLine/\Q .non (upd H l (.lst (xs ++ zs)))
theorem aY6:zQ X "list.extend" am4:=by
 intro pins s σ H x vs v us Q I rx rv h
 obtain ⟨l,b,xs,zs,rfl,rfl,hH,hB,hz,q⟩:=h
 cases rx
 obtain ⟨u,rfl,ru⟩:=rv.one
 cases ru
 obtain ⟨z,its,n,r,hl,e⟩:=I.lstM hH
 obtain ⟨z2,its2,n2,r2,hl2,e2⟩:=I.lstM hB
 have hsz:its.toArray.size+its2.toArray.size<=sizeLine:=by rw [aZ2,aZ2]; omega
 have hlong : ¬ (!its.toArray.isEmpty && Builtin.List.listTooLong (its.toArray.size+its2.toArray.size))=true:=by
  rw [zS hsz,Bool.and_false]
  exact ba7
 refine call_meets F.slot_list_extend ⟨_,e,rfl⟩ F.entry_list_extend (F.args_list_extend_2 _ _)
  (AutoSeq1.list_extend_list_list_0 l its.toArray n b its2.toArray n2 hlong (by rw [aZ2]; omega) (by omega)) ⟨e,e2,?_⟩
 refine⟨.non,_,I.lset (its':=its ++ its2) hH e (by simp) (r.append r2) ?_,rfl,q⟩
 rw [ba8]
 omega
def zU:R2:=fun x y H Q=>∃ l b xs zs,x = .ref l/\y = .ref b/\H l=some (.lst xs)/\H b=some (.lst zs)/\xs.length+zs.length<=sizeLine/\∀ p,H p=none->Q (.ref p) (upd H p (.lst (xs ++ zs)))
theorem am5:bP X (binaryOp .Add) zU:=by
 intro pins s σ H x y v u Q I rx ry h
 obtain ⟨l,b,xs,zs,rfl,rfl,hH,hB,hz,q⟩:=h
 cases rx
 cases ry
 obtain ⟨z,its,n,r,hl,e⟩:=I.lstM hH
 obtain ⟨z2,its2,n2,r2,hl2,e2⟩:=I.lstM hB
 refine PySem.P.add_list e e2 ?_ (by rw [aZ2,aZ2]; omega)
 have ea:its.toArray ++ its2.toArray=(its ++ its2).toArray:=by simp
 rw [ea]
 exact⟨.ref _,_,I.lnew (t':=s.toks) (r.append r2) (by rw [ba8]; omega),rfl,q _ I.fresh⟩
def zV:R2:=fun x y H Q=>∃ l k xs,x = .ref l/\y = .int k/\H l=some (.lst xs)/\-(2 ^ 63)<=k/\k < 2 ^ 63/\xs.length * k.toNat<=sizeLine/\
 ∀ p,H p=none->Q (.ref p) (upd H p (.lst (List.replicate k.toNat xs).flatten))
theorem am6 {α:Type} (xs:List α) (k:Nat):(List.replicate k xs).flatten.length=k * xs.length:=by
 induction k with
 | zero=>simp
 | succ k ih=>rw [bi3,bm3,ba8,ih,Nat.succ_mul,Nat.add_comm]
theorem am7:bP X (binaryOp .Mult) zV:=by
 intro pins s σ H x y v u Q I rx ry h
 obtain ⟨l,k,xs,rfl,rfl,hH,h1,h2,hz,q⟩:=h
 cases rx
 obtain ⟨t,rfl⟩:=ry
 obtain ⟨z,its,n,r,hl,e⟩:=I.lstM hH
 have hlen:its.toArray.size * k.toNat<=sizeLine:=by rw [aZ2,<- hl]; exact hz
 have hcap : ¬ its.toArray.size * k.toNat > (2 ^ 63 - 1) / 8:=by
  have:(sizeLine:Nat)<=(2 ^ 63 - 1) / 8:=by decide
  omega
 have hfit : ¬ (!Builtin.List.listFitsIndex k)=true:=by
  rw [fitsIndex_both h1 h2]
  exact ba7
 have hlong : ¬ Builtin.List.listTooLong (its.toArray.size * k.toNat)=true:=by
  rw [zS hlen]
  exact ba7
 have hnew:List.foldl (fun x1 x2=>x1 ++ x2) #[] (List.replicate (if its.toArray.isEmpty=true then 0 else k.toNat) its.toArray)=(List.replicate k.toNat its).flatten.toArray:=by
  have f0:∀ m:Nat,List.foldl (fun x1 x2=>x1 ++ x2) #[] (List.replicate m its.toArray)=(List.replicate m its).flatten.toArray:=fun m=>by
   have:=zR its m []
   rw [List.nil_append] at this
   exact this
  rw [f0]
  cases its with
  | nil=>simp
  | cons a r'=>rw [if_neg (by simp)]
 refine wpAny_binaryOp_repeat_ref (T:="list") (U:="int") (by decide) ⟨_,e,rfl⟩ (fun s'=>typeIs_int s' k t) noFill_list_mul F.fills_int_mul F.slot_int_rmul repeat_list F.slot_int_index.lookup
  (call_meets F.slot_int_rmul (typeIs_int s k t) F.entry_int_rmul (F.args_int_rmul_2 _ _) (int___rmul___int_list k t l its.toArray n)
   ⟨e,rfl,⟨_,e,rfl⟩,call_meets F.slot_list_mul ⟨_,e,rfl⟩ F.entry_list_mul (F.args_list_mul_2 _ _) (AutoListH.list___mul___list_int_3 l its.toArray n k t hfit hcap hlong) ⟨e,?_⟩⟩)
 rw [hnew]
 exact⟨.ref _,_,I.lnew (t':=s.toks) (r.rep k.toNat) (by rw [am6,Nat.mul_comm]; exact hz),rfl,q _ I.fresh⟩
end
section
variable {κ : Type} [DecidableEq κ]
def eB (kvs:List (κ × V)) (k:κ):Option V:=(kvs.find? fun kv=>decide (kv.1=k)).map (·.2)
def eR (kvs:List (κ × V)) (k:κ) (v:V):List (κ × V):=
 if (kvs.any fun kv=>decide (kv.1=k))=true then kvs.map (fun kv=>if kv.1=k then (kv.1,v) else kv) else kvs ++ [(k,v)]
theorem tN {p:κ × V}{r:List (κ × V)}{k:κ} (e:p.1=k):eB (p :: r) k=some p.2:=by simp [eB,bk1,e]
theorem tO {p:κ × V}{r:List (κ × V)}{k:κ} (e : ¬ p.1=k):eB (p :: r) k=eB r k:=by simp [eB,bk1,e]
theorem zW (k:κ):∀ kvs:List (κ × V),(kvs.any fun kv=>decide (kv.1=k))=(eB kvs k).isSome
 | []=>rfl
 | p :: r=>by
  rw [bn0]
  by_cases e:p.1=k
  ·simp only [tN e,ba2 e,Bool.true_or,Option.isSome_some]
  ·rw [tO e,aZ8 e,Bool.false_or]; exact zW k r
theorem zX (kvs:List (κ × V)) (k:κ) (v:V):(eR kvs k v).length<=kvs.length+1:=by
 unfold eR
 split
 ·rw [ba3]; omega
 ·rw [ba8,bd5,List.length_nil]; omega
theorem jM.isSome_eq {o:Option V}{u:Option Value} (r:jM o u):o.isSome=u.isSome:=by
 cases o with
 | none=>cases u with
  | none=>rfl
  | some _=>exact (show False from r).elim
 | some _=>cases u with
  | none=>exact (show False from r).elim
  | some _=>rfl
theorem KV.val {kvs:List (κ × V)}{vs:List (κ × Value)} (r:KV kvs vs) (k:κ):jM (eB kvs k) (valueAt vs k):=by
 unfold KV at r
 induction r with
 | nil=>exact True.intro
 | @cons p q ps qs h t ih=>
  obtain ⟨h1,h2⟩:=h
  by_cases e:p.1=k
  ·have e':q.1=k:=h1.symm.trans e
   have b:valueAt (q :: qs) k=some q.2:=by simp [valueAt,bk1,e']
   rw [tN e,b]; exact h2
  ·have e' : ¬ q.1=k:=fun z=>e (h1.trans z)
   have b:valueAt (q :: qs) k=valueAt qs k:=by simp [valueAt,bk1,e']
   rw [tO e,b]; exact ih
theorem KV.any {kvs:List (κ × V)}{vs:List (κ × Value)} (r:KV kvs vs) (k:κ):(kvs.any fun kv=>decide (kv.1=k))=vs.any fun kv=>decide (kv.1=k):=by
 unfold KV at r
 induction r with
 | nil=>rfl
 | cons h t ih=>rw [bn0,bn0,ih,h.1]
theorem KV.repl {kvs:List (κ × V)}{vs:List (κ × Value)} (r:KV kvs vs) (k:κ) {y:V}{u:Value} (ry:aO y u) :
  KV (kvs.map fun kv=>if kv.1=k then (kv.1,y) else kv) (vs.map fun kv=>if kv.1=k then (kv.1,u) else kv):=by
 unfold KV at r ⊢
 induction r with
 | nil=>exact .nil
 | @cons p q ps qs h t ih=>
  rw [be9,be9]
  refine .cons ?_ ih
  obtain ⟨h1,h2⟩:=h
  by_cases e:p.1=k
  ·rw [if_pos e,if_pos (h1.symm.trans e)]; exact⟨h1,ry⟩
  ·rw [if_neg e,if_neg (fun z=>e (h1.trans z))]; exact⟨h1,h2⟩
theorem KV.put {kvs:List (κ × V)}{vs:List (κ × Value)} (r:KV kvs vs) (k:κ) {y:V}{u:Value} (ry:aO y u):KV (eR kvs k y) (stored vs k u):=by
 unfold eR stored
 rw [r.any k]
 by_cases e:(vs.any fun kv=>decide (kv.1=k))=true
 ·rw [if_pos e,if_pos e]; exact r.repl k ry
 ·rw [if_neg e,if_neg e]; exact Paired.snoc r ⟨rfl,ry⟩
theorem KV.length {kvs:List (κ × V)}{vs:List (κ × Value)} (r:KV kvs vs):kvs.length=vs.length:=Paired.length r
end
theorem tP {P:Program}{w:World}{k:aP}{u:Value} (r:aO (kV k) u):(eM P w).is k u=true:=by
 cases k with
 | inl i=>obtain ⟨t,e⟩:=(show ∃ t,u=Value.int i t from r); subst e; exact ad3 P w i t
 | inr x=>obtain ⟨t,e⟩:=(show ∃ t,u=Value.str x t from r); subst e; exact ad4 P w x t
theorem zY {P:Program}{w:World}:∀ {ks:List aP}{us:List Value},aH (ks.map kV) us->ItemsAre (eM P w) ks us
 | [],_,r=>by rw [List.map_nil] at r; cases r; exact .nil
 | k :: ks,_,r=>by
  rw [be9] at r
  cases r with
  | cons h t=>exact .cons (tP h) (zY t)
abbrev KT (H:Hp):List (List aP × V)->List (List aP × Addr × Value)->Prop:=Paired fun p q=>p.1=q.1/\H q.2.1=some (.tup (p.1.map kV))/\aO p.2 q.2.2
theorem KT.val {H:Hp}{kvs:List (List aP × V)}{xs:List (List aP × Addr × Value)} (r:KT H kvs xs) (k:List aP):jM (eB kvs k) ((atKey xs k).map (·.2)):=by
 induction r with
 | nil=>exact True.intro
 | @cons p q ps qs h t ih=>
  obtain ⟨h1,_,h2⟩:=h
  by_cases e:p.1=k
  ·have e':q.1=k:=h1.symm.trans e
   have b:atKey (q :: qs) k=some q.2:=by simp [atKey,bk1,e']
   rw [tN e,b]; exact h2
  ·have e' : ¬ q.1=k:=fun z=>e (h1.trans z)
   have b:atKey (q :: qs) k=atKey qs k:=by simp [atKey,bk1,e']
   rw [tO e,b]; exact ih
theorem KT.repl {H:Hp}{kvs:List (List aP × V)}{xs:List (List aP × Addr × Value)} (r:KT H kvs xs) (k:List aP) {y:V}{u:Value} (ry:aO y u) :
  KT H (kvs.map fun kv=>if kv.1=k then (kv.1,y) else kv) (xs.map (putAt k u)):=by
 induction r with
 | nil=>exact .nil
 | @cons p q ps qs h t ih=>
  rw [be9,be9]
  refine .cons ?_ ih
  obtain ⟨h1,h2,h3⟩:=h
  unfold putAt
  by_cases e:p.1=k
  ·rw [if_pos e,if_pos (h1.symm.trans e)]; exact⟨h1,h2,ry⟩
  ·rw [if_neg e,if_neg (fun z=>e (h1.trans z))]; exact⟨h1,h2,h3⟩
theorem KT.put {H:Hp}{kvs:List (List aP × V)}{xs:List (List aP × Addr × Value)} (r:KT H kvs xs) (k:List aP) {b:Addr}{y:V}{u:Value} (hb:H b=some (.tup (k.map kV))) (ry:aO y u) :
  KT H (eR kvs k y) (storedH xs k b u):=by
 have e:(kvs.any fun kv=>decide (kv.1=k))=(atKey xs k).isSome:=by
  rw [zW,(r.val k).isSome_eq,Option.isSome_map]
 unfold eR storedH
 rw [e]
 by_cases q:(atKey xs k).isSome=true
 ·rw [if_pos q,if_pos q]; exact r.repl k ry
 ·rw [if_neg q,if_neg q]; exact Paired.snoc r ⟨rfl,hb,ry⟩
theorem KT.keeps {H H':Hp}{kvs:List (List aP × V)}{xs:List (List aP × Addr × Value)} (r:KT H kvs xs) (ht:∀ b ys,H b=some (.tup ys)->H' b=some (.tup ys)):KT H' kvs xs:=
 Paired.mapP r fun _ _ z=>⟨z.1,ht _ _ z.2.1,z.2.2⟩
section
variable {P : Program} {w : World} {H : Hp} {h : Heap} {a : Addr}
theorem zZ {u:HO} (ok:bL P w H h) (e:Rd H a u):bV P w H h a u:=e.ok ok
theorem tQ {kvs:List (aP × V)} (ok:bL P w H h) (e:Rd H a (.dK kvs)):kvs.length<=sizeLine/\(a == sysModules)=false/\∃ vs,KV kvs vs/\h.DictOf (eM P w) a vs:=
 show bV P w H h a (.dK kvs) from zZ ok e
theorem am8 {kvs:List (aP × V)} (ok:bL P w H h) (e:H a=some (.dK kvs)):kvs.length<=sizeLine/\(a == sysModules)=false/\∃ vs,KV kvs vs/\h.DictOf (eM P w) a vs:=tQ ok (.inl e)
theorem tR {ks:List aP} (ok:bL P w H h) (e:H a=some (.tup (ks.map kV))):(tupleKind (eM P w)).is h ks a:=by
 obtain ⟨_,its,r,o,h1,h2,n,h3⟩:=(show bV P w H h a (.tup (ks.map kV)) from ok a _ e)
 exact⟨o,its.toArray,n,h1,h2,h3,by simpa using zY r⟩
theorem A0 {kvs:List (List aP × V)} (ok:bL P w H h) (e:Rd H a (.dT kvs)):kvs.length<=sizeLine/\(a == sysModules)=false/\
  ∃ xs,KT H kvs xs/\h.DictOfH (tupleKind (eM P w)) a xs:=by
 obtain ⟨z,y,xs,r,o,es,ep,h1,h2,h3,h4,h5⟩:=(show bV P w H h a (.dT kvs) from zZ ok e)
 refine⟨z,y,xs,r,o,es,ep,h1,h2,h3,h4,fun x hx=>?_,h5⟩
 have all:∀ {l:List (List aP × V)}{m:List (List aP × Addr × Value)},KT H l m->∀ x ∈ m,(tupleKind (eM P w)).is h x.1 x.2.1:=by
  intro l m q
  induction q with
  | nil=>intro x hx; exact nomatch hx
  | @cons p q ps qs hq t ih=>
   intro x hx
   rcases aZ6.mp hx with e | hx
   ·subst e
    exact tR ok (by rw [<- hq.1]; exact hq.2.1)
   ·exact ih x hx
 exact all r x hx
theorem am9 {kvs:List (List aP × V)} (ok:bL P w H h) (e:H a=some (.dT kvs)):kvs.length<=sizeLine/\(a == sysModules)=false/\
  ∃ xs,KT H kvs xs/\h.DictOfH (tupleKind (eM P w)) a xs:=A0 ok (.inl e)
end
def iA (H:Hp) (a:Addr) (y:V) (r:Option V):Prop:=
 (∃ kvs k,Rd H a (.dK kvs)/\y=kV k/\r=eB kvs k) ∨ ∃ kvs k b,Rd H a (.dT kvs)/\y = .ref b/\H b=some (.tup (k.map kV))/\r=eB kvs k
def mZ (H:Hp) (a:Addr) (y v:V) (H':Hp):Prop:=
 (∃ kvs k,H a=some (.dK kvs)/\y=kV k/\kvs.length < sizeLine/\H'=upd H a (.dK (eR kvs k v))) ∨
 ∃ kvs k b,H a=some (.dT kvs)/\y = .ref b/\H b=some (.tup (k.map kV))/\kvs.length < sizeLine/\H'=upd H a (.dT (eR kvs k v))
theorem iA.k {H:Hp}{a:Addr}{kvs:List (aP × V)}{k:aP} (e:H a=some (.dK kvs)):iA H a (kV k) (eB kvs k):=.inl ⟨kvs,k,.inl e,rfl,rfl⟩
theorem iA.t {H:Hp}{a b:Addr}{kvs:List (List aP × V)}{k:List aP} (e:H a=some (.dT kvs)) (eb:H b=some (.tup (k.map kV))):iA H a (.ref b) (eB kvs k):=.inr ⟨kvs,k,b,.inl e,rfl,eb,rfl⟩
theorem mZ.k {H:Hp}{a:Addr}{kvs:List (aP × V)}{k:aP}{v:V} (e:H a=some (.dK kvs)) (hl:kvs.length < sizeLine):mZ H a (kV k) v (upd H a (.dK (eR kvs k v))):=.inl ⟨kvs,k,e,rfl,hl,rfl⟩
section
variable {X : Cx} {pins : List (Addr × Obj)} {σ : St} {H : Hp} {s : Shared} {a : Addr} {y v : V} {u r : Value} {o : Option V} {A : Around} {E : Value → Shared → Prop}
theorem a6.big (I:a6 X pins σ H s):sysModules < s.heap.objs.size:=by
 have h:mainGlobals < s.heap.objs.size:=(I.mod.glob.keeps I.bk).lt
 exact Nat.lt_trans (by decide) h
theorem an0 {Q:Value->Shared->Prop} (hu:A.units+1 < cLine) (I:a6 X pins σ H s) (g:iA H a y o) (ry:aO y u) (h:∀ s',a6 X pins σ H s'->Q (.bool o.isSome) s') :
  wpAny (model X.prog X.w) A (compareOp .In u (.ref a)) Q E s:=by
 rcases g with ⟨kvs,k,e,ey,l⟩ | ⟨kvs,k,b,e,ey,eb,l⟩
 ·subst ey
  obtain ⟨z,hd,vs,rel,dd⟩:=tQ I.hok e
  refine wpAny_in_of (tP ry) hd dd.mapOf ?_
  rw [<- (rel.val k).isSome_eq,<- l]
  exact h _ (I.tok _)
 ·subst ey
  cases (show u=Value.ref b from ry)
  obtain ⟨z,hd,xs,rel,dd⟩:=A0 I.hok e
  refine wpAny_in_heap (tupleKind_room_in1 hu) (tR I.hok eb) hd dd ?_
  have q:=(rel.val k).isSome_eq
  rw [Option.isSome_map] at q
  rw [<- q,<- l]
  exact h _ (I.tok _)
theorem A1 {h':Heap}{t':Nat}{ob:HO} (I:a6 X pins σ H s) (mu:mH (H a)) (hs:Heap.SameBut a s.heap h') (he:∃ q,h'.get? a=some q) (new:bV X.prog X.w (upd H a ob) h' a ob) :
  a6 X pins σ (upd H a ob) { s with heap:=h',toks:=t' }:=
 I.write (x:=a) (e:=a) mu (.inl rfl) (fun b q hb z=>(hs.2 b hb).trans z) he new
theorem an1 {P:Program}{w:World}{H':Hp}{h':Heap}{kvs:List (aP × V)}{vs:List (aP × Value)} (z:kvs.length<=sizeLine) (hd:(a == sysModules)=false) (rel:KV kvs vs) (dd:h'.DictOf (eM P w) a vs) :
  bV P w H' h' a (.dK kvs):=⟨z,hd,vs,rel,dd⟩
theorem an2 {H':Hp}{Q:Unit->Shared->Prop} (hu:A.units+1 < cLine) (I:a6 X pins σ H s) (g:mZ H a y v H') (ry:aO y u) (rv:aO v r) (h:∀ s',a6 X pins σ H' s'->Q () s') :
  wpAny (model X.prog X.w) A (setItem (.ref a) u r) Q E s:=by
 rcases g with ⟨kvs,k,e,ey,l,eH⟩ | ⟨kvs,k,b,e,ey,eb,l,eH⟩
 ·subst ey eH
  obtain ⟨z,hd,vs,rel,dd⟩:=am8 I.hok e
  have hz:vs.length<=sizeLine:=by rw [<- rel.length]; exact z
  have hl:(eR kvs k v).length<=sizeLine:=by have:=zX kvs k v; omega
  refine wpAny_setItem_pairs (hsz:=hz) (tP ry) dd fun h' dd' hs=>h _ ?_
  have he:∃ q,h'.get? a=some q:=let ⟨q,_,_,hq,_⟩:=dd'; ⟨q,hq⟩
  exact A1 I (by rw [e]; exact True.intro) hs he (an1 hl hd (rel.put k rv) dd')
 ·subst ey eH
  cases (show u=Value.ref b from ry)
  obtain ⟨z,hd,xs,rel,dd⟩:=am9 I.hok e
  have hz:xs.length<=sizeLine:=by rw [<- Paired.length rel]; exact z
  have hl:(eR kvs k v).length<=sizeLine:=by have:=zX kvs k v; omega
  refine wpAny_setItem_heap (hsz:=hz) (tupleKind_room_in1 hu) (tR I.hok eb) dd fun h' dd' hs=>h _ ?_
  obtain ⟨q,es,ep,hq,h2,h3,h4,_,h5⟩:=dd'
  refine A1 I (by rw [e]; exact True.intro) hs ⟨q,hq⟩ ⟨hl,hd,_,(rel.put k eb rv).keeps fun c ys ec=>?_,q,es,ep,hq,h2,h3,h4,h5⟩
  rw [aM (ad5 ec e (fun z=>nomatch z))]
  exact ec
end
section
variable {X : Cx} {pins : List (Addr × Obj)} {σ : St} {H : Hp} {s : Shared} {a : Addr} {kvs : List (aP × V)} {k : aP} {u : Value} {A : Around} {E : Value → Shared → Prop}
theorem an3 {Q:Value->Shared->Prop} (I:a6 X pins σ H s) (e:Rd H a (.dK kvs)) (h:∀ t s',a6 X pins σ H s'->Q (.int kvs.length t) s'):wpAny (model X.prog X.w) A (call (.builtin "len") [.ref a]) Q E s:=by
 obtain ⟨z,hd,vs,rel,dd⟩:=tQ I.hok e
 refine call_len_dict hd dd (by rw [<- rel.length]; rw [sizeLine_eq] at z; omega) ?_
 rw [<- rel.length]
 exact h _ _ (I.tok _)
end
def A2 (ty td:TE):TE:=fun σ H Q=>ty σ H fun y H1=>td σ H1 fun x H2=>∃ a o,x = .ref a/\iA H2 a y o/\Q (.bl o.isSome) H2
def A3 (td ty tv:TE):TS:=fun D σ H=>tv σ H fun v H1=>td σ H1 fun x H2=>ty σ H2 fun y H3=>∃ a H4,x = .ref a/\mZ H3 a y v H4/\D.nx σ H4
section
variable {X : Cx} {o i e value : Expr} {pos pos' tpos : Pos} {td ty tv : TE}
theorem an4 (hu:X.A.units+1 < cLine) (hi:PE X i ty) (ho:PE X o td):PC X .In i o (A2 ty td):=by
 intro pins s σ H Q I h
 refine aJ (hi pins s σ H _ I h) fun iv s1 ⟨y,H1,I1,ry,q1⟩=>aJ (ho pins s1 σ H1 _ I1 q1) fun u s2 ⟨x,H2,I2,rx,a,ov,ex,g,q2⟩=>?_
 subst ex
 obtain rfl:u=Value.ref a:=rx
 exact an0 hu I2 g ry fun s3 I3=>⟨.bl ov.isSome,H2,I3,rfl,q2⟩
theorem an5 (hu:X.A.units+1 < cLine) (ho:PE X o td) (hi:PE X i ty) (hv:PE X value tv) (hs:swapsWith value (some (.Subscript o i pos')) pos.line X.env=pure false) :
  PS X (.Assign [.Subscript o i pos'] value pos) (A3 td ty tv):=by
 intro pins s σ H D I h
 refine wpAny_Assign_Subscript (aJ (hv pins s σ H _ I h) fun r s1 ⟨v,H1,I1,rv,q1⟩=>aJ (ho pins s1 σ H1 _ I1 q1) fun u s2 ⟨x,H2,I2,rx,q2⟩=>aJ (hi pins s2 σ H2 _ I2 q2) fun iv s3 ⟨y,H3,I3,ry,a,H4,ex,g,q3⟩=>?_) hs
 subst ex
 obtain rfl:u=Value.ref a:=rx
 exact an2 hu I3 g ry rv fun s4 I4=>⟨σ,H4,I4,q3⟩
end
theorem an6 {P:Program}{w:World}{H:Hp} (h:Heap) (hb:sysModules < h.objs.size):bV P w H (h.push { cls:=.type "dict",data:=.dict #[] }) h.objs.size (.dK []):=
 ⟨be8 _,beq_eq_false_iff_ne.mpr (Ne.symm (bc7 hb)),[],.nil,Heap.DictOf.new h⟩
def A4:TE:=fun _ H Q=>∀ p,H p=none->Q (.ref p) (upd H p (.dK []))
section
variable {X : Cx} {pos : Pos}
theorem an7:PE X (.Dict [] [] pos) A4:=fun pins s σ H Q I h=>
 wpAny_Dict_empty ⟨.ref s.heap.objs.size,_,I.laid (a:=s.heap.objs.size) (o:=.dK []) (t':=s.toks) (fun _ _ q=>aZ1 _ q) (aZ3 _) (an6 s.heap I.big),rfl,h _ (I.hok.fresh (aZ3 _))⟩
end
structure M2 (X:Cx) (o:Expr) (m:Str) (apos:Pos) (e f:Expr) (cpos:Pos):Prop where
 base:attributeBase o m X.env (eval o X.env)=eval o X.env
 few:((backTo cpos (starEach [e,f] X.env)).all (fun x=>!x.1) && (backToKw cpos (keywordEach [] X.env)).all (fun x=>x.1.isSome)
  && decide (([e,f]:List Expr).length+([]:List Keyword).length+(if ([]:List Keyword).isEmpty then 0 else 1) < 30))=true
 line:(apos.endLine == cpos.line)=true
 trees:backTo cpos (starEach [e,f] X.env) = [(false,eval e X.env),(false,eval f X.env)]
end L2
namespace Att
open PySem PySem.W PySem.Calls PyProof.Rows
theorem an8 {P:Params}{h:Heap}:∀ (ns:List Int) (vs:List Value),WellAll P h vs (ns.map WData.int)->IntsAre vs ns:=by
 intro ns
 induction ns with
 | nil=>
  intro vs w
  rw [List.map_nil] at w
  cases w
  exact .nil
 | cons n ns ih=>
  intro vs w
  rw [be9] at w
  cases w with
  | cons a b=>
   cases a
   exact .cons _ _ (ih _ b)
theorem A5 {l:OpenLaw}{n:Nat} (hn:l.most=some n) {P:Params}{h:Heap}{args:List WData}{vals:List Value}
  (hpre:l.row.toRowW.claim.pre args=true) (hwl:WellAll P h vals args) :
  ∃ a vs ns,vals = [Value.ref a]/\args = [WData.list (ns.map WData.int)]/\h.get? a=some { cls:=.type "list",data:=.seq vs.toArray }/\IntsAre vs ns/\ns.length<=n:=by
 have hsh:WShape.hasAll [] args [.list .int]=true:=(pre_splitW hpre).1
 have hc:l.pre.holds [] { args:=args }=true:=(pre_splitW hpre).2
 obtain ⟨d,r,rfl,h1,h2⟩:=hasAllW_cons hsh
 obtain rfl:=hasAllW_nil h2
 obtain ⟨xs,rfl,h3⟩:=hasW_list h1
 obtain ⟨ns,rfl⟩:=items_int h3
 have hlen:ns.length<=n:=by
  unfold OpenLaw.pre at hc
  have h4:(WTm.not (.lt (.lit (.int (n:Int))) (.len (.arg 0)))).holds [] { args:=[.list (ns.map .int)] }=true:=by
   have h4:=(holds_andW hc).1
   rw [hn] at h4
   exact h4
  have h5:=condW_of h4 (w_not (w_lt w_lit (w_len_list (w_arg rfl))))
  rw [ba3] at h5
  refine Nat.le_of_not_lt fun q=>?_
  have q':(n:Int) < ((ns.length:Nat):Int):=by omega
  first
   | (rw [ba2 q'] at h5; exact absurd h5 (by decide))
   | (simp at h5; omega)
 cases hwl with
 | cons w1 w2=>
  cases w2
  cases w1 with
  | list ho hall=>exact⟨_,_,ns,rfl,rfl,ho,an8 ns _ hall,hlen⟩
theorem A6 (l:OpenLaw) (args:List WData):l.row.toRowW.claim.post args (.bool true) args=true:=
 postW_of (r:=l.row.toRowW) (X:=(true == true))
  (show WShape.has [] (.bool true) .bool=true by first | rfl | decide | simp [WShape.has,WShape.arms,WShape.armsAll])
  (show (WTm.eq .res (.lit (.bool true))).value [] { args:=args,res:=some (.bool true),after:=args }=some (.bool (true == true)) from w_eq_bool (w_res rfl) w_lit) rfl
theorem aY7 {l:OpenLaw}{n:Nat}{q:Program}{loose:List Str}{XP:(Str->Option Value)->Heap->Prop}{YP:World->Heap->Prop}{d:DefRec}{x:Str}
  (hn:l.most=some n) (hdf:d.params.defaults = [])
  (hbind:∀ pm cd doc v:Value,bindArgs (docDef d.name d.params d.body d.scope pm cd doc) ⟨[v],[]⟩=pure [(x,v)])
  (hx:d.scope.names.lookup x=some .local ∨ d.scope.names.lookup x=some .cell)
  (hk:d.scope.kind = .function) (hco:d.scope.isCoroutine=false) (hgen:d.scope.isGenerator=false)
  (body:∀ (w:World) (s₀ s₁ s:Shared) (mg mb:Str->Option Value) (fa:Addr) (o:Obj) (pm cd doc:Value) (a:Addr) (vs:List Value) (ns:List Int),
   Ground q loose [] XP w s₀ mg mb s₁.heap->YP w s₁.heap->
   s₁.heap.get? fa=some o->o.data = .func (docDef d.name d.params d.body d.scope pm cd doc)->s₁.heap.CodeRec cd d.name->mg d.name=some (.ref fa)->
   s₁.heap.get? a=some { cls:=.type "list",data:=.seq vs.toArray }->IntsAre vs ns->ns.length<=n->
   s.gens = #[]->s.os=s₁.os->
   Fr s₁.heap s₁.heap.objs.size s.heap (bindL (envOfC d.name d.scope s₁.heap.objs.size fa cd).kindOf [(x,.ref a)] fun _=>none)->
   Cl s₁.heap.objs.size (cellsFrom (s₁.heap.objs.size+1) d.scope.names []) s.heap (bindC (envOfC d.name d.scope s₁.heap.objs.size fa cd).kindOf [(x,.ref a)] fun _=>none)->
   wpAny (model l.prog w) (callerA.deeper (envOfC d.name d.scope s₁.heap.objs.size fa cd)) (execs d.body (envOfC d.name d.scope s₁.heap.objs.size fa cd))
    (fun f s'=>f = .ret (.bool true)/\OldK s₁.heap s'.heap/\s'.os=s₁.os/\AllBare s'.gens) (fun _ _=>False) s) :
  WalkO q loose XP YP l.row.toRowW d [] (fun f vs=>PySem.call f vs):=by
 intro w s₀ s₁ mg mb G Y fa o pm cd doc dV kV ho hd hcd hD hmg hg args vals as hpre hlay hrd hwl hlo
 obtain rfl:dV = .none:=Dflts.none hD hdf
 obtain rfl:kV = .none:=Dflts.noKw hD
 obtain ⟨a,vs,ns,rfl,rfl,hobj,hints,hlen⟩:=A5 hn hpre hwl
 refine enter_call ?_
 refine call_cells_ret (o:=o) (by rw [depth_caller]; decide) ho (fd_plain hd) G.T.nolimit hcd (hbind pm cd doc (.ref a)) (fun y hy=>?_) (fun h₁ tk F X=>?_) hco hgen hk
 ·obtain rfl:y=(x,Value.ref a):=aZ4.mp hy
  rcases hx with e | e
  ·exact .inl e
  ·exact .inr ⟨e,cellsFrom_some _ _ _ (.inl e)⟩
 ·refine bh9 (body w s₀ s₁ { s₁ with heap:=h₁,toks:=tk } mg mb fa o pm cd doc a vs ns G Y ho (fd_plain hd) hcd hmg hobj hints hlen hg rfl F X) (fun f s' hq=>?_) (fun _ _ hq=>hq)
  obtain ⟨rfl,h2,h3,h4⟩:=hq
  exact⟨.inl ⟨.bool true,.bool true,[],rfl,fun _=>rfl,.bool true,A6 l _,fun _=>⟨bo0,fun _ hm=>(nomatch hm)⟩⟩,h2,h3,h4⟩
theorem an9 {l:OpenLaw}{n:Nat}{q:Program}{loose:List Str}{XP:(Str->Option Value)->Heap->Prop}{YP:World->Heap->Prop}{d:DefRec}
  (hn:l.most=some n) (hdf:d.params.defaults = [])
  (call:∀ (w:World) (s₀ s₁:Shared) (mg mb:Str->Option Value) (fa:Addr) (o:Obj) (pm cd doc:Value) (a:Addr) (vs:List Value) (ns:List Int),
   Ground q loose [] XP w s₀ mg mb s₁.heap->YP w s₁.heap->
   s₁.heap.get? fa=some o->o.data = .func (docDef d.name d.params d.body d.scope pm cd doc)->s₁.heap.CodeRec cd d.name->mg d.name=some (.ref fa)->
   s₁.heap.get? a=some { cls:=.type "list",data:=.seq vs.toArray }->IntsAre vs ns->ns.length<=n->s₁.gens = #[]->
   codeAny (model l.prog w) callerA (.call (.ref fa) ⟨[.ref a],[]⟩) (fun r s'=>r = .ok (.ret (.bool true))/\OldK s₁.heap s'.heap/\s'.os=s₁.os/\AllBare s'.gens) s₁) :
  WalkO q loose XP YP l.row.toRowW d [] (fun f vs=>PySem.call f vs):=by
 intro w s₀ s₁ mg mb G Y fa o pm cd doc dV kV ho hd hcd hD hmg hg args vals as hpre hlay hrd hwl hlo
 obtain rfl:dV = .none:=Dflts.none hD hdf
 obtain rfl:kV = .none:=Dflts.noKw hD
 obtain ⟨a,vs,ns,rfl,rfl,hobj,hints,hlen⟩:=A5 hn hpre hwl
 refine enter_call (codeAny_mono (call w s₀ s₁ mg mb fa o pm cd doc a vs ns G Y ho (fd_plain hd) hcd hmg hobj hints hlen hg) fun r s' hq=>?_)
 obtain ⟨rfl,h2,h3,h4⟩:=hq
 exact⟨.inl ⟨.bool true,.bool true,[],rfl,fun _=>rfl,.bool true,A6 l _,fun _=>⟨bo0,fun _ hm=>(nomatch hm)⟩⟩,h2,h3,h4⟩
end Att
namespace L2
open PySem PySem.Spec PyProof.Rows
theorem A7:∀ {vs:List Value}{ns:List Int},IntsAre vs ns->aH (ns.map V.int) vs
 | _,_,.nil=>.nil
 | _,_,.cons n t h=>.cons ⟨t,rfl⟩ (A7 h)
def oY (H:Hp):Prop:=∀ b,H b=none ∨ ∃ o xs,H b=some (.frz o (.lst xs))
theorem ao0 {P:Program}{w:World}{K:PySem.W.Frag}{mg mb:Str->Option Value}{CX:fQ}{k:Nat}{fa a:Addr}{fd:FuncData}{x:Str}{sp:Sp}{s₁:Shared}{vs:List Value}{ns:List Int}
  (KX:K.In s₁.heap) (hns:s₁.heap.Ns mainGlobals mg) (hb:s₁.heap.Ns builtinsNs mb) (hbb:∀ x:Str,x ≠ "__name__"->mb x=bootBuiltins x) (hlim:s₁.heap.NoLimit) (hg:s₁.gens = #[])
  (ha:s₁.heap.get? a=some { cls:=.type "list",data:=.seq vs.toArray }) (hi:IntsAre vs ns) (hl:ns.length<=sizeLine) (hr:bR k callerA)
  (F:∀ base:Heap,K.In base->base.Ns mainGlobals mg->cG P w K mg base CX k fa fd [x] sp) (hbind:∀ (s:Shared) (u:Value),BindsTo s fd ⟨[u],[]⟩ [(x,u)])
  (hsp:∀ H:Hp,oY H->aG K H a (ns.map V.int)->sp [.ref a] H (fun v _=>v = .bl true) fun _ _ _=>False)
  (hCX:∀ H e s',CX [] H s₁ (fun _ _ _=>False) e s'->False) :
  codeAny (model P w) callerA (.call (.ref fa) ⟨[.ref a],[]⟩) (fun r s'=>r = .ok (.ret (.bool true))/\OldK s₁.heap s'.heap/\s'.os=s₁.os/\AllBare s'.gens) s₁:=by
 have rv:=A7 hi
 have lenV:=hi.length
 have core:∀ H:Hp,oY H->aG K H a (ns.map V.int)->bL P w H s₁.heap->(∀ b,H b ≠ none->b=a)->(H a ≠ none->K.lookup a=none)->
   codeAny (model P w) callerA (.call (.ref fa) ⟨[.ref a],[]⟩) (fun r s'=>r = .ok (.ret (.bool true))/\OldK s₁.heap s'.heap/\s'.os=s₁.os/\AllBare s'.gens) s₁:=by
  intro H hO hS hok hA hK
  have base_of:∀ {b:Addr}{o:Obj},s₁.heap.get? b=some o->H b=none->(hJ s₁.heap H).get? b=some o:=fun e n=>ad7 e n
  have noA:∀ {b:Addr}{o:Obj}{es:Array DictEntry}{ep:Nat},s₁.heap.get? b=some o->o.data = .dict es ep->H b=none:=fun {b o es ep} e d=>by
   cases q:H b with
   | none=>rfl
   | some u=>
    have e':b=a:=hA b (by rw [q]; simp)
    subst e'
    rw [ha] at e; cases e
    have d':Data.seq vs.toArray _=Data.dict es ep:=d
    cases d'
  have nsK:∀ {b:Addr}{m:Str->Option Value},s₁.heap.Ns b m->(hJ s₁.heap H).Ns b m:=fun {b m} ⟨o,es,ep,e,d,r⟩=>⟨o,es,ep,base_of e (noA e d),d,r⟩
  have hKb:K.In (hJ s₁.heap H):=fun b o e=>base_of (KX b o e) (by
   cases q:H b with
   | none=>rfl
   | some u=>
    have e':b=a:=hA b (by rw [q]; simp)
    subst e'
    rw [hK (by rw [q]; simp)] at e; cases e)
  have hM:Mod K mg (hJ s₁.heap H):=⟨hKb,nsK hns,⟨mb,nsK hb,hbb⟩,let ⟨mc,h1,h2⟩:=hlim; ⟨mc,nsK h1,h2⟩⟩
  have e0:oW P w K mg (hJ s₁.heap H) callerA [] s₁ H:=⟨rfl,hM,fun b o e=>ad8 e,Nat.le_of_eq (ad6 _ _),trivial,fun b hb=>absurd (show b ∈ ([]:List Addr) from hb) (by simp),hok,.of_eq hg⟩
  refine codeAny_mono ((F _ hKb (nsK hns)).run callerA [] s₁ H ⟨[.ref a],[]⟩ [.ref a] [.ref a] _ _ hr e0 (hbind s₁ (.ref a)) (.cons rfl .nil) (hsp H hO hS)) fun r s' h=>?_
  cases r with
  | error e=>exact (hCX H e s' h).elim
  | ok fl=>
   cases fl with
   | next=>exact False.elim h
   | brk=>exact False.elim h
   | cont=>exact False.elim h
   | ret u=>
    obtain ⟨v,H',os,bare,un,hok',r',q⟩:=h
    have q':v = .bl true:=q
    subst q'
    obtain rfl:u=Value.bool true:=r'
    refine⟨rfl,OldK.of_keep fun b o e=>?_,os,bare⟩
    cases q:H b with
    | none=>exact un.keep b o e q (by intro z; exact absurd (show b ∈ ([]:List Addr) from z) (by simp)) (by simp)
    | some u=>
     rcases hO b with z | ⟨ob,xs,z⟩
     ·rw [q] at z; cases z
     ·have z2:=un.frzs b ob _ z
      obtain ⟨e1,_⟩:=hok b _ z
      obtain ⟨e2,_⟩:=hok' b _ z2
      rw [e] at e1; cases e1
      exact e2
 cases hk:K.lookup a with
 | some o=>
  have e:=KX a o hk
  rw [ha] at e
  cases e
  refine core (fun _=>none) (fun _=>.inl rfl) (.inr ⟨_,vs.toArray,_,hk,rfl,rfl,rfl,by rw [aZ2,lenV]; exact hl,by simpa using rv⟩) (fun b u z=>by have z':(none:Option HO)=some u:=z; cases z') (fun b z=>absurd rfl z) fun z=>absurd rfl z
 | none=>
  refine core (fun b=>if b=a then some (.frz { cls:=.type "list",data:=.seq vs.toArray } (.lst (ns.map V.int))) else none) (fun b=>?_) (.inl (.inr ⟨{ cls:=.type "list",data:=.seq vs.toArray },if_pos rfl⟩)) (fun b u z=>?_) (fun b z=>?_) fun _=>hk
  ·by_cases hb:b=a
   ·exact .inr ⟨_,_,if_pos hb⟩
   ·exact .inl (if_neg hb)
  ·by_cases hb:b=a
   ·have z':=(if_pos hb).symm.trans z
    cases z'
    subst hb
    exact⟨ha,by rw [ba3]; exact hl,vs,_,rv,ha⟩
   ·have z':=(if_neg hb).symm.trans z
    cases z'
  ·by_cases hb:b=a
   ·exact hb
   ·exact absurd (if_neg hb) z
theorem ao1 {l:PySem.W.OpenLaw}{n k:Nat}{q:Program}{loose:List Str}{XP:(Str->Option Value)->Heap->Prop}{YP:World->Heap->Prop}{d:DefRec}{K:Params->PySem.W.Frag}{CX:World->fQ}{sp:World->Sp}{x:Str}
  (hn:l.most=some n) (hn2:n<=sizeLine) (hdf:d.params.defaults = []) (hr:bR k callerA)
  (hY:∀ (w:World) (h:Heap),YP w h->(K w.params).In h)
  (F:∀ (w:World) (mg:Str->Option Value) (fa:Addr) (h:Heap),(K w.params).In h->h.Ns mainGlobals mg->mg d.name=some (.ref fa)->
   ∃ fd:FuncData,(∀ (s:Shared) (u:Value),BindsTo s fd ⟨[u],[]⟩ [(x,u)])/\
    ∀ base:Heap,(K w.params).In base->base.Ns mainGlobals mg->cG l.prog w (K w.params) mg base (CX w) k fa fd [x] (sp w))
  (hsp:∀ (w:World) (H:Hp) (a:Addr) (ns:List Int),ns.length<=n->oY H->aG (K w.params) H a (ns.map V.int)->sp w [.ref a] H (fun v _=>v = .bl true) fun _ _ _=>False)
  (hCX:∀ (w:World) (H:Hp) (s:Shared) (e:Value) (s':Shared),CX w [] H s (fun _ _ _=>False) e s'->False) :
  PySem.W.WalkO q loose XP YP l.row.toRowW d [] (fun f vs=>PySem.call f vs):=by
 refine Att.an9 hn hdf fun w s₀ s₁ mg mb fa o pm cd doc a vs ns G Y ho hd hcd hmg hobj hints hlen hg=>?_
 have KX:=hY w _ Y
 obtain ⟨fd,hb,hF⟩:=F w mg fa _ KX G.T.g hmg
 exact ao0 KX G.T.g G.T.b G.T.builtins G.T.nolimit hg hobj hints (bd4 hlen hn2) hr hF hb (fun H hO hS=>hsp w H a ns hlen hO hS) fun H e s'=>hCX w H s₁ e s'
def iB (s:Stmt):Arguments:=match s with
 | .FunctionDef _ a _ _ _ _ _ _ _ _=>a
 | _=>{ posonlyargs:=[],args:=[],vararg:=none,kwonlyargs:=[],kw_defaults:=[],kwarg:=none,defaults:=[] }
def dW (s:Stmt):List Stmt:=match s with
 | .FunctionDef _ _ b _ _ _ _ _ _ _=>b
 | _=>[]
def aS (s:Stmt):Scope:=match s with
 | .FunctionDef _ _ _ _ _ _ sc _ _ _=>sc
 | _=>{ kind:=.function,names:=[],isGenerator:=false,isCoroutine:=false }
abbrev cY:fQ:=fun _ _ _ _ _ _=>False
abbrev E0:XK:=fun _ _ _=>False
theorem ao2 {X:Cx}:mT cY X E0:=fun _ _ _ _ _ _ _ h=>h.elim
structure dX (K:PySem.W.Frag) (x qual:Str) (st:Stmt) (f:Addr) (fd:FuncData):Prop where
 ex:∃ (oc:Value) (od:Option Addr) (kV doc pm:Value) (an:Option Addr) (cdv ct:Value) (osl:Array (Option Value)),
  fd=PySem.W.fnOf x qual (iB st) (dW st) (aS st) .none kV doc pm an cdv ct/\K.lookup f=some ⟨oc,od,.func fd,osl⟩/\PySem.W.codeIn K cdv qual=true
 kp:PySem.W.keepIn K (.ref f)=true
section
variable {P : Program} {w : World} {K : PySem.W.Frag} {mg : Str → Option Value} {base : Heap}
theorem dX.ok {x qual:Str}{st:Stmt}{f:Addr}{fd:FuncData}{N ps:List Str}{k:Nat}{sp:Sp} (F:dX K x qual st f fd) (S:FnScope N ps (aS st)) (len:∀ vs H Q E,sp vs H Q E->vs.length=ps.length)
  (hbody:∀ (cdv:Value) (A:Around) (outer:List Env) (s:Shared) (H:Hp) (vs:List V) (Q:VK) (E:XK),bR k (A.deeper (envOfC qual (aS st) s.heap.objs.size f cdv))->sp vs H Q E->
   ∃ t,dC (cW cY P w K mg base N qual (aS st) f cdv A outer s H E).nox (dW st) t/\t { nx:=fun _ H'=>Q .non H',rt:=Q } (fR N vs) H):cG P w K mg base cY (k+1) f fd ps sp:=by
 obtain ⟨oc,od,kV,doc,pm,an,cdv,ct,osl,rfl,lk,hcd⟩:=F.ex
 refine yX lk hcd S len fun A outer s H vs Q E hr hsp=>?_
 obtain ⟨t,h,q⟩:=hbody cdv A outer s H vs Q E hr hsp
 exact⟨t,h.nox,q⟩
theorem dX.binds {x qual:Str}{st:Stmt}{f:Addr}{fd:FuncData}{ps:List Str} (F:dX K x qual st f fd)
  (h:∀ (kV doc pm:Value) (an:Option Addr) (cdv ct:Value) (us:List Value),us.length=ps.length->bindArgs (PySem.W.fnOf x qual (iB st) (dW st) (aS st) .none kV doc pm an cdv ct) ⟨us,[]⟩=pure (ps.zip us)):fZ K fd ps []:=by
 obtain ⟨oc,od,kV,doc,pm,an,cdv,ct,osl,rfl,lk,hcd⟩:=F.ex
 exact .all (h kV doc pm an cdv ct)
theorem ao3 {x qual:Str}{st:Stmt}{f:Addr}{oc:Value}{od an:Option Addr}{osl:Array (Option Value)}{kV doc pm cdv ct:Value} (l:K.lookup f=some ⟨oc,od,.func (PySem.W.fnOf x qual (iB st) (dW st) (aS st) .none kV doc pm an cdv ct),osl⟩)
  (c:PySem.W.codeIn K cdv qual=true) (k:PySem.W.keepIn K (.ref f)=true):dX K x qual st f (PySem.W.fnOf x qual (iB st) (dW st) (aS st) .none kV doc pm an cdv ct):=⟨⟨oc,od,kV,doc,pm,an,cdv,ct,osl,rfl,l,c⟩,k⟩
end
theorem A8 {A:Around}{k:Nat} (hr:bR k A):A.units+1 < cLine:=Nat.lt_of_le_of_lt (Nat.add_le_add_left (by decide:1<=64) _) hr.units
theorem tS {n:Nat} (h:n<=1000):n < sizeLine:=Nat.lt_of_le_of_lt h (by decide)
section
variable {X : Cx}
theorem pv (i:Nat) {x:Str}{pos:Pos} (hN:X.N[i]? = some x:=by rfl) (hv:hV X.env.scope x:=by first | exact Or.inl rfl | exact Or.inr (Or.inl rfl) | exact Or.inr (Or.inr rfl)) (hd:(x == ("__debug__" : Str))=false:=by decide)
  (hcd:(x == ("__classdict__" : Str))=false:=by decide):PE X (.Name x pos) (jO i):=kO hN hv hd hcd
theorem ao4:cK X (.builtin "len") (fun xs H Q=>∃ a kvs,xs = [V.ref a]/\H a=some (.dK kvs)/\Q (.int kvs.length) H):=by
 intro pins s σ H xs us Q I r h
 obtain ⟨a,kvs,rfl,ha,q⟩:=h
 obtain ⟨u,rfl,ru⟩:=fY r
 cases ru
 exact an3 I (.inl ha) fun t s' I'=>⟨.int kvs.length,H,I',⟨t,rfl⟩,q⟩
end
theorem b6 {A B:Prop} (h:B):if false=true then A else B:=by
 rw [if_neg ba7]
 exact h
theorem bI {A B:Prop} (h:A):if true=true then A else B:=by
 rw [if_pos rfl]
 exact h
def a9 (H H':Hp):Prop:=∀ b o,H b=some o->H' b=some o
theorem a9.refl (H:Hp):a9 H H:=fun _ _ h=>h
theorem a9.trans {H H1 H2:Hp} (a:a9 H H1) (b:a9 H1 H2):a9 H H2:=fun c o h=>b c o (a c o h)
theorem a9.free {H H':Hp} (e:a9 H H') {l:Addr} (h:H' l=Option.none):H l=Option.none:=by
 cases q:H l with
 | none=>rfl
 | some o=>
  rw [e l o q] at h
  cases h
theorem a9.seq {K:PySem.W.Frag}{H H':Hp}{a:Addr}{xs:List V} (e:a9 H H') (h:aG K H a xs):aG K H' a xs:=by
 rcases h with (h | ⟨o,h⟩) | h
 ·exact .inl (.inl (e _ _ h))
 ·exact .inl (.inr ⟨o,e _ _ h⟩)
 ·exact .inr h
def dN (cells:List (Str × Addr)):List (Str × NameKind)->List (Str × Addr)->List (Str × Addr)
 | [],cs=>cs
 | (n,k) :: r,cs=>dN cells r (if k == .free then (n,(cells.lookup n).getD 0) :: cs else cs)
theorem tT {env:Env}:∀ (ns:List (Str × NameKind)) (cs:List (Str × Addr)),(∀ x ∈ ns,x.2 = .free->∃ c,env.cells.lookup x.1=some c)->
  (forIn ns cs (fun (x:Str × NameKind) r=>(match x with
   | (name,kind)=>if (kind == .free)=true then (do let y <- cellOf env name; pure (ForInStep.yield ((name,y) :: r))) else pure (ForInStep.yield r)):_->_->Sem _))=(pure (dN env.cells ns cs):Sem (List (Str × Addr)))
 | [],cs,_=>by rw [List.forIn_nil]; rfl
 | (n,k) :: r,cs,h=>by
  rw [List.forIn_cons]
  have hr:∀ x ∈ r,x.2 = .free->∃ c,env.cells.lookup x.1=some c:=fun x hx=>h x (bb0 _ hx)
  cases hk:(k == NameKind.free) with
  | true=>
   have e:k = .free:=by simpa using hk
   obtain ⟨c,hc⟩:=h (n,k) bb1 e
   simp only [hk,if_true]
   have e1:cellOf env n=pure c:=by unfold cellOf; rw [hc]
   rw [e1]
   show ((pure c >>= fun y=>pure (ForInStep.yield ((n,y) :: cs))) >>= _:Sem _)=_
   rw [pure_bind,pure_bind]
   have:=tT (env:=env) r ((n,c) :: cs) hr
   refine this.trans ?_
   unfold dN
   simp only [hk,if_true,hc,Option.getD_some]
   cases r <;> rfl
  | false=>
   simp only [hk,bc4,bi7]
   rw [pure_bind]
   have:=tT (env:=env) r cs hr
   refine this.trans ?_
   conv=>rhs; unfold dN
   simp only [hk,bc4,bi7]
theorem oZ {scope:Scope}{env:Env} (h:∀ x ∈ scope.names,x.2 = .free->∃ c,env.cells.lookup x.1=some c):closureFor scope env=pure (dN env.cells scope.names []):=by
 have e:=tT (env:=env) scope.names [] h
 unfold closureFor
 rw [show (pure (dN env.cells scope.names []):Sem (List (Str × Addr)))=(pure (dN env.cells scope.names []) >>= pure) by rw [pure_bind]]
 rw [<- e]
theorem p5 {cells:List (Str × Addr)}:∀ (ns:List (Str × NameKind)) (cs:List (Str × Addr)) {x:Str}{c:Addr},(∀ y ∈ ns,y.2 = .free->∃ c,cells.lookup y.1=some c)->
  (∀ x c,cs.lookup x=some c->cells.lookup x=some c)->(dN cells ns cs).lookup x=some c->cells.lookup x=some c
 | [],cs,x,c,_,hc,h=>hc x c h
 | (n,k) :: r,cs,x,c,hn,hc,h=>by
  unfold dN at h
  have hr:∀ y ∈ r,y.2 = .free->∃ c,cells.lookup y.1=some c:=fun y hy=>hn y (bb0 _ hy)
  cases hk:(k == NameKind.free) with
  | false=>
   simp only [hk,bc4,bi7] at h
   exact p5 r cs hr hc h
  | true=>
   simp only [hk,if_true] at h
   refine p5 r _ hr (fun y d e=>?_) h
   obtain ⟨c0,h0⟩:=hn (n,k) bb1 (by simpa using hk)
   have h0:cells.lookup n=some c0:=h0
   rw [h0] at e
   rw [bf9] at e
   by_cases hyn:y=n
   ·subst hyn
    simp only [bh5,Option.getD_some] at e
    rw [h0]; exact e
   ·have:(y == n)=false:=beq_eq_false_iff_ne.mpr hyn
    simp only [this] at e
    exact hc y d e
theorem tU {cells:List (Str × Addr)}:∀ (ns:List (Str × NameKind)) (cs:List (Str × Addr)) {x:Str},((x,NameKind.free) ∈ ns ∨ ∃ c,cs.lookup x=some c)->∃ c,(dN cells ns cs).lookup x=some c
 | [],cs,x,h=>by
  rcases h with h | h
  ·simp at h
  ·exact h
 | (n,k) :: r,cs,x,h=>by
  unfold dN
  refine tU r _ ?_
  rcases h with h | ⟨c,h⟩
  ·rcases aZ6.mp h with e | e
   ·cases e
    exact .inr ⟨_,by simp [bf9]; rfl⟩
   ·exact .inl e
  ·right
   cases hk:(k == NameKind.free) with
   | false=>exact⟨c,by simpa [hk] using h⟩
   | true=>
    simp only [if_true]
    rw [bf9]
    by_cases hxn:(x == n)=true
    ·simp only [hxn]; exact⟨_,rfl⟩
    ·simp only [Bool.eq_false_iff.mpr hxn]; exact⟨c,h⟩
theorem p6 {env:Env}:∀ {names:List (Str × NameKind)}{x:Str}{k:NameKind},(names.map fun (n,k)=>if (k == NameKind.free && env.scope.kind == .function && env.kindOf n == some .cell) then (n,NameKind.cell) else (n,k)).lookup x=some k->
  names.lookup x=some k ∨ (names.lookup x=some .free/\k = .cell)
 | [],_,_,h=>by simp at h
 | (n,q) :: r,x,k,h=>by
  have ih:=@p6 env r x k
  rw [be9] at h
  by_cases hx:(x == n)=true
  ·have e:x=n:=by simpa using hx
   subst e
   by_cases hc:(q == NameKind.free && env.scope.kind == .function && env.kindOf x == some .cell)=true
   ·simp only [hc,if_true,bf9,bh5] at h
    have hq:q = .free:=by simp at hc; exact hc.1.1
    exact .inr ⟨by simp [bf9,hq],(bc1 h).symm⟩
   ·simp only [hc,bc4,bi7,bf9,bh5] at h
    exact .inl (by simp [bf9]; exact bc1 h)
  ·have hx':(x == n)=false:=Bool.eq_false_iff.mpr hx
   have h':(r.map fun (n,k)=>if (k == NameKind.free && env.scope.kind == .function && env.kindOf n == some .cell) then (n,NameKind.cell) else (n,k)).lookup x=some k:=by
    by_cases hc:(q == NameKind.free && env.scope.kind == .function && env.kindOf n == some .cell)=true
    ·simp only [hc,if_true,bf9,hx'] at h; exact h
    ·simp only [hc,bc4,bi7,bf9,hx'] at h; exact h
   simp only [bf9,hx']
   exact ih h'
def eS (fr:List (Option Nat)) (σ:St):St:=fr.map fun o=>o.bind fun j=>(σ[j]?).join
def Wk (σ₁ σ₂:St):Prop:=σ₁.length=σ₂.length/\∀ (i:Nat) v,σ₁[i]? = some (some v)->σ₂[i]? = some (some v)
theorem Wk.refl (σ:St):Wk σ σ:=⟨rfl,fun _ _ h=>h⟩
theorem Wk.set {σ τ:St}{i:Nat}{v:V} (h:Wk σ τ) (hi:σ[i]? = some none):Wk σ (τ.set i (some v)):=by
 refine⟨by rw [bd8]; exact h.1,fun j w e=>?_⟩
 by_cases hj:j=i
 ·subst hj; rw [hi] at e; cases e
 ·rw [bb8 (Ne.symm hj)]; exact h.2 j w e
theorem iC:∀ (ns:List (Str × NameKind)) (n:Nat) (cs:List (Str × Addr)),cellsFrom n ns cs=cellsFrom n ns [] ++ cs
 | [],_,_=>rfl
 | (x,k) :: r,n,cs=>by
  unfold cellsFrom
  split
  ·rw [iC r (n+1) ((x,n) :: cs),iC r (n+1) [(x,n)]]; simp
  ·exact iC r n cs
theorem tV:∀ (ns:List (Str × NameKind)) (n:Nat) {x:Str}{c:Addr},(x,c) ∈ cellsFrom n ns []->(x,NameKind.cell) ∈ ns
 | [],_,_,_,h=>by simp [cellsFrom] at h
 | (y,k) :: r,n,x,c,h=>by
  unfold cellsFrom at h
  split at h
  ·rename_i hk
   rw [iC] at h
   rcases bb3.mp h with z | z
   ·exact bb0 _ (tV r _ z)
   ·rw [aZ4] at z
    cases z
    have:k = .cell:=by simpa using hk
    rw [this]; exact bb1
  ·exact bb0 _ (tV r _ h)
theorem p9:∀ (ns:List (Str × NameKind)) (n:Nat) {x:Str},(x,NameKind.cell) ∈ ns->∃ c,(x,c) ∈ cellsFrom n ns []
 | (y,k) :: r,n,x,h=>by
  unfold cellsFrom
  rcases aZ6.mp h with z | z
  ·cases z
   rw [if_pos (by rfl),iC]
   exact⟨n,bc3 _ (by simp)⟩
  ·split
   ·obtain ⟨c,hc⟩:=p9 r (n+1) z
    rw [iC]
    exact⟨c,be7 _ hc⟩
   ·exact p9 r n z
theorem tW {α:Type}:∀ {l:List (Str × α)}{x:Str}{c:α},(x,c) ∈ l->∃ d,l.lookup x=some d
 | (y,v) :: r,x,c,h=>by
  rw [bf9]
  cases hb:x == y with
  | true=>exact⟨v,rfl⟩
  | false=>
   rcases aZ6.mp h with z | z
   ·cases z; simp at hb
   ·exact tW z
theorem pA {α:Type}{x:Str}:∀ (l r:List (Str × α)),(l ++ r).lookup x=(match l.lookup x with | some v=>some v | none=>r.lookup x)
 | [],_=>rfl
 | (y,v) :: l,r=>by
  rw [List.cons_append,bf9,bf9]
  cases hb:x == y with
  | true=>rfl
  | false=>exact pA l r
def fT (X:Cx) (scope:Scope) (C:Addr):List (Str × Addr):=cellsFrom (C+1) scope.names (dN X.env.cells scope.names [])
theorem jV {X:Cx}{scope:Scope}{C:Addr}{x:Str}{c:Addr} (h:(fT X scope C).lookup x=some c) :
  (x,c) ∈ cellsFrom (C+1) scope.names [] ∨ ((∀ d,(x,d) ∉ cellsFrom (C+1) scope.names [])/\(dN X.env.cells scope.names []).lookup x=some c):=by
 unfold fT at h
 rw [iC,pA] at h
 cases e:(cellsFrom (C+1) scope.names []).lookup x with
 | some v=>rw [e] at h; cases h; exact .inl (be6 e)
 | none=>
  rw [e] at h
  refine .inr ⟨fun d hd=>?_,h⟩
  obtain ⟨d',z⟩:=tW hd
  rw [e] at z; cases z
theorem ao5 {X:Cx}{scope:Scope}{C:Addr}{x:Str}{c:Addr} (hn:(x,NameKind.cell) ∉ scope.names) (h:(dN X.env.cells scope.names []).lookup x=some c):(fT X scope C).lookup x=some c:=by
 unfold fT
 rw [iC,pA]
 cases e:(cellsFrom (C+1) scope.names []).lookup x with
 | some v=>exact absurd (tV _ _ (be6 e)) hn
 | none=>exact h
theorem A9 {X:Cx}{scope:Scope}{C:Addr}{x:Str} (h:(x,NameKind.cell) ∈ scope.names ∨ ∃ c,(dN X.env.cells scope.names []).lookup x=some c):∃ c,(fT X scope C).lookup x=some c:=by
 unfold fT
 rw [iC,pA]
 cases e:(cellsFrom (C+1) scope.names []).lookup x with
 | some v=>exact⟨v,rfl⟩
 | none=>
  rcases h with h | h
  ·obtain ⟨c,hc⟩:=p9 scope.names (C+1) h
   obtain ⟨d,hd⟩:=tW hc
   rw [e] at hd; cases hd
  ·exact h
def bN (X:Cx) (scope:Scope) (N:List Str) (s:Shared) (H:Hp) (C:Addr) (fp:List Addr) (E:Value->Shared->Prop):Cx:=
 { X with N:=N,s₀:=s,H₀:=H,env:=compEnvC scope (fT X scope C) C X.env,outer:=X.stack,ex:=fp,fn:=fun x=>scope.names.lookup x == some .cell,pn:=[],xe:=E }
structure cR (X:Cx) (scope:Scope) (N:List Str) (fr:List (Option Nat)):Prop where
 kind:scope.kind = .function
 own:∀ y ∈ scope.names,y.2 = .cell->scope.names.lookup y.1=some .cell
 names:∀ y ∈ scope.names,y.2 = .local->scope.names.lookup y.1=some .local
 free:∀ y ∈ scope.names,y.2 = .free->X.env.scope.names.lookup y.1=some .cell ∨ X.env.scope.names.lookup y.1=some .free
 len:fr.length=N.length
 from_:∀ (i j:Nat),fr[i]? = some (some j)->∃ x,N[i]? = some x/\X.N[j]? = some x/\scope.names.lookup x=some .free
section
variable {X : Cx} {pins : List (Addr × Obj)} {σ : St} {H : Hp} {s : Shared} {scope : Scope} {N : List Str} {fr : List (Option Nat)}
theorem cR.cells (S:cR X scope N fr) (I:a6 X pins σ H s):∀ y ∈ scope.names,y.2 = .free->∃ c,X.env.cells.lookup y.1=some c:=fun y hy hk=>I.ok.has y.1 (S.free y hy hk)
theorem ao6 {C D:Addr}{fp:List Addr}{E:Value->Shared->Prop}{h1:Heap}{tk:Nat}{m:Str->Option Value} (S:cR X scope N fr) (I:a6 X pins σ H s)
  (hf:∀ b ∈ fp,fP X pins H b) (hfl:∀ b ∈ fp,b < s.heap.objs.size) (hD:s.heap.objs.size<=D) (hC:s.heap.objs.size<=C) (hDC:D < C)
  (old:∀ b o,s.heap.get? b=some o->h1.get? b=some o) (hns:h1.Ns C m) (hacc:h1.get? D=some { cls:=.type "list",data:=.seq #[] 0 }) (hco:CellsOk h1 (C+1) (cellsFrom (C+1) scope.names [])) :
  a6 (bN X scope N s H C fp E) [] (eS fr σ) (upd H D (.lst [])) { s with heap:=h1,toks:=tk }:=by
 have hHD:H D=none:=I.hok.fresh hD
 have cl:=S.cells I
 have cs:∀ {x:Str}{c:Addr},(dN X.env.cells scope.names []).lookup x=some c->X.env.cells.lookup x=some c:=fun {x c} h=>p5 scope.names [] cl (fun _ _ z=>by simp at z) h
 have clt:∀ {x:Str}{c:Addr},X.env.cells.lookup x=some c->c < s.heap.objs.size:=fun {x c} h=>by obtain ⟨v,z⟩:=I.cell x c h; exact z.lt
 have nge:∀ {x:Str}{c:Addr},(x,c) ∈ cellsFrom (C+1) scope.names []->C < c:=fun {x c} h=>(hco.empty x c h).2
 refine⟨⟨I.ok.mod,?_,I.ok.glob,I.ok.blt,hC,?_,?_,?_,I.ok.hd,I.ok.frames,.inl rfl,?_,I.bs,bd4 I.ok.bsz I.sz,?_,?_,I.stack,I.stkFree⟩,rfl,I.bare,Un.laid old hD hHD,⟨m,hns,?_⟩,?_,?_,?_,fun p hp=>absurd (show p ∈ ([]:List (Addr × Obj)) from hp) (by simp),?_,?_⟩
 ·exact S.kind
 ·intro x y c h1 h2
  rcases jV h1 with a | ⟨_,a⟩ <;> rcases jV h2 with b | ⟨_,b⟩
  ·exact name_of_addr hco.apart a b
  ·exact absurd (ba5 (Nat.lt_trans (nge a) (clt (cs b))) hC) (bg3 _)
  ·exact absurd (ba5 (Nat.lt_trans (nge b) (clt (cs a))) hC) (bg3 _)
  ·exact I.ok.inj x y c (cs a) (cs b)
 ·intro x hx
  have hx:(relabel scope X.env).names.lookup x=some .cell ∨ (relabel scope X.env).names.lookup x=some .free:=hx
  have fin:(x,NameKind.free) ∈ scope.names->∃ c,(fT X scope C).lookup x=some c:=fun z=>A9 (.inr (tU scope.names [] (.inl z)))
  rcases hx with hx | hx
  ·rcases p6 hx with z | z
   ·exact A9 (.inl (be6 z))
   ·exact fin (be6 z.1)
  ·rcases p6 hx with z | z
   ·exact fin (be6 z)
   ·exact absurd z.2 (by decide)
 ·intro x c hx h
  have hx:(scope.names.lookup x == some NameKind.cell)=true:=hx
  have hx:scope.names.lookup x=some .cell:=by simpa using hx
  rcases jV h with a | ⟨a,_⟩
  ·exact bd4 hC (bi9 (nge a))
  ·obtain ⟨d,hd⟩:=p9 scope.names (C+1) (be6 hx)
   exact absurd hd (a d)
 ·intro b hb
  refine⟨bc7 (ba5 (hfl b hb) hC),fun x c e=>?_⟩
  rcases jV e with a | ⟨_,a⟩
  ·exact bj0 (Nat.lt_trans (ba5 (hfl b hb) hC) (nge a))
  ·exact (hf b hb).2.2.2.2.1 x c (cs a)
 ·intro b o e hb
  rcases (hf b hb).2.2.2.1 with z | z
  ·exact I.ok.noex b o e z
  ·exact absurd (ba5 (ba4 e) (bd4 I.ok.bsz z)) (bg3 _)
 ·intro b hb z
  rcases aZ6.mp (I.stkSub b z) with e | e
  ·exact (hf b hb).2.1 e
  ·exact (hf b hb).2.2.1 e
 ·intro i x v e1 e2 e3
  have e2:(fr.map fun o=>o.bind fun j=>(σ[j]?).join)[i]? = some (some v):=e2
  rw [ba1] at e2
  cases ef:fr[i]? with
  | none=>rw [ef] at e2; cases e2
  | some o=>
   rw [ef] at e2
   cases o with
   | none=>cases e2
   | some j=>
    have e2:some ((σ[j]?).join)=some (some v):=e2
    have ej:σ[j]? = some (some v):=by
     cases q:σ[j]? with
     | none=>rw [q] at e2; cases e2
     | some w=>rw [q] at e2; cases w with
      | none=>cases e2
      | some w=>cases e2; rfl
    obtain ⟨y,a1,a2,a4⟩:=S.from_ i j ef
    have e1:N[i]? = some x:=e1
    rw [e1] at a1
    cases a1
    have a3:(x,NameKind.free) ∈ scope.names:=be6 a4
    have vis:hV X.env.scope x:=(S.free _ a3 rfl).elim (fun z=>.inr (.inl z)) fun z=>.inr (.inr z)
    obtain ⟨m0,hn0,hl0⟩:=I.loc
    obtain ⟨u,r,l⟩:=hl0 j x v a2 ej vis
    refine⟨u,r,.inr ⟨?_,?_⟩⟩
    ·have e3:(relabel scope X.env).names.lookup x=some .local ∨ (relabel scope X.env).names.lookup x=some .cell ∨ (relabel scope X.env).names.lookup x=some .free:=e3
     rcases e3 with z | z | z
     ·rcases p6 z with y | y
      ·rw [a4] at y; cases y
      ·exact absurd y.2 (by decide)
     ·exact .inl z
     ·exact .inr z
    ·obtain ⟨c,hc⟩:=tU (cells:=X.env.cells) scope.names [] (x:=x) (.inl a3)
     refine⟨c,ao5 (fun z=>by have:=S.own _ z rfl; rw [a4] at this; cases this) hc,?_⟩
     have hc':=cs hc
     have S1:=S.free (x,.free) a3 rfl
     rcases l with ⟨k,_⟩ | ⟨_,c2,hc2,z⟩
     ·have k:X.env.scope.names.lookup x=some .local:=k
      rcases S1 with q | q <;> (have q:X.env.scope.names.lookup x=_:=q; rw [k] at q; cases q)
     ·rw [hc'] at hc2; cases hc2
      obtain ⟨oc,ho,hd⟩:=z
      exact⟨oc,old c oc ho,hd⟩
 ·intro x c e
  rcases jV e with a | ⟨_,a⟩
  ·exact⟨_,(hco.empty x c a).1⟩
  ·obtain ⟨v,oc,ho,hd⟩:=I.cell x c (cs a)
   exact⟨v,oc,old c oc ho,hd⟩
 ·show upd H D (.lst []) C=none
  rw [aM (bj0 hDC)]; exact I.hok.fresh hC
 ·intro x c e
  show upd H D (.lst []) c=none
  rcases jV e with a | ⟨_,a⟩
  ·rw [aM (bj0 (Nat.lt_trans hDC (nge a)))]; exact I.hok.fresh (bd4 hC (bi9 (nge a)))
  ·have q:=cs a
   rw [aM (bc7 (ba5 (clt q) hD))]
   exact I.freeC x c q
 ·exact I.hok.laid old hD ⟨be8 _,[],0,.nil,hacc⟩
 ·show (eS fr σ).length=N.length
  unfold eS; rw [ba3]; exact S.len
end
def j4 (X:Cx) (ifs:List Expr) (t:TT):Prop:=
 ∀ (pins:List (Addr × Obj)) (s:Shared) (σ:St) (H:Hp) (Q:Bool->Hp->Prop),a6 X pins σ H s->t σ H Q->
  wpAny (model X.prog X.w) X.A (forIn ifs true fun c r=>if r=true then do let ok <- isTrue c X.env (eval c X.env); pure (ForInStep.yield ok) else pure (ForInStep.yield r)) (TP X pins σ Q) X.xe s
def tX:TT:=fun _ H Q=>Q true H
theorem nA {X:Cx}:j4 X [] tX:=fun _ _ _ H _ I h=>wpAny_tests_nil ⟨H,I,h⟩
theorem B0 {X:Cx}{c:Expr}{t:TT} (h:PT X c t):j4 X [c] t:=fun pins s σ H Q I hq=>wpAny_tests_one (h pins s σ H Q I hq)
section
variable {prog : Program} {w : World} {A : Around}
def tY (prog:Program) (w:World) (A:Around) (elt tg:Expr) (ifs:List Expr) (it acc:Value) (env:Env) (lost:Value->Shared->Prop) (stop next:Shared->Prop) (s:Shared):Prop:=
 let M:=model prog w
 let tests:Sem Bool:=forIn ifs true fun c r=>if r=true then do let ok <- isTrue c env (eval c env); pure (ForInStep.yield ok) else pure (ForInStep.yield r)
 let put:Shared->Prop:=wpAny M A (eval elt env) (fun x=>wpAny M A (call (.builtin "list.append") [acc,x]) (fun _=>next) lost) lost
 let taken:Value->Shared->Prop:=fun v=>wpAny M A (letOwnedTupleGo tg it v) (fun _=>wpAny M A (assign tg env v) (fun _=>wpAny M A tests (fun ok s'=>if ok=true then put s' else next s') lost) lost) lost
 wpAny M A (pyNext it) (fun r s'=>match r with
  | none=>stop s'
  | some v=>taken v s') lost s
theorem ao7 {R:Result->Shared->Prop}{s:Shared}{elt tg iter:Expr}{ifs:List Expr}{scope:Scope}{pos:Pos}{it acc:Value}{env:Env} (I:Nat->Shared->Prop)
  (turn:∀ n s,I n s->tY prog w A elt tg ifs it acc env (notedBy (model prog w) A env fun e=>R (.error e)) (R (.ok .next)) (fun s'=>∃ m,m < n/\I m s') s) (n:Nat) (h:I n s) :
  codeAny (model prog w) A (.compLoop (.ListComp elt [⟨tg,iter,ifs,0⟩] scope pos) 0 it acc env) R s:=by
 apply codeAny_loop rfl I _ n h
 intro k s1 h1
 change wpAny _ A ((compTurn _ 0 it acc env).onRaise (fun x=>do noteFrame x env; theTreesLotGoes x)) _ _ s1
 apply wpAny_noted
 rw [compTurn_list]
 have t:=turn k s1 h1
 unfold tY at t
 apply aY9
 apply wpAny_standAt
 apply aY9
 refine bh9 t (fun r s2 h2=>?_) fun _ _ z=>z
 cases r with
 | none=>exact aZ5 h2
 | some v=>
  apply aY9
  refine bh9 h2 (fun _ s3 h3=>?_) fun _ _ z=>z
  apply aY9
  refine bh9 h3 (fun _ s4 h4=>?_) fun _ _ z=>z
  apply aY9
  refine bh9 h4 (fun ok s5 h5=>?_) fun _ _ z=>z
  cases ok with
  | false=>exact aZ5 ⟨rfl,h5⟩
  | true=>
   apply aY9
   apply aY9
   refine bh9 h5 (fun x s6 h6=>?_) fun _ _ z=>z
   apply aY9
   exact bh9 h6 (fun _ s7 h7=>aZ5 (aZ5 ⟨rfl,h7⟩)) fun _ _ z=>z
end
def nB (g:TG) (tc:TT) (te:TE) (σ0:St) (J:It) (D:Addr) (Q:VK) (W:Nat->Nat->List V->Hp->Prop):Prop:=
 ∀ i m acc H',W i m acc H'->H' D=some (.lst acc)/\((J.stop i H'/\Q (.ref D) H') ∨ (J.go i H'/\∀ x H2,J.yld i H' x H2->g x σ0 H2 fun σ2 H3=>Wk σ0 σ2/\tc σ2 H3 fun b H4=>
  if b=true then te σ2 H4 fun v H5=>H5 D=some (.lst acc)/\acc.length < sizeLine/\∃ m',m' < m/\W (i+1) m' (acc ++ [v]) (upd H5 D (.lst (acc ++ [v]))) else ∃ m',m' < m/\W (i+1) m' acc H4))
def B1 (wi:TI) (fr:List (Option Nat)) (g:TG) (tc:TT) (te:TE):TE:=fun σ H Q=>wi σ H fun J H1=>∀ D,H1 D=none->
 ∃ W:Nat->Nat->List V->Hp->Prop,(∃ m,W 0 m [] (upd H1 D (.lst [])))/\nB g tc te (eS fr σ) J D Q W
section
variable {M : Model} {A : Around} {E : Value → Shared → Prop} {s : Shared}
theorem ao8 {scope:Scope}{globals:Addr}{cl:List (Str × Addr)}{qual:Str}{func:Option Addr}{code:Value}{builtins:Addr}{outer:Env}{Q:Env->Shared->Prop}
  (hQ:∀ h',h'.Ns s.heap.objs.size (fun _=>none)->(∀ b o,s.heap.get? b=some o->h'.get? b=some o)->CellsOk h' (s.heap.objs.size+1) (cellsFrom (s.heap.objs.size+1) scope.names [])->
   Q (newEnv scope s.heap.objs.size globals (cellsFrom (s.heap.objs.size+1) scope.names cl) qual func code (some outer) builtins) { s with heap:=h' }) :
  wpAny M A (newFunctionEnv scope globals cl [] qual func code (some outer) builtins) Q E s:=by
 simp only [newFunctionEnv,Option.isSome_some,if_true]
 refine aY9 (wpAny_alloc ?_)
 refine aY9 (wpAny_layCells _ (fun name kind cells=>by cases hkc:kind == NameKind.cell <;> simp [hkc]) _ _ _ _ ?_)
 have ok:=cellsFrom_ok scope.names (s.heap.push { cls:=.type "dict",data:=.dict #[] }) (s.heap.objs.size+1) [] ⟨fun _ _ hm=>(nomatch hm),bo0⟩ (by rw [bj6]; exact aZ3 _)
 rw [bj6] at ok
 rw [show ({ s with heap:=s.heap.push { cls:=.type "dict",data:=.dict #[] } }:Shared).heap.objs.size=s.heap.objs.size+1 from bj6 ..]
 rw [List.forIn_nil]
 refine aY9 (aZ5 (aZ5 (hQ _ ((Heap.Ns.new s.heap (.type "dict")).keeps (pushCells_keeps _ _)) (fun b o e=>pushCells_keeps _ _ b o (aZ1 _ e)) ok)))
end
section
variable {X : Cx} {pins : List (Addr × Obj)} {σ : St} {H : Hp} {s : Shared} {scope : Scope} {N : List Str} {fr : List (Option Nat)} {tg iter elt : Expr} {ifs : List Expr} {pos : Pos} {wi : TI} {g : TG} {tc : TT} {te : TE}
structure kZ (X:Cx) (scope:Scope) (N:List Str) (tg:Expr) (ifs:List Expr) (elt:Expr) (s:Shared) (H:Hp) (g:TG) (tc:TT) (te:TE):Prop where
 tg:∀ (C:Addr) (fp:List Addr),PG (bN X scope N s H C fp fun _ _=>False) tg g
 ifs:∀ (C:Addr) (fp:List Addr),j4 (bN X scope N s H C fp fun _ _=>False) ifs tc
 elt:∀ (C:Addr) (fp:List Addr),PE (bN X scope N s H C fp fun _ _=>False) elt te
structure pB (X:Cx) (scope:Scope) (N:List Str) (tg:Expr) (ifs:List Expr) (elt:Expr) (g:TG) (tc:TT) (te:TE):Prop where
 tg:∀ (s:Shared) (H:Hp) (C:Addr) (fp:List Addr),PG (bN X scope N s H C fp fun _ _=>False) tg g
 ifs:∀ (s:Shared) (H:Hp) (C:Addr) (fp:List Addr),j4 (bN X scope N s H C fp fun _ _=>False) ifs tc
 elt:∀ (s:Shared) (H:Hp) (C:Addr) (fp:List Addr),PE (bN X scope N s H C fp fun _ _=>False) elt te
theorem pB.at (B:pB X scope N tg ifs elt g tc te) (s:Shared) (H:Hp):kZ X scope N tg ifs elt s H g tc te:=⟨B.tg s H,B.ifs s H,B.elt s H⟩
theorem ao9 {C:Addr}{fp:List Addr}{E:Value->Shared->Prop}{pins':List (Addr × Obj)}{σ':St}{H':Hp}{s':Shared} (I:a6 X pins σ H s) (hf:∀ b ∈ fp,fP X pins H b) (I':a6 (bN X scope N s H C fp E) pins' σ' H' s'):a6 X pins σ H' s':=
 I.call' (ch:=fp) I'.os I'.base I'.hok I'.bare fun b hb=>⟨(hf b hb).2.2.2.1,(hf b hb).2.1,(hf b hb).2.2.2.2.1,(hf b hb).2.2.2.2.2⟩
theorem pC {Rr:Value->Addr->Result->Shared->Prop}{J:It}{fp:List Addr}{it:Addr}{tn:Nat->Heap->Prop}{Q:VK}
  (hc:X.calm=true) (S:cR X scope N fr) (B:kZ X scope N tg ifs elt s H g tc te) (I:a6 X pins σ H s) (T:gR X.prog X.w X.K tg J fp it tn) (hst:tn 0 s.heap) (hf:∀ b ∈ fp,fP X pins H b)
  (h:∀ D,H D=none->∃ W:Nat->Nat->List V->Hp->Prop,(∃ m,W 0 m [] (upd H D (.lst [])))/\nB g tc te (eS fr σ) J D Q W)
  (hend:∀ (D C:Addr) (s':Shared) (H':Hp) (m:Str->Option Value),s.heap.objs.size<=C->s.heap.objs.size<=D->a6 X pins σ H' s'->s'.heap.Ns C m->H' C=none->Q (.ref D) H'->Rr (.ref D) C (.ok .next) s') :
  wpAny (model X.prog X.w) X.A (newList []) (fun acc s₃=>wpAny (model X.prog X.w) X.A (newFunctionEnv scope X.env.globals (dN X.env.cells scope.names []) [] X.env.qual none .none (some X.env)) (fun cenv s₄=>
   codeAny (model X.prog X.w) X.A (.compStart (.ListComp elt [⟨tg,iter,ifs,0⟩] scope pos) 0 (.ref it) acc { cenv with scope:=relabel scope X.env }) (Rr acc cenv.locals) s₄) X.xe s₃) X.xe s:=by
 refine bk8 (ao8 (fun h₁ hns₁ keep₁ hco₁=>?_))
 dsimp only at hns₁ keep₁ hco₁ ⊢
 generalize hH2:s.heap.push { cls:=.type "list",dict:=none,data:=.seq ([]:List Value).toArray }=H2 at hns₁ keep₁ hco₁ ⊢
 have hC:H2.objs.size=s.heap.objs.size+1:=by rw [<- hH2,bj6]
 have hDC:s.heap.objs.size < H2.objs.size:=by rw [hC]; exact Nat.lt_succ_self _
 have hCle:s.heap.objs.size<=H2.objs.size:=by rw [hC]; exact Nat.le_succ _
 have old:∀ b o,s.heap.get? b=some o->h₁.get? b=some o:=fun b o e=>keep₁ b o (hH2 ▸ aZ1 _ e)
 have hacc:h₁.get? s.heap.objs.size=some { cls:=.type "list",data:=.seq #[] 0 }:=keep₁ _ _ (hH2 ▸ bb2 _ rfl)
 have hfl:∀ b ∈ fp,b < s.heap.objs.size:=fun b hb=>by obtain ⟨o,e,_⟩:=T.obj _ _ hst b hb; exact ba4 e
 obtain ⟨W,⟨m0,w0⟩,turn⟩:=h s.heap.objs.size (I.hok.fresh (aZ3 _))
 have st1:tn 0 h₁:=T.keep _ _ _ hst fun b _ o e=>old b o e
 have fr0:∀ b ∈ fp,upd H s.heap.objs.size (.lst []) b=none:=fun b hb=>by rw [aM (bc7 (hfl b hb))]; exact (hf b hb).1
 have stat:∀ {H':Hp},(∀ b ∈ fp,H' b=none)->∀ b ∈ fp,fP (bN X scope N s H H2.objs.size fp fun _ _=>False) [] H' b:=fun {H'} hn b hb=>by
  have f:=hf b hb
  refine⟨hn b hb,bc7 (ba5 (hfl b hb) hCle),fun z=>?_,.inl hb,fun x c e=>(jV e).elim (fun z=>bj0 (Nat.lt_trans (ba5 (hfl b hb) hCle) (hco₁.empty x c z).2)) fun z=>f.2.2.2.2.1 x c (p5 scope.names [] (S.cells I) (fun _ _ z=>by simp at z) z.2),fun p hp=>absurd (show p ∈ ([]:List (Addr × Obj)) from hp) (by simp)⟩
  rcases aZ6.mp (I.stkSub b z) with e | e
  ·exact f.2.1 e
  ·exact f.2.2.1 e
 generalize hX:bN X scope N s H H2.objs.size fp (fun _ _=>False)=Y at stat
 have I0:a6 Y [] (eS fr σ) (upd H s.heap.objs.size (.lst [])) { s with heap:=h₁ }:=hX ▸ ao6 S I hf hfl (aZ3 _) hCle hDC old hns₁ hacc hco₁
 have bt:PG Y tg g:=hX ▸ B.tg H2.objs.size fp
 have bi:j4 Y ifs tc:=hX ▸ B.ifs H2.objs.size fp
 have be:PE Y elt te:=hX ▸ B.elt H2.objs.size fp
 have eP:Y.prog=X.prog:=by rw [<- hX]; rfl
 have ew:Y.w=X.w:=by rw [<- hX]; rfl
 have eK:Y.K=X.K:=by rw [<- hX]; rfl
 have eA:Y.A=X.A:=by rw [<- hX]; rfl
 have eE:Y.env=compEnvC scope (fT X scope H2.objs.size) H2.objs.size X.env:=by rw [<- hX]; rfl
 have eX:Y.xe=fun _ _=>False:=by rw [<- hX]; rfl
 have ec:Y.calm=true:=by rw [<- hX]; exact hc
 have never:∀ {E:Value->Shared->Prop} (e:Value) (s':Shared),Y.xe e s'->E e s':=fun {E} e s' z=>by rw [eX] at z; exact z.elim
 have out:∀ {pins' σ' H' s'},a6 Y pins' σ' H' s'->a6 X pins σ H' s':=fun {_ _ _ _} I'=>ao9 (C:=H2.objs.size) (E:=fun _ _=>False) (scope:=scope) (N:=N) I hf (hX ▸ I')
 have loop:codeAny (model X.prog X.w) X.A (.compLoop (.ListComp elt [⟨tg,iter,ifs,0⟩] scope pos) 0 (.ref it) (.ref s.heap.objs.size) (compEnvC scope (fT X scope H2.objs.size) H2.objs.size X.env))
   (Rr (.ref s.heap.objs.size) H2.objs.size) { s with heap:=h₁ }:=by
  refine ao7 (fun n s'=>∃ i acc H',a6 Y [] (eS fr σ) H' s'/\tn i s'.heap/\(∀ b ∈ fp,H' b=none)/\W i n acc H') ?_ m0 ⟨0,[],_,I0,st1,fr0,w0⟩
  rintro n s3 ⟨i,acc,H3,I3,st3,fr3,w3⟩
  unfold tY
  dsimp only
  obtain ⟨hD3,step⟩:=turn i n acc H3 w3
  rcases step with ⟨stop,qn⟩ | ⟨go,step⟩
  ·have z:=T.done Y eP ew eK ec i [] s3 _ H3 (notedBy (model X.prog X.w) X.A (compEnvC scope (fT X scope H2.objs.size) H2.objs.size X.env) fun e s'=>Rr (.ref s.heap.objs.size) H2.objs.size (.error e) s') I3 (stat fr3) st3 stop
   rw [eA] at z
   refine aJ z fun r s4 ⟨hr,I4⟩=>?_
   subst hr
   obtain ⟨m4,hn4,_⟩:=I4.loc
   rw [eE] at hn4
   have f4:=I4.free
   rw [eE] at f4
   exact hend _ _ s4 H3 m4 hCle (aZ3 _) (out I4) hn4 f4 qn
  ·have z:=T.item Y eP ew eK ec i [] s3 _ H3 (notedBy (model X.prog X.w) X.A (compEnvC scope (fT X scope H2.objs.size) H2.objs.size X.env) fun e s'=>Rr (.ref s.heap.objs.size) H2.objs.size (.error e) s') I3 (stat fr3) st3 go
   rw [eA] at z
   refine aJ z fun r s4 ⟨u,hr,h4⟩=>?_
   subst hr
   refine aJ h4 fun _ s5 ⟨x,H5,I5,r5,y5,st5,fr5⟩=>?_
   have I5':=I5.pinned (stat fr5) (T.obj _ _ st5)
   have q1:=bt _ s5 _ H5 x u _ I5' r5 (step x H5 y5)
   rw [eP,ew,eA,eE] at q1
   refine bh9 q1 (fun _ s6 ⟨σ6,H6,I6,wk,q6⟩=>?_) never
   have q2:=bi _ s6 σ6 H6 _ I6 q6
   rw [eP,ew,eA,eE] at q2
   refine bh9 q2 (fun b s7 ⟨H7,I7,q7⟩=>?_) never
   have again:∀ {H8:Hp}{s8:Shared}{acc':List V},a6 Y ([] ++ mO fp s5.heap) σ6 H8 s8->(∃ m',m' < n/\W (i+1) m' acc' H8)->∃ m,m < n/\∃ i acc H',a6 Y [] (eS fr σ) H' s8/\tn i s8.heap/\(∀ b ∈ fp,H' b=none)/\W i m acc H':=fun {H8 s8 acc'} I8 n8=>by
    obtain ⟨m',hm,w8⟩:=n8
    refine⟨m',hm,i+1,acc',H8,(I8.unpinned).weak wk.1 wk.2,T.keep _ _ _ st5 fun b hb o e=>(I8.pin (b,o) (bc3 _ (bc3 _ (oT hb e)))).1,fun b hb=>?_,w8⟩
    obtain ⟨o,e,d⟩:=T.obj _ _ st5 b hb
    exact (I8.pin (b,o) (bc3 _ (bc3 _ (oT hb e)))).2.1
   cases b with
   | false=>
    rw [if_neg ba7] at q7 ⊢
    exact again I7 q7
   | true=>
    rw [if_pos rfl] at q7 ⊢
    have q3:=be _ s7 σ6 H7 _ I7 q7
    rw [eP,ew,eA,eE] at q3
    refine bh9 q3 (fun v s8 ⟨y,H8,I8,r8,hD8,hz8,q8⟩=>?_) never
    have q4:=kY _ s8 σ6 H8 (.ref s.heap.objs.size) [y] (.ref s.heap.objs.size) [v] (fun _ H9=>∃ m',m' < n/\W (i+1) m' (acc ++ [y]) H9) I8 rfl (.cons r8 .nil) ⟨_,_,_,rfl,rfl,hD8,hz8,q8⟩
    rw [eP,ew,eA] at q4
    exact bh9 q4 (fun _ s9 ⟨_,H9,I9,_,q9⟩=>again I9 q9) never
 exact codeAny_compStart_list loop (T.self _ 0 _ _ _ st1 loop)
end
section
variable {X : Cx} {scope : Scope} {N : List Str} {fr : List (Option Nat)} {tg iter elt : Expr} {ifs : List Expr} {pos : Pos} {wi : TI} {g : TG} {tc : TT} {te : TE}
theorem a6.drop {pins:List (Addr × Obj)}{σ:St}{H H':Hp}{s s':Shared}{C:Addr}{h':Heap} (I0:a6 X pins σ H s) (hC:s.heap.objs.size<=C) {σ':St} (I:a6 X pins σ' H' s') (hn:H' C=none) (sb:Heap.SameBut C s'.heap h'):a6 X pins σ' H' { s' with heap:=h' }:=by
 refine I.turned (t':=s'.toks) (it:=C) (fun b o hb e=>(sb.2 b hb).trans e) hn (bj0 (ba5 I0.lt hC)) (.inr (bd4 I0.sz hC)) (fun x c e z=>?_) fun p hp z=>?_
 ·obtain ⟨v,q⟩:=I0.cell x c e
  exact absurd (ba5 q.lt (by rw [z]; exact hC)) (bg3 _)
 ·exact absurd (ba5 (ba4 (I0.pin p hp).1) (by rw [z]; exact hC)) (bg3 _)
theorem B2 (hc:X.calm=true) (S:cR X scope N fr) (hi:PI X tg iter wi) (B:pB X scope N tg ifs elt g tc te)
  (hs:∀ x,foldedSetIterable iter X.env x=pure x:=by intro _; rfl):PE X (.ListComp elt [⟨tg,iter,ifs,0⟩] scope pos) (B1 wi fr g tc te):=by
 intro pins s σ H Q I h
 rw [eval_ListComp]
 refine wpAny_comprehension_free (use:=none) rfl hs (oZ (S.cells I)) S.kind S.names (aJ (hi pins s σ H _ I h) fun v s1 h1=>aJ h1 fun itv s2 h2=>?_)
 obtain ⟨it,fp,tn,J,H2,e,I2,T,st2,f2,hW⟩:=h2
 subst e
 refine pC (Rr:=fun acc C=>compPost (model X.prog X.w) X.A X.xe none (EP X pins σ Q) acc C) hc S (B.at _ _) I2 T st2 f2 hW ?_
 intro D C s' H' m hC hD I' hns hHC q
 exact⟨m,hns,fun h' sb=>⟨.ref D,H',I2.drop hC I' hHC sb,rfl,q⟩⟩
theorem B3 {i:Nat}{x:Str}{px spos:Pos} (hc:X.calm=true) (S:cR X scope N fr) (hi:PI X tg iter wi) (B:pB X scope N tg ifs elt g tc te) (hN:X.N.Nodup) (hix:X.N[i]? = some x) (hx:X.env.scope.names.lookup x=some .local)
  (hsw:swapsWith (.ListComp elt [⟨tg,iter,ifs,0⟩] scope pos) (some (.Name x px)) spos.line X.env=pure true) (hs:∀ x,foldedSetIterable iter X.env x=pure x:=by intro _; rfl) :
  PS X (.Assign [.Name x px] (.ListComp elt [⟨tg,iter,ifs,0⟩] scope pos) spos) (jT (B1 wi fr g tc te) (cV i)):=by
 intro pins s σ H D I h
 rw [exec_Assign_Name_used _ _ _ _ hsw]
 refine aY9 (wpAny_standAt (aY9 ?_))
 show wpAny _ _ (do let _ <- comprehension (.ListComp elt [⟨tg,iter,ifs,0⟩] scope pos) scope X.env _ (newList []) false (eval iter X.env) (some (assign (.Name x px) X.env))) _ _ s
 refine aY9 (bh9 (wpAny_comprehension_free (Q:=fun _ s'=>SP X pins D .next s') (use:=some (assign (.Name x px) X.env)) rfl hs (oZ (S.cells I)) S.kind S.names (aJ (hi pins s σ H _ I h) fun v s1 h1=>aJ h1 fun itv s2 h2=>?_))
  (fun _ s' hq=>aZ5 (aZ5 hq)) fun _ _ e=>e)
 obtain ⟨it,fp,tn,J,H2,e,I2,T,st2,f2,hW⟩:=h2
 subst e
 refine pC (Rr:=fun acc C=>compPost (model X.prog X.w) X.A X.xe (some (assign (.Name x px) X.env)) (fun _ s'=>SP X pins D .next s') acc C) hc S (B.at _ _) I2 T st2 f2 hW ?_
 intro D' C s' H' m hC hD I' hns hHC q
 refine wpAny_assign_Name (sO I' hN hix (.inl hx) (v:=.ref D') rfl (fun s'' I'' sb=>?_) (.inr hx))
 obtain ⟨a,sb,ha⟩:=sb
 have hCa:C ≠ a:=by
  rcases ha with z | z
  ·rw [z]; exact bj0 (ba5 I2.lt hC)
  ·intro e; subst e
   obtain ⟨v,q⟩:=I2.cell x _ z
   exact absurd (ba5 q.lt hC) (bg3 _)
 exact⟨m,hns.sameBut sb hCa,fun h' sb'=>⟨_,H',I2.drop hC I'' hHC sb',q⟩⟩
variable {gh : Hp → TG} {tch : Hp → TT} {teh : Hp → TE}
def tZ (wi:TI) (fr:List (Option Nat)) (gh:Hp->TG) (tch:Hp->TT) (teh:Hp->TE):TE:=fun σ H Q=>wi σ H fun J H1=>∀ D,H1 D=none->
 ∃ W:Nat->Nat->List V->Hp->Prop,(∃ m,W 0 m [] (upd H1 D (.lst [])))/\nB (gh H1) (tch H1) (teh H1) (eS fr σ) J D Q W
theorem u0 (hc:X.calm=true) (S:cR X scope N fr) (hi:PI X tg iter wi) (B:∀ (s:Shared) (H:Hp),kZ X scope N tg ifs elt s H (gh H) (tch H) (teh H))
  (hs:∀ x,foldedSetIterable iter X.env x=pure x:=by intro _; rfl):PE X (.ListComp elt [⟨tg,iter,ifs,0⟩] scope pos) (tZ wi fr gh tch teh):=by
 intro pins s σ H Q I h
 rw [eval_ListComp]
 refine wpAny_comprehension_free (use:=none) rfl hs (oZ (S.cells I)) S.kind S.names (aJ (hi pins s σ H _ I h) fun v s1 h1=>aJ h1 fun itv s2 h2=>?_)
 obtain ⟨it,fp,tn,J,H2,e,I2,T,st2,f2,hW⟩:=h2
 subst e
 refine pC (Rr:=fun acc C=>compPost (model X.prog X.w) X.A X.xe none (EP X pins σ Q) acc C) hc S (B _ _) I2 T st2 f2 hW ?_
 intro D C s' H' m hC hD I' hns hHC q
 exact⟨m,hns,fun h' sb=>⟨.ref D,H',I2.drop hC I' hHC sb,rfl,q⟩⟩
theorem ap0 {i:Nat}{x:Str}{px spos:Pos} (hc:X.calm=true) (S:cR X scope N fr) (hi:PI X tg iter wi) (B:∀ (s:Shared) (H:Hp),kZ X scope N tg ifs elt s H (gh H) (tch H) (teh H)) (hN:X.N.Nodup) (hix:X.N[i]? = some x) (hx:X.env.scope.names.lookup x=some .local)
  (hsw:swapsWith (.ListComp elt [⟨tg,iter,ifs,0⟩] scope pos) (some (.Name x px)) spos.line X.env=pure true) (hs:∀ x,foldedSetIterable iter X.env x=pure x:=by intro _; rfl) :
  PS X (.Assign [.Name x px] (.ListComp elt [⟨tg,iter,ifs,0⟩] scope pos) spos) (jT (tZ wi fr gh tch teh) (cV i)):=by
 intro pins s σ H D I h
 rw [exec_Assign_Name_used _ _ _ _ hsw]
 refine aY9 (wpAny_standAt (aY9 ?_))
 show wpAny _ _ (do let _ <- comprehension (.ListComp elt [⟨tg,iter,ifs,0⟩] scope pos) scope X.env _ (newList []) false (eval iter X.env) (some (assign (.Name x px) X.env))) _ _ s
 refine aY9 (bh9 (wpAny_comprehension_free (Q:=fun _ s'=>SP X pins D .next s') (use:=some (assign (.Name x px) X.env)) rfl hs (oZ (S.cells I)) S.kind S.names (aJ (hi pins s σ H _ I h) fun v s1 h1=>aJ h1 fun itv s2 h2=>?_))
  (fun _ s' hq=>aZ5 (aZ5 hq)) fun _ _ e=>e)
 obtain ⟨it,fp,tn,J,H2,e,I2,T,st2,f2,hW⟩:=h2
 subst e
 refine pC (Rr:=fun acc C=>compPost (model X.prog X.w) X.A X.xe (some (assign (.Name x px) X.env)) (fun _ s'=>SP X pins D .next s') acc C) hc S (B _ _) I2 T st2 f2 hW ?_
 intro D' C s' H' m hC hD I' hns hHC q
 refine wpAny_assign_Name (sO I' hN hix (.inl hx) (v:=.ref D') rfl (fun s'' I'' sb=>?_) (.inr hx))
 obtain ⟨a,sb,ha⟩:=sb
 have hCa:C ≠ a:=by
  rcases ha with z | z
  ·rw [z]; exact bj0 (ba5 I2.lt hC)
  ·intro e; subst e
   obtain ⟨v,q⟩:=I2.cell x _ z
   exact absurd (ba5 q.lt hC) (bg3 _)
 exact⟨m,hns.sameBut sb hCa,fun h' sb'=>⟨_,H',I2.drop hC I'' hHC sb',q⟩⟩
end
theorem b7 {H:Hp}{p:Addr} (h:H p=none) (o:HO):a9 H (upd H p o):=fun b u q=>by rw [aM (cF q h)]; exact q
theorem a9.tup {K:PySem.W.Frag}{H H':Hp}{a:Addr}{xs:List V} (e:a9 H H') (h:aD K H a xs):aD K H' a xs:=by
 rcases h with (h | ⟨o,h⟩) | h
 ·exact .inl (.inl (e _ _ h))
 ·exact .inl (.inr ⟨o,e _ _ h⟩)
 ·exact .inr h
structure B4 (H:Hp) (J:It) (xs:List V):Prop where
 go:∀ i H',a9 H H'->i < xs.length->J.go i H'
 yld:∀ i H' x H2,a9 H H'->J.yld i H' x H2->i < xs.length->xs[i]? = some x/\H2=H'
 stop:∀ H',a9 H H'->J.stop xs.length H'
theorem B5 {K:PySem.W.Frag}{H:Hp}{a:Addr}{xs:List V} (h:aD K H a xs):B4 H (iX K a) xs:=
 ⟨fun i H' e hi=>⟨xs,xs[i],e.tup h,by simp [hi]⟩,fun i H' x H2 e y hi=>⟨y.2 xs (e.tup h),y.1⟩,fun H' e=>⟨xs,e.tup h,aZ3 _⟩⟩
def iD (lo:Int) (n:Nat):List V:=(List.range n).map fun (i:Nat)=>V.int (lo+(i:Int))
theorem u5 (lo:Int) (n:Nat):(iD lo n).length=n:=by unfold iD; rw [ba3,List.length_range]
def CW (H1:Hp) (D:Addr) (n:Nat) (Pv:Nat->List V->Hp->Prop):Nat->Nat->List V->Hp->Prop:=fun i m acc H'=>m=n - i/\i<=n/\acc.length<=i/\a9 H1 H'/\H' D=some (.lst acc)/\Pv i acc H'
def u6 (H1:Hp) (D:Addr) (n:Nat) (Pv:Nat->List V->Hp->Prop) (i:Nat) (acc:List V) (v:V) (H5:Hp):Prop:=H5 D=some (.lst acc)/\acc.length < sizeLine/\∃ m',m' < n - i/\CW H1 D n Pv (i+1) m' (acc ++ [v]) (upd H5 D (.lst (acc ++ [v])))
def B6 (H1:Hp) (D:Addr) (n:Nat) (Pv:Nat->List V->Hp->Prop) (i:Nat) (acc:List V) (H4:Hp):Prop:=∃ m',m' < n - i/\CW H1 D n Pv (i+1) m' acc H4
structure pD (H1:Hp) (D:Addr) (n i:Nat) (acc:List V) (H':Hp):Prop where
 lt:i < n
 few:acc.length<=i
 sz:n<=sizeLine
 same:a9 H1 H'
 new:H1 D=none
 acc:H' D=some (.lst acc)
theorem pD.yes {H1:Hp}{D:Addr}{n i:Nat}{acc:List V}{H' H5:Hp}{Pv:Nat->List V->Hp->Prop}{v:V} (c:pD H1 D n i acc H') (s:a9 H' H5) (p:Pv (i+1) (acc ++ [v]) (upd H5 D (.lst (acc ++ [v])))):u6 H1 D n Pv i acc v H5:=by
 refine⟨s _ _ c.acc,Nat.lt_of_le_of_lt c.few (ba5 c.lt c.sz),_,?_,rfl,c.lt,?_,fun b o e=>?_,b9,p⟩
 ·have:=c.lt; omega
 ·rw [ba8,bg6]; exact Nat.succ_le_succ c.few
 ·rw [aM (cF e c.new)]; exact s _ _ (c.same _ _ e)
theorem B7 {H1:Hp}{J:It}{xs:List V}{g:TG}{tc:TT}{te:TE}{σ0:St}{Q:VK} (O:B4 H1 J xs) (Pv:Nat->List V->Hp->Prop) (hn:xs.length<=sizeLine)
  (h0:∀ D,H1 D=none->Pv 0 [] (upd H1 D (.lst [])))
  (hs:∀ i x acc D H',xs[i]? = some x->pD H1 D xs.length i acc H'->Pv i acc H'->g x σ0 H' fun σ2 H3=>Wk σ0 σ2/\tc σ2 H3 fun b H4=>
   if b=true then te σ2 H4 fun v H5=>u6 H1 D xs.length Pv i acc v H5 else B6 H1 D xs.length Pv i acc H4)
  (hd:∀ D acc H',H1 D=none->a9 H1 H'->H' D=some (.lst acc)->acc.length<=xs.length->Pv xs.length acc H'->Q (.ref D) H') :
  ∀ D,H1 D=none->∃ W:Nat->Nat->List V->Hp->Prop,(∃ m,W 0 m [] (upd H1 D (.lst [])))/\nB g tc te σ0 J D Q W:=by
 intro D hD
 refine⟨CW H1 D xs.length Pv,⟨xs.length,rfl,be8 _,aZ3 _,b7 hD _,b9,h0 D hD⟩,?_⟩
 rintro i m acc H' ⟨rfl,hi,ha,sm,hDa,p⟩
 refine⟨hDa,?_⟩
 by_cases hlt:i < xs.length
 ·refine .inr ⟨O.go i H' sm hlt,fun x H2 y=>?_⟩
  obtain ⟨hx,e⟩:=O.yld i H' x H2 sm y hlt
  subst e
  exact hs i x acc D H2 hx ⟨hlt,ha,hn,sm,hD,hDa⟩ p
 ·have e:i=xs.length:=by omega
  subst e
  exact .inl ⟨O.stop H' sm,hd D acc H' hD sm hDa ha p⟩
end L2
namespace Srt
open PySem PySem.W PyProof.Rows
abbrev G (p:Array Nat) (i:Nat):Nat:=p.getD i 0
def PP (n:Nat) (p:Array Nat):Prop:=p.toList.Perm (List.range n)
structure B8 (c:Nat->Nat->Bool):Prop where
 asym:∀ {i j},c i j=true->c j i=false
 ntr:∀ {i j k},c i j=false->c j k=false->c i k=false
section
variable {c : Nat → Nat → Bool} (O : B8 c)
def Le (c:Nat->Nat->Bool) (i j:Nat):Prop:=c j i=false
include O
theorem le_refl (i:Nat):Le c i i:=by
 unfold Le
 cases h:c i i with
 | false=>rfl
 | true=>have:=O.asym h; rw [h] at this; exact this
theorem le_trans {i j k:Nat} (h1:Le c i j) (h2:Le c j k):Le c i k:=O.ntr h2 h1
end
end Srt
namespace L2
open PySem PySem.Spec PyProof.Rows
theorem nC:∀ {xs:List V}{us:List Value} (i:Nat),i < xs.length->aH xs us->aO (xs.getD i .non) (us.getD i Value.none)
 | _,_,_,h,.nil=>by simp at h
 | _,_,0,_,.cons r _=>by simpa using r
 | _,_,i+1,h,.cons _ t=>by
  have:=nC i (by simpa using h) t
  simpa using this
theorem pE {α:Type}:∀ l:List α,(l.zip l).map (·.2)=l
 | []=>rfl
 | a :: l=>by
  show a :: ((l.zip l).map (·.2))=a :: l
  rw [pE l]
theorem ap1 {prog:Program}{w:World}{A:Around}{E:Value->Shared->Prop}{s:Shared}{a:Addr}{vs:List Value}{n:Nat}{P:PySem.Fin->Shared->Prop} (e:s.heap.get? a=some (seqObj "list" vs.toArray n)) (few:vs.length < 2)
  (q:P (.done (.ret .none)) { s with heap:=sortedHeap s.heap a vs vs.toArray }):wpAny (model prog w) A (Builtin.«list.sort» ⟨[.ref a],[]⟩) P E s:=by
 have big:vs.length<=sizeLine:=bd4 (bi9 few) (by decide)
 have la:=ba4 e
 have c:vs.toArray.size < 2:=by simpa using few
 have same:(arrOf (SortSt.mk' general' (vs.toArray.zip vs.toArray) #[] 7 none)).map (·.2)=vs.toArray:=by
  change (vs.toArray.zip vs.toArray).map (·.2)=vs.toArray
  apply Array.ext'
  simpa using pE vs
 obtain ⟨k,ek⟩:∃ k,(s.heap.update a (Obj.mapSeq fun _=>#[])).get? a=some (seqObj "list" #[] k):=⟨_,get?_update_seq e fun _=>#[]⟩
 have there:(((s.heap.update a (Obj.mapSeq fun _=>#[])).push (seqObj "tuple" vs.toArray 0)).push (seqObj "list" #[] 0)).get? a=some (seqObj "list" #[] k):=
  aZ1 _ (aZ1 _ ek)
 rw [list_sort_plain]
 apply aY9
 apply listItems_at e rfl
 apply aY9
 refine listUpdate_at e rfl ?_ (by simpa using big) (be8 _)
 apply aY9
 apply seqEpoch_at ek rfl
 apply aY9
 refine wpAny_newTuple ?_ big
 apply aY9
 refine wpAny_newList ?_ (be8 _)
 apply bh7
 simp only [c,if_true,StateT.run_pure]
 apply aY9
 apply aZ5
 apply aY9
 apply aZ5
 apply aY9
 apply seqEpoch_at there rfl
 apply aY9
 refine listUpdate_at there rfl ?_ (be8 _) (by rw [same,aZ2]; exact Nat.le_succ_of_le big)
 rw [same]
 simp only [bne_self_eq_false,bc4,bi7]
 exact aZ5 q
theorem B9 {prog:Program}{w:World}{A:Around}{E:Value->Shared->Prop}{s:Shared}{l:Addr}{vs:List Value}{Q:Value->Shared->Prop} (hl:s.heap.IsList l vs.toArray) (few:vs.length < 2)
  (q:Q (.ref (s.heap.objs.size+1)) { s with heap:=sortedAll s.heap vs vs.toArray }):wpAny (model prog w) A (call (.builtin "sorted") [.ref l]) Q E s:=by
 have big:vs.length<=sizeLine:=bd4 (bi9 few) (by decide)
 apply Calls.call_function_entry kind_sorted plain_sorted entry_sorted (args_sorted1 _)
 simp only [Builtin.«sorted»]
 apply aY9 (m:=checkCount "sorted" 1 1 _)
 apply aZ5
 apply aY9
 refine collect_list hl ?_ big
 apply aY9
 refine wpAny_newList ?_ big
 have one:((s.heap.push (seqObj "list" #[] 0)).update s.heap.objs.size (Obj.mapSeq (· ++ vs.toArray))).objs.size=s.heap.objs.size+1:=(Heap.size_update _ _ _).trans (size_push' _ _)
 have at1:(((s.heap.push (seqObj "list" #[] 0)).update s.heap.objs.size (Obj.mapSeq (· ++ vs.toArray))).push (seqObj "list" vs.toArray 0)).get? (s.heap.objs.size+1)=some (seqObj "list" vs.toArray 0):=one ▸ bb2 _ rfl
 change wpAny _ _ _ _ _ { s with heap:=((s.heap.push (seqObj "list" #[] 0)).update s.heap.objs.size (Obj.mapSeq (· ++ vs.toArray))).push (seqObj "list" vs.toArray 0) }
 rw [one]
 apply aY9
 apply bh7
 refine bi1 slot_list_sort ⟨_,at1,rfl⟩ entry_list_sort ?_ (args_list_sort _)
 refine ap1 at1 few ⟨_,rfl,?_⟩
 exact aZ5 ⟨_,rfl,q⟩
theorem jW:∀ {a b:List Int},HT.aQ a b=true->HT.aQ b a=false
 | [],[],h=>by cases h
 | [],_ :: _,_=>rfl
 | _ :: _,[],h=>by cases h
 | x :: xs,y :: ys,h=>by
  rw [HT.g9] at h ⊢
  by_cases e:x=y
  ·rw [if_pos e] at h; rw [if_pos e.symm]; exact jW h
  ·rw [if_neg e] at h; rw [if_neg (Ne.symm e)]
   have:=bl1 h
   exact aZ8 (by omega)
theorem nD:∀ {a b c:List Int},HT.aQ a b=false->HT.aQ b c=false->HT.aQ a c=false
 | [],[],c,_,h=>h
 | [],_ :: _,_,h,_=>by cases h
 | _ :: _,[],[],_,_=>rfl
 | _ :: _,[],_ :: _,_,h=>by cases h
 | _ :: _,_ :: _,[],_,_=>rfl
 | x :: xs,y :: ys,z :: zs,h1,h2=>by
  rw [HT.g9] at h1 h2 ⊢
  by_cases e1:x=y
  ·rw [if_pos e1] at h1
   by_cases e2:y=z
   ·rw [if_pos e2] at h2; rw [if_pos (e1.trans e2)]; exact nD h1 h2
   ·rw [if_neg e2] at h2; rw [if_neg (by rw [e1]; exact e2)]; rw [e1]; exact h2
  ·rw [if_neg e1] at h1
   have k1:=bk4 h1
   by_cases e2:y=z
   ·rw [<- e2,if_neg e1]; exact h1
   ·rw [if_neg e2] at h2
    have k2:=bk4 h2
    rw [if_neg (by omega)]
    exact aZ8 (by omega)
theorem u7:∀ {a b:List Int},HT.aQ a b=false->HT.aQ b a=false->a=b
 | [],[],_,_=>rfl
 | [],_ :: _,h,_=>by cases h
 | _ :: _,[],_,h=>by cases h
 | x :: xs,y :: ys,h1,h2=>by
  rw [HT.g9] at h1 h2
  by_cases e:x=y
  ·rw [if_pos e] at h1; rw [if_pos e.symm] at h2; rw [e,u7 h1 h2]
  ·rw [if_neg e] at h1; rw [if_neg (Ne.symm e)] at h2
   have:=bk4 h1
   have:=bk4 h2
   omega
def C0 (H:Hp):V->List Int
 | .ref b=>match H b with
  | some (.tup xs)=>xs.map fun x=>match x with
   | .int i=>i
   | _=>0
  | _=>[]
 | _=>[]
section
variable {prog : Program} {w : World} {A : Around} {s : Shared} {Q : Bool → Shared → Prop}
theorem C1:∀ {us ws:List Value}{xs ys:List Int} (i:Nat),IntsAre us xs->IntsAre ws ys->Q (HT.aQ xs ys) s->PySem.W.KatLex prog w A true (decide (us.length < ws.length)) Q (us.zip ws) i s
 | _,_,_,_,_,.nil,.nil,h=>h
 | _,_,_,_,_,.nil,.cons _ _ _,h=>h
 | _,_,_,_,_,.cons _ _ _,.nil,h=>h
 | _,_,_,_,i,.cons (vs:=us) x t hx,.cons (vs:=ws) y u hy,h=>by
  refine PySem.W.kat_cons (wpAny_eqBool_int ?_)
  rw [HT.g9] at h
  by_cases e:x=y
  ·rw [if_pos e] at h
   have eb:(x == y)=true:=by simpa using e
   rw [eb]
   refine PySem.W.kat_yes ?_
   have e2:decide ((Value.int x t :: us).length < (Value.int y u :: ws).length)=decide (us.length < ws.length):=by simp
   rw [e2]
   exact C1 (i+1) hx hy h
  ·rw [if_neg e] at h
   have eb:(x == y)=false:=by simpa using e
   rw [eb]
   refine PySem.W.kat_no ?_
   cases hi:(true && i == 0) with
   | true=>exact PySem.W.kat_lt_int h
   | false=>exact PySem.W.kat_one _ _ (lt_int h)
end
section
variable {X : Cx}
theorem ap2:cK X (.builtin "isinstance") (fun xs H Q=>∃ x t n b,xs = [x,.ty n]/\eO X.K H x t/\PySem.W.kitOne X.K t (.type n)=some b/\Q (.bl b) H):=by
 intro pins s σ H xs us Q I r h
 obtain ⟨x,t,n,b,rfl,ty,e,q⟩:=h
 obtain ⟨u,u',rfl,ru,ru'⟩:=mS r
 cases ru'
 exact aj1 I ru ty e fun tk=>⟨.bl b,H,I.tok tk,rfl,q⟩
end
def C2 (outer:List (Str × NameKind)) (XN:List Str) (names:List (Str × NameKind)) (N:List Str) (fr:List (Option Nat)):Bool:=
 names.all (fun y=>!(y.2 == .cell) || names.lookup y.1 == some .cell) && names.all (fun y=>!(y.2 == .local) || names.lookup y.1 == some .local) &&
 names.all (fun y=>!(y.2 == .free) || (outer.lookup y.1 == some .cell || outer.lookup y.1 == some .free)) && fr.length == N.length &&
 (fr.zip N).all (fun p=>match p.1 with
  | none=>true
  | some j=>XN[j]? == some p.2 && names.lookup p.2 == some .free)
theorem cR.of {X:Cx}{scope:Scope}{N:List Str}{fr:List (Option Nat)} (hk:scope.kind = .function) (h:C2 X.env.scope.names X.N scope.names N fr=true):cR X scope N fr:=by
 unfold C2 at h
 simp only [bf3] at h
 obtain ⟨⟨⟨⟨h1,h2⟩,h3⟩,h4⟩,h5⟩:=h
 refine⟨hk,fun y hy e=>?_,fun y hy e=>?_,fun y hy e=>?_,by simpa using h4,fun i j e=>?_⟩
 ·have:=bi2.mp h1 y hy
  rw [e] at this; simpa using this
 ·have:=bi2.mp h2 y hy
  rw [e] at this; simpa using this
 ·have:=bi2.mp h3 y hy
  rw [e] at this; simpa using this
 ·have hl:fr.length=N.length:=by simpa using h4
  have hi:i < fr.length:=(aZ9.mp e).1
  have m:(some j,N[i]'(by omega)) ∈ fr.zip N:=by
   have:(fr.zip N)[i]? = some (some j,N[i]'(by omega)):=by
    rw [List.getElem?_zip_eq_some]
    exact⟨e,by simp⟩
   exact bb4 this
  have:=bi2.mp h5 _ m
  simp only [bf3,beq_iff_eq] at this
  exact⟨N[i]'(by omega),by simp,this.1,this.2⟩
theorem C3 {n:Option V}{r:St}{v:V}:Wk (none :: r) (some v :: r):=(Wk.refl (none :: r)).set (i:=0) rfl
def l8 (H:Hp) (ys:List V) (ls:List (Int × Int)):Prop:=Paired (fun y l=>∃ b,y = .ref b/\H b=some (.tup [.int l.1,.int l.2])) ys ls
structure C4 (H:Hp) (v:V) (ws:List Int) (ls:List (Int × Int)):Prop where
 at_:∃ a p q ys,v = .ref a/\H a=some (.tup [.ref p,.ref q])/\H p=some (.tup (ws.map V.int))/\H q=some (.tup ys)/\l8 H ys ls
theorem l8.get {H:Hp}:∀ {ys:List V}{ls:List (Int × Int)}{i:Nat}{y:V},l8 H ys ls->ys[i]? = some y->∃ l b,ls[i]? = some l/\y = .ref b/\H b=some (.tup [.int l.1,.int l.2])
 | _,_,_,_,.nil,e=>by simp at e
 | _,_,0,_,.cons (b:=l) ⟨b,h1,h2⟩ _,e=>by simp at e; subst e; exact⟨l,b,rfl,h1,h2⟩
 | _,_,i+1,_,.cons _ t,e=>by
  obtain ⟨l,b,h1,h2⟩:=l8.get (i:=i) t (by simpa using e)
  exact⟨l,b,by simpa using h1,h2⟩
def bJ (ls:List (Int × Int)) (k:Int):List Int:=ls.flatMap fun l=>(if l.1=k then [l.2] else []) ++ (if l.2=k then [l.1] else [])
theorem ap3 (ls:List (Int × Int)) (l:Int × Int) (k:Int):bJ (ls ++ [l]) k=bJ ls k ++ ((if l.1=k then [l.2] else []) ++ (if l.2=k then [l.1] else [])):=by
 unfold bJ; rw [List.flatMap_append]; simp
theorem C5 {ls:List (Int × Int)}{i:Nat}{l:Int × Int} (h:ls[i]? = some l) (k:Int):bJ (ls.take (i+1)) k=bJ (ls.take i) k ++ ((if l.1=k then [l.2] else []) ++ (if l.2=k then [l.1] else [])):=by
 rw [bd6,h]; exact ap3 _ _ _
structure gC (H H':Hp) (r:Addr) (bs:List Addr) (f:Nat->List Int):Prop where
 new:H r=none
 news:∀ b ∈ bs,H b=none/\b ≠ r
 nd:bs.Nodup
 row:H' r=some (.lst (bs.map V.ref))
 rows:∀ (k:Nat) (b:Addr),bs[k]? = some b->H' b=some (.lst ((f k).map V.int))
 same:a9 H H'
theorem gC.congr {H H':Hp}{r:Addr}{bs:List Addr}{f g:Nat->List Int} (h:gC H H' r bs f) (e:∀ k,k < bs.length->f k=g k):gC H H' r bs g:=
 ⟨h.new,h.news,h.nd,h.row,fun k b hb=>by rw [<- e k (aZ9.mp hb).1]; exact h.rows k b hb,h.same⟩
theorem gC.app {H H':Hp}{r:Addr}{bs:List Addr}{f:Nat->List Int} (h:gC H H' r bs f) {k:Nat}{b:Addr} (hb:bs[k]? = some b) (x:Int) :
  gC H (upd H' b (.lst ((f k).map V.int ++ [V.int x]))) r bs (fun j=>if j=k then f j ++ [x] else f j):=by
 have hm:b ∈ bs:=bb4 hb
 refine⟨h.new,h.news,h.nd,by rw [aM (Ne.symm (h.news b hm).2)]; exact h.row,fun j c hc=>?_,fun c o e=>by rw [aM (cF e (h.news b hm).1)]; exact h.same c o e⟩
 by_cases hj:j=k
 ·subst hj
  rw [hb] at hc; cases hc
  rw [b9,if_pos rfl]; simp
 ·rw [if_neg hj]
  have ne:c ≠ b:=fun z=>by
   subst z
   obtain ⟨i1,e1⟩:=aZ9.mp hb
   obtain ⟨i2,e2⟩:=aZ9.mp hc
   refine hj (Nat.le_antisymm (Nat.le_of_not_lt fun z=>?_) (Nat.le_of_not_lt fun z=>?_))
   ·exact bd3.mp h.nd _ _ i1 i2 z (e1.trans e2.symm)
   ·exact bd3.mp h.nd _ _ i2 i1 z (e2.trans e1.symm)
  rw [aM ne]; exact h.rows j c hc
theorem l9 (ls:List (Int × Int)) (k:Int):(bJ ls k).length<=2 * ls.length:=by
 induction ls with
 | nil=>exact aZ3 _
 | cons l r ih=>
  have e:bJ (l :: r) k=((if l.1=k then [l.2] else []) ++ (if l.2=k then [l.1] else [])) ++ bJ r k:=rfl
  rw [e,ba8,ba8,bd5]
  have h1:(if l.1=k then [l.2] else []).length<=1:=by split <;> simp
  have h2:(if l.2=k then [l.1] else []).length<=1:=by split <;> simp
  omega
theorem jX {α:Type}{xs:List α}{i:Int}{v:α} (h0:0<=i) (h:xs[i.toNat]? = some v):atI xs i=some v:=by
 have:=iZ h
 rwa [show ((i.toNat:Nat):Int)=i by omega] at this
theorem gD {n:Nat} (h:n<=16000000):n < sizeLine:=by rw [sizeLine_eq]; omega
theorem nE {σ:St}{H:Hp}{A B:Hp->Prop} (h:A H):tX σ H fun b H4=>if b=true then A H4 else B H4:=by
 show if true=true then A H else B H
 rw [if_pos rfl]; exact h
theorem nF {K:PySem.W.Frag}{H:Hp}{p:Addr}{xs:List V} (h:aG K H p xs):gB K "list" (.ref p) H:=.inl ⟨rfl,xs,h⟩
def nG (H:Hp) (y:V):Int × Int:=match C0 H y with
 | [a,b]=>(a,b)
 | _=>(0,0)
theorem pF {H:Hp}:∀ {zs:List V},(∀ y ∈ zs,∃ b,y = .ref b/\H b=some (.tup [.int (nG H y).1,.int (nG H y).2])/\C0 H y = [(nG H y).1,(nG H y).2])->l8 H zs (zs.map (nG H))
 | [],_=>.nil
 | y :: zs,h=>by
  obtain ⟨b,e,hb,_⟩:=h y bb1
  exact .cons ⟨b,e,hb⟩ (pF fun z hz=>h z (bb0 _ hz))
theorem C6 (ns:List Int) (lo hi:Option Int):∃ ms:List Int,dE (ns.map V.int) lo hi=ms.map V.int/\ms.length<=ns.length:=by
 unfold dE
 refine⟨_,by rw [<- List.map_drop,<- List.map_take],?_⟩
 rw [bh3,bf8]; omega
end L2
namespace Zp
open PySem PyProof.Rows
section
variable {prog : Program} {w : World} {A : Around} {E : Value → Shared → Prop} {s : Shared}
theorem C7 {it t:Addr}{i:Nat}{items:Array Value}{x:Value}{Q:Value->Shared->Prop} (hi:s.heap.IsTupleIter it t i) (ht:s.heap.IsTuple t items) (hx:items[i]? = some x)
  (q:∀ h',h'.IsTupleIter it t (i+1)->Heap.SameBut it s.heap h'->Q x { s with heap:=h' }):wpAny (model prog w) A (Builtin.SmallTypes.nextOf (.ref it)) Q E s:=by
 have T:=hi.typeIs
 obtain ⟨o,e1,e2,e3⟩:=hi
 obtain ⟨u,f1,_,k,f3⟩:=ht
 have slot:=PySem.F.slot_tuple_iterator_next
 have isref:(Value.ref t == Value.none)=false:=rfl
 unfold Builtin.SmallTypes.nextOf
 apply aY9
 apply bh4 (name:=Str.ofString "__next__") T slot
 apply bi1 slot T PySem.F.entry_tuple_iterator_next _ (PySem.F.args_tuple_iterator_next_1 _)
 change wpAny _ _ (field (.ref it) 0 >>= _) _ _ s
 apply aY9
 refine bf4 e1 e3 (x:=.ref t) rfl ?_
 change wpAny _ _ (if (Value.ref t == Value.none)=true then _ else _) _ _ s
 simp only [isref,bc4,bi7]
 change wpAny _ _ (field (.ref it) 1 >>= _) _ _ s
 apply aY9
 refine bf4 e1 e3 (x:=.int i 0) rfl ?_
 change wpAny _ _ (seqItems? (.ref t) >>= _) _ _ s
 apply aY9
 apply bj7 f1 f3
 simp only [be3,hx]
 apply aY9
 refine wpAny_setField e1 e3 (by simp) ?_
 apply aZ5
 refine⟨x,rfl,aZ5 (q _ ⟨_,bn7 _ e1 (Obj.isFreed_of_fields (Obj.data_mapFields e3 _)),?_,?_⟩ (Heap.SameBut.update ..))⟩
 ·rw [Obj.cls_mapFields]; exact e2
 ·rw [Obj.data_mapFields e3]; simp [rawInt]
theorem C8 {it t:Addr}{i:Nat}{items:Array Value}{Q:Value->Shared->Prop} (hh:A.handled=none) (hi:s.heap.IsTupleIter it t i) (ht:s.heap.IsTuple t items) (hx:items[i]? = none)
  (q:∀ h' e,Heap.ExtBut it s.heap h'->(∃ o,h'.get? e=some o/\o.cls = .type "StopIteration")->E (.ref e) { s with heap:=h' }):wpAny (model prog w) A (Builtin.SmallTypes.nextOf (.ref it)) Q E s:=by
 have T:=hi.typeIs
 obtain ⟨o,e1,e2,e3⟩:=hi
 obtain ⟨u,f1,_,k,f3⟩:=ht
 have slot:=PySem.F.slot_tuple_iterator_next
 have isref:(Value.ref t == Value.none)=false:=rfl
 unfold Builtin.SmallTypes.nextOf
 apply aY9
 apply bh4 (name:=Str.ofString "__next__") T slot
 apply bi1 slot T PySem.F.entry_tuple_iterator_next _ (PySem.F.args_tuple_iterator_next_1 _)
 change wpAny _ _ (field (.ref it) 0 >>= _) _ _ s
 apply aY9
 refine bf4 e1 e3 (x:=.ref t) rfl ?_
 change wpAny _ _ (if (Value.ref t == Value.none)=true then _ else _) _ _ s
 simp only [isref,bc4,bi7]
 change wpAny _ _ (field (.ref it) 1 >>= _) _ _ s
 apply aY9
 refine bf4 e1 e3 (x:=.int i 0) rfl ?_
 change wpAny _ _ (seqItems? (.ref t) >>= _) _ _ s
 apply aY9
 apply bj7 f1 f3
 simp only [be3,hx]
 apply aY9
 apply bm5
 apply aY9
 refine wpAny_setField e1 e3 (by simp) ?_
 apply aY9
 simp only [newExc,newTuple]
 apply aY9
 refine bk8 ?_ (by size_fits)
 apply aY9
 refine wpAny_of_eq (a:=Value.none) (by first | rfl | (simp only [firstArgMember]; rfl)) ?_
 refine bk8 ?_ (by size_fits)
 unfold raiseNew
 apply aY9
 apply wpAny_handled
 have quiet:A.in1.handled=none:=hh
 rw [quiet]
 refine wpAny_throw ?_
 exact q _ _ (((Heap.SameBut.update ..).extBut.push _).push _) ⟨_,bb2 _ rfl,rfl⟩
theorem ap4 (hh:A.handled=none) (it t:Addr) (ne:t ≠ it) (items:Array Value):Draws prog w A it [it,t] items.size (fun i v=>items[i]? = some v) (fun i h=>h.IsTupleIter it t i/\h.IsTuple t items) where
 live:=fun _ _ st=>st.1.elim fun o y=>⟨o,y.1⟩
 frame:=fun _ _ _ st k=>⟨st.1.at fun o e=>k it bb1 o e,st.2.elim fun o y=>⟨o,k t (bb0 _ bb1) o y.1,y.2⟩⟩
 item:=fun i s Q E lt st q=>C7 st.1 st.2 (Array.getElem?_eq_getElem lt) fun h' again sb=>q _ h' s.toks (Array.getElem?_eq_getElem lt) ⟨again,st.2.elim fun o y=>⟨o,sb.extBut t o ne y.1,y.2⟩⟩ sb
 done:=fun s Q E st q=>C8 hh st.1 st.2 (Array.getElem?_eq_none (aZ3 _)) q
end
structure Ap (z TI TO i1 i2:Addr) (fp1 fp2:List Addr):Prop where
 TIz:TI ≠ z
 TOz:TO ≠ z
 TITO:TI ≠ TO
 z1:z ∉ fp1
 z2:z ∉ fp2
 o1:TO ∉ fp1
 o2:TO ∉ fp2
 t1:TI ∉ fp1
 t2:TI ∉ fp2
 m1:i1 ∈ fp1
 m2:i2 ∈ fp2
 n1:i1 ∉ fp2
 n2:i2 ∉ fp1
structure u8 (z TI TO i1 i2:Addr) (St1 St2:Nat->Heap->Prop) (f0:Value) (i j:Nat) (h:Heap):Prop where
 zz:IsZip h z TI TO f0
 ti:IsPair h TI (.ref i1) (.ref i2)
 to_:∃ a b,IsPair h TO a b
 s1:St1 i h
 s2:St2 j h
section
variable {prog : Program} {w : World} {A : Around} {E : Value → Shared → Prop} {s : Shared} {z TI TO i1 i2 : Addr} {fp1 fp2 : List Addr} {n1 n2 : Nat} {P1 P2 : Nat → Value → Prop} {St1 St2 : Nat → Heap → Prop}
theorem lA (ap:Ap z TI TO i1 i2 fp1 fp2) {b:Addr} (h:b ∉ fp1):b ≠ i1:=fun e=>h (e ▸ ap.m1)
theorem pG (ap:Ap z TI TO i1 i2 fp1 fp2) {b:Addr} (h:b ∉ fp2):b ≠ i2:=fun e=>h (e ▸ ap.m2)
theorem item (D1:Draws prog w A.in1 i1 fp1 n1 P1 St1) (D2:Draws prog w A.in1 i2 fp2 n2 P2 St2) (ap:Ap z TI TO i1 i2 fp1 fp2) {i:Nat} (l1:i < n1) (l2:i < n2) (st:u8 z TI TO i1 i2 St1 St2 .none i i s.heap) {Q:Option Value->Shared->Prop}
  (q:∀ x y h' tk,P1 i x->P2 i y->u8 z TI TO i1 i2 St1 St2 (rawInt s.heap.objs.size) (i+1) (i+1) h'->IsPair h' s.heap.objs.size x y->(∀ c o,c ≠ z->c ≠ TO->c ≠ i1->c ≠ i2->s.heap.get? c=some o->h'.get? c=some o)->
   h'.objs.size=s.heap.objs.size+1->Q (some (.ref s.heap.objs.size)) { s with heap:=h',toks:=tk }):wpAny (model prog w) A (pyNext (.ref z)) Q E s:=by
 obtain ⟨hz,hti,⟨a,b,hto⟩,h1,h2⟩:=st
 have T:s.TypeIs (.ref z) "zip":=⟨_,hz,rfl⟩
 have slot:=PySem.F.slot_zip_next
 unfold pyNext
 apply aY9
 apply wpAny_attempt
 apply bh4 (name:=Str.ofString "__next__") T slot
 apply bi1 slot T PySem.F.entry_zip_next _ (PySem.F.args_zip_next_1 _)
 change wpAny _ _ (field (.ref z) 2 >>= _) _ _ _
 apply aY9
 refine bf4 hz rfl (x:=.bool false) rfl ?_
 change wpAny _ _ (field (.ref z) 3 >>= _) _ _ _
 apply aY9
 refine bf4 hz rfl (x:=.ref TI) rfl ?_
 apply aY9
 apply bj7 hti rfl
 change wpAny _ _ (Builtin.SmallTypes.ownedTupleIsFree (.ref z) >>= _) _ _ _
 apply aY9
 unfold Builtin.SmallTypes.ownedTupleIsFree
 apply aY9
 refine bf4 hz rfl (x:=.none) rfl (aZ5 ?_)
 simp only [if_true]
 apply aY9
 apply bm5
 apply aY9
 refine bf4 hz rfl (x:=.ref TO) rfl ?_
 apply aY9
 refine bg4 hz (by simp) fun g1 hz1 sb1=>?_
 have k1:∀ c o,c ≠ z->s.heap.get? c=some o->g1.get? c=some o:=fun c o c1 e=>sb1.extBut c o c1 e
 apply aY9
 simp only [List.zipIdx_cons,List.zipIdx_nil,List.forIn_cons,List.forIn_nil]
 apply aY9
 apply aY9
 apply wpAny_onRaise
 change wpAny _ _ (Builtin.SmallTypes.nextOf (.ref i1) >>= _) _ _ _
 apply aY9
 refine D1.item i { s with heap:=g1 } _ _ l1 (D1.frame _ _ _ h1 fun c hc o e=>k1 c o (fun y=>ap.z1 (y ▸ hc)) e) fun x g2 tk2 px st1 sb2=>aZ5 ?_
 have k2:∀ c o,c ≠ z->c ≠ i1->s.heap.get? c=some o->g2.get? c=some o:=fun c o c1 c2 e=>sb2.extBut c o c2 (k1 c o c1 e)
 have to2:IsPair g2 TO a b:=k2 _ _ ap.TOz (lA ap ap.o1) hto
 apply aY9
 apply bj7 to2 rfl
 apply aY9
 refine wpAny_updateSeq_pair to2 fun g3 to3 sb3=>?_
 have to3:IsPair g3 TO x b:=to3
 apply aY9
 apply wpAny_letGo
 apply aZ5
 apply aY9
 apply aY9
 apply wpAny_onRaise
 change wpAny _ _ (Builtin.SmallTypes.nextOf (.ref i2) >>= _) _ _ _
 apply aY9
 have k3:∀ c o,c ≠ z->c ≠ i1->c ≠ TO->s.heap.get? c=some o->g3.get? c=some o:=fun c o c1 c2 c3 e=>sb3.extBut c o c3 (k2 c o c1 c2 e)
 refine D2.item i { s with heap:=g3,toks:=tk2 } _ _ l2 (D2.frame _ _ _ h2 fun c hc o e=>k3 c o (fun y=>ap.z2 (y ▸ hc)) (fun y=>ap.n1 (y ▸ hc)) (fun y=>ap.o2 (y ▸ hc)) e) fun y g4 tk4 py st2 sb4=>aZ5 ?_
 have to4:IsPair g4 TO x b:=sb4.extBut _ _ (pG ap ap.o2) to3
 apply aY9
 apply bj7 to4 rfl
 apply aY9
 refine wpAny_updateSeq_pair to4 fun g5 to5 sb5=>?_
 have to5:IsPair g5 TO x y:=to5
 apply aY9
 apply wpAny_letGo
 apply aZ5
 apply aZ5
 apply aY9
 apply bj7 to5 rfl
 apply aY9
 refine wpAny_newTuple ?_ (by show 2<=sizeLine; decide)
 have size:g5.objs.size=s.heap.objs.size:=by rw [sb5.1,sb4.1,sb3.1,sb2.1,sb1.1]
 have k5:∀ c o,c ≠ z->c ≠ TO->c ≠ i1->c ≠ i2->s.heap.get? c=some o->g5.get? c=some o:=fun c o c1 c2 c3 c4 e=>sb5.extBut c o c2 (sb4.extBut c o c4 (k3 c o c1 c3 c2 e))
 have z5:IsZip g5 z TI TO .ellipsis:=sb5.extBut _ _ (Ne.symm ap.TOz) (sb4.extBut _ _ (pG ap ap.z2) (sb3.extBut _ _ (Ne.symm ap.TOz) (sb2.extBut _ _ (lA ap ap.z1) hz1)))
 change wpAny _ _ (Builtin.SmallTypes.ownedTupleHandOut (.ref z) (.ref g5.objs.size) >>= _) _ _ _
 apply aY9
 unfold Builtin.SmallTypes.ownedTupleHandOut
 apply aY9
 have z6:IsZip (g5.push { cls:=.type "tuple",data:=.seq #[x,y] }) z TI TO .ellipsis:=aZ1 _ z5
 refine bg4 z6 (by simp) fun g7 z7 sb7=>?_
 have z7:IsZip g7 z TI TO (rawInt g5.objs.size):=z7
 refine bg4 z7 (by simp) fun g8 z8 sb8=>?_
 have z8:IsZip g8 z TI TO (rawInt g5.objs.size):=z8
 have zlt:z < g5.objs.size:=ba4 z5
 have up:∀ c o,c ≠ z->g5.get? c=some o->g8.get? c=some o:=fun c o c1 e=>sb8.extBut c o c1 (sb7.extBut c o c1 (aZ1 _ e))
 have p8:IsPair g8 g5.objs.size x y:=sb8.extBut _ _ (bj0 zlt) (sb7.extBut _ _ (bj0 zlt) (bb2 _ rfl))
 have s8:g8.objs.size=g5.objs.size+1:=by rw [sb8.1,sb7.1,bj6]
 have f1:St1 (i+1) g8:=D1.frame _ _ _ st1 fun c hc o e=>up c o (fun y=>ap.z1 (y ▸ hc)) (sb5.extBut c o (fun y=>ap.o1 (y ▸ hc)) (sb4.extBut c o (fun y=>ap.n2 (y ▸ hc)) (sb3.extBut c o (fun y=>ap.o1 (y ▸ hc)) e)))
 have f2:St2 (i+1) g8:=D2.frame _ _ _ st2 fun c hc o e=>up c o (fun y=>ap.z2 (y ▸ hc)) (sb5.extBut c o (fun y=>ap.o2 (y ▸ hc)) e)
 have ti8:IsPair g8 TI (.ref i1) (.ref i2):=up _ _ ap.TIz (k5 _ _ ap.TIz ap.TITO (lA ap ap.t1) (pG ap ap.t2) hti)
 rw [size] at z8 p8 s8
 apply aZ5
 refine⟨_,rfl,aZ5 ?_⟩
 change Q (some (.ref g5.objs.size)) _
 rw [size]
 exact q x y g8 tk4 px py ⟨z8,ti8,⟨x,y,up _ _ ap.TOz to5⟩,f1,f2⟩ p8 (fun c o c1 c2 c3 c4 e=>up c o c1 (k5 c o c1 c2 c3 c4 e)) s8
theorem fin (D1:Draws prog w A.in1 i1 fp1 n1 P1 St1) (D2:Draws prog w A.in1 i2 fp2 n2 P2 St2) (ap:Ap z TI TO i1 i2 fp1 fp2) {i:Nat} (le:i=n1 ∨ (i < n1/\i=n2)) (st:u8 z TI TO i1 i2 St1 St2 .none i i s.heap) {Q:Option Value->Shared->Prop}
  (q:∀ h' tk,(∀ c o,c ≠ z->c ≠ TO->c ≠ i1->c ≠ i2->s.heap.get? c=some o->h'.get? c=some o)->Q none { s with heap:=h',toks:=tk }):wpAny (model prog w) A (pyNext (.ref z)) Q E s:=by
 obtain ⟨hz,hti,⟨a,b,hto⟩,h1,h2⟩:=st
 have T:s.TypeIs (.ref z) "zip":=⟨_,hz,rfl⟩
 have slot:=PySem.F.slot_zip_next
 unfold pyNext
 apply aY9
 apply wpAny_attempt
 apply bh4 (name:=Str.ofString "__next__") T slot
 apply bi1 slot T PySem.F.entry_zip_next _ (PySem.F.args_zip_next_1 _)
 change wpAny _ _ (field (.ref z) 2 >>= _) _ _ _
 apply aY9
 refine bf4 hz rfl (x:=.bool false) rfl ?_
 change wpAny _ _ (field (.ref z) 3 >>= _) _ _ _
 apply aY9
 refine bf4 hz rfl (x:=.ref TI) rfl ?_
 apply aY9
 apply bj7 hti rfl
 change wpAny _ _ (Builtin.SmallTypes.ownedTupleIsFree (.ref z) >>= _) _ _ _
 apply aY9
 unfold Builtin.SmallTypes.ownedTupleIsFree
 apply aY9
 refine bf4 hz rfl (x:=.none) rfl (aZ5 ?_)
 simp only [if_true]
 apply aY9
 apply bm5
 apply aY9
 refine bf4 hz rfl (x:=.ref TO) rfl ?_
 apply aY9
 refine bg4 hz (by simp) fun g1 hz1 sb1=>?_
 have k1:∀ c o,c ≠ z->s.heap.get? c=some o->g1.get? c=some o:=fun c o c1 e=>sb1.extBut c o c1 e
 apply aY9
 simp only [List.zipIdx_cons,List.zipIdx_nil,List.forIn_cons,List.forIn_nil]
 apply aY9
 apply aY9
 apply wpAny_onRaise
 change wpAny _ _ (Builtin.SmallTypes.nextOf (.ref i1) >>= _) _ _ _
 apply aY9
 have z1:IsZip g1 z TI TO .ellipsis:=hz1
 rcases le with rfl | ⟨lt,rfl⟩
 ·refine D1.done { s with heap:=g1 } _ _ (D1.frame _ _ _ h1 fun c hc o e=>k1 c o (fun y=>ap.z1 (y ▸ hc)) e) fun g2 e eb ex=>?_
  have z2:IsZip g2 z TI TO .ellipsis:=eb _ _ (lA ap ap.z1) z1
  refine bg4 z2 (by simp) fun g3 z3 sb3=>?_
  obtain ⟨oe,eo,co⟩:=ex
  have ne:e ≠ z:=fun y=>by
   rw [y,z2] at eo
   have:=bc1 eo
   rw [<- this] at co; exact absurd (show Value.type "zip" = Value.type "StopIteration" from co) (by decide)
  apply aY9
  refine wpAny_isInstance (T:="StopIteration") (b:=true) ⟨oe,sb3.extBut _ _ ne eo,co⟩ isSubtype_stop ?_
  exact aZ5 (q g3 s.toks fun c o c1 _ c3 _ e=>sb3.extBut c o c1 (eb c o c3 (k1 c o c1 e)))
 ·refine D1.item i { s with heap:=g1 } _ _ lt (D1.frame _ _ _ h1 fun c hc o e=>k1 c o (fun y=>ap.z1 (y ▸ hc)) e) fun x g2 tk2 px st1 sb2=>aZ5 ?_
  have k2:∀ c o,c ≠ z->c ≠ i1->s.heap.get? c=some o->g2.get? c=some o:=fun c o c1 c2 e=>sb2.extBut c o c2 (k1 c o c1 e)
  have to2:IsPair g2 TO a b:=k2 _ _ ap.TOz (lA ap ap.o1) hto
  apply aY9
  apply bj7 to2 rfl
  apply aY9
  refine wpAny_updateSeq_pair to2 fun g3 to3 sb3=>?_
  apply aY9
  apply wpAny_letGo
  apply aZ5
  apply aY9
  apply aY9
  apply wpAny_onRaise
  change wpAny _ _ (Builtin.SmallTypes.nextOf (.ref i2) >>= _) _ _ _
  apply aY9
  have k3:∀ c o,c ≠ z->c ≠ i1->c ≠ TO->s.heap.get? c=some o->g3.get? c=some o:=fun c o c1 c2 c3 e=>sb3.extBut c o c3 (k2 c o c1 c2 e)
  refine D2.done { s with heap:=g3,toks:=tk2 } _ _ (D2.frame _ _ _ h2 fun c hc o e=>k3 c o (fun y=>ap.z2 (y ▸ hc)) (fun y=>ap.n1 (y ▸ hc)) (fun y=>ap.o2 (y ▸ hc)) e) fun g4 e eb ex=>?_
  have z4:IsZip g4 z TI TO .ellipsis:=eb _ _ (pG ap ap.z2) (sb3.extBut _ _ (Ne.symm ap.TOz) (sb2.extBut _ _ (lA ap ap.z1) z1))
  refine bg4 z4 (by simp) fun g5 z5 sb5=>?_
  obtain ⟨oe,eo,co⟩:=ex
  have ne:e ≠ z:=fun y=>by
   rw [y,z4] at eo
   have:=bc1 eo
   rw [<- this] at co; exact absurd (show Value.type "zip" = Value.type "StopIteration" from co) (by decide)
  apply aY9
  refine wpAny_isInstance (T:="StopIteration") (b:=true) ⟨oe,sb5.extBut _ _ ne eo,co⟩ isSubtype_stop ?_
  exact aZ5 (q g5 tk2 fun c o c1 c2 c3 c4 e=>sb5.extBut c o c1 (eb c o c4 (k3 c o c1 c3 c2 e)))
end
def fD (h:Heap) (t u:Addr):Heap:=
 ((((h.push { cls:=.type "tuple_iterator",data:=.fields #[.ref t,.int 0 0] }).push { cls:=.type "tuple_iterator",data:=.fields #[.ref u,.int 0 0] }).push { cls:=.type "tuple",data:=.seq #[.ref h.objs.size,.ref (h.objs.size+1)] }).push
  { cls:=.type "tuple",data:=.seq #[.none,.none] }).push { cls:=.type "zip",data:=.fields #[.none,.bool false,.bool false,.ref (h.objs.size+2),.ref (h.objs.size+3)] }
theorem ap5 (t u:Addr) (xs ys:Array Value):Meets (Builtin.«zip.__new__» ⟨[.type "zip",.ref t,.ref u],[]⟩) (fun _ R s=>s.heap.IsTuple t xs/\s.heap.IsTuple u ys/\R (.ok (.ret (.ref (s.heap.objs.size+4)))) { s with heap:=fD s.heap t u }):=
 .of_wp fun prog w A R s h=>by
  obtain ⟨hp,g,d,tk,os⟩:=s
  obtain ⟨ht,hu,h⟩:=h
  have sub:=sub_zip
  have a1:Heap.IsTuple (Shared.heap ⟨hp,g,d,tk,os⟩) t xs:=ht
  have a2:Heap.IsTuple (Shared.heap ⟨hp.push { cls:=.type "tuple_iterator",data:=.fields #[.ref t,.int 0 0] },g,d,tk,os⟩) u ys:=hu.elim fun o y=>⟨o,aZ1 _ y.1,y.2⟩
  wp_walk using bl4 a1,bl4 a2
  have e:∀ (o:Obj) (k:Heap),(k.push o).objs.size=k.objs.size+1:=fun o k=>bj6 ..
  refine⟨_,rfl,?_⟩
  simp only [fD,e] at h ⊢
  exact h
section
variable {prog : Program} {w : World} {A : Around} {E : Value → Shared → Prop} {s : Shared}
theorem ap6 {t u:Addr}{xs ys:Array Value}{Q:Value->Shared->Prop} (ht:s.heap.IsTuple t xs) (hu:s.heap.IsTuple u ys)
  (q:∀ h',IsZip h' (s.heap.objs.size+4) (s.heap.objs.size+2) (s.heap.objs.size+3) .none->IsPair h' (s.heap.objs.size+2) (.ref s.heap.objs.size) (.ref (s.heap.objs.size+1))->
   IsPair h' (s.heap.objs.size+3) .none .none->h'.IsTupleIter s.heap.objs.size t 0->h'.IsTupleIter (s.heap.objs.size+1) u 0->(∀ c o,s.heap.get? c=some o->h'.get? c=some o)->Q (.ref (s.heap.objs.size+4)) { s with heap:=h' }) :
  wpAny (model prog w) A (call (.type "zip") [.ref t,.ref u]) Q E s:=by
 refine callType_new PySem.F.called_zip (by decide) (PySem.F.typeCall_zip_2 _ _) (PySem.F.newCall_zip_2 _ _) (fun obj=>PySem.F.args_object_init_3 obj _ _) PySem.F.entry_zip_new (ap5 t u xs ys) ⟨ht,hu,?_⟩
 have e:∀ (o:Obj) (k:Heap),(k.push o).objs.size=k.objs.size+1:=fun o k=>bj6 ..
 have p0:∀ (k:Heap) (o:Obj) (m:Nat),o.isFreed=false->m=k.objs.size->(k.push o).get? m=some o:=fun k o m f z=>by rw [z]; exact bb2 _ f
 have g0:(fD s.heap t u).get? s.heap.objs.size=some { cls:=.type "tuple_iterator",data:=.fields #[.ref t,.int 0 0] }:=by
  unfold fD
  exact aZ1 _ (aZ1 _ (aZ1 _ (aZ1 _ (p0 _ _ _ rfl rfl))))
 have g1:(fD s.heap t u).get? (s.heap.objs.size+1)=some { cls:=.type "tuple_iterator",data:=.fields #[.ref u,.int 0 0] }:=by
  unfold fD
  exact aZ1 _ (aZ1 _ (aZ1 _ (p0 _ _ _ rfl (by simp only [e]))))
 have g2:(fD s.heap t u).get? (s.heap.objs.size+2)=some { cls:=.type "tuple",data:=.seq #[.ref s.heap.objs.size,.ref (s.heap.objs.size+1)] }:=by
  unfold fD
  exact aZ1 _ (aZ1 _ (p0 _ _ _ rfl (by simp only [e])))
 have g3:(fD s.heap t u).get? (s.heap.objs.size+3)=some { cls:=.type "tuple",data:=.seq #[.none,.none] }:=by
  unfold fD
  exact aZ1 _ (p0 _ _ _ rfl (by simp only [e]))
 have g4:(fD s.heap t u).get? (s.heap.objs.size+4)=some { cls:=.type "zip",data:=.fields #[.none,.bool false,.bool false,.ref (s.heap.objs.size+2),.ref (s.heap.objs.size+3)] }:=by
  unfold fD
  exact p0 _ _ _ rfl (by simp only [e])
 refine⟨⟨_,g4,rfl⟩,q _ g4 g2 g3 ⟨_,g0,rfl,rfl⟩ ⟨_,g1,rfl,rfl⟩ fun c o z=>?_⟩
 unfold fD
 exact aZ1 _ (aZ1 _ (aZ1 _ (aZ1 _ (aZ1 _ z))))
end
end Zp
namespace L2
open PySem PySem.Spec PyProof.Rows
def u9 (K:PySem.W.Frag) (a b:Addr):It:=
  ⟨fun i H=>∃ xs ys x y,aD K H a xs/\aD K H b ys/\xs[i]? = some x/\ys[i]? = some y,
   fun i H v H'=>∃ T x y,H T=none/\v = .ref T/\H'=upd H T (.tup [x,y])/\∀ xs ys,aD K H a xs->aD K H b ys->xs[i]? = some x/\ys[i]? = some y,
   fun i H=>∃ xs ys,aD K H a xs/\aD K H b ys/\(i=xs.length ∨ (i < xs.length/\i=ys.length))⟩
def Sq (t:Bool) (K:PySem.W.Frag) (H:Hp) (a:Addr) (xs:List V):Prop:=match t with
 | true=>aD K H a xs
 | false=>aG K H a xs
def fE (t:Bool) (h:Heap) (i a:Addr) (n:Nat):Prop:=match t with
 | true=>h.IsTupleIter i a n
 | false=>h.IsListIter i a n
def C9 (t:Bool) (h:Heap) (a:Addr) (xs:Array Value):Prop:=match t with
 | true=>h.IsTuple a xs
 | false=>h.IsList a xs
theorem fE.at {h h':Heap}{i a:Addr}{n:Nat}:∀ {t:Bool},fE t h i a n->(∀ o,h.get? i=some o->h'.get? i=some o)->fE t h' i a n
 | true,x,k=>Heap.IsTupleIter.at x k
 | false,x,k=>Heap.IsListIter.at x k
theorem fE.ob {h:Heap}{i a:Addr}{n:Nat}:∀ {t:Bool},fE t h i a n->∃ o,h.get? i=some o/\∀ v,o.data ≠ .cell v
 | true,⟨o,f,_,d⟩=>⟨o,f,fun v q=>by rw [d] at q; cases q⟩
 | false,⟨o,f,_,d⟩=>⟨o,f,fun v q=>by rw [d] at q; cases q⟩
theorem fE.draws {prog:Program}{w:World}{A:Around}:∀ (t:Bool) (hh:A.handled=none) (it a:Addr) (ne:a ≠ it) (items:Array Value),Draws prog w A it [it,a] items.size (fun i v=>items[i]? = some v) (fun i h=>fE t h it a i/\C9 t h a items)
 | true,hh,it,a,ne,items=>Zp.ap4 hh it a ne items
 | false,hh,it,a,ne,items=>Draws.list hh it a ne items
section
variable {X : Cx} {pins : List (Addr × Obj)} {σ : St} {H : Hp} {s : Shared} {a : Addr} {xs ys : List V}
theorem Sq.get (I:a6 X pins σ H s):∀ {t:Bool},Sq t X.K H a xs->∃ us,aH xs us/\C9 t s.heap a us.toArray
 | true,h=>by obtain ⟨us,r,p,_⟩:=I.tuple h; exact⟨us,r,p⟩
 | false,h=>by obtain ⟨us,r,p,_⟩:=I.list h; exact⟨us,r,p.isList⟩
theorem Sq.inj (I:a6 X pins σ H s):∀ {t:Bool},Sq t X.K H a xs->Sq t X.K H a ys->xs=ys
 | true,h,g=>I.tuple_inj h g
 | false,h,g=>I.list_inj h g
theorem Sq.off (I:a6 X pins σ H s) (he:H a=none) (hb:X.base.get? a=none):∀ {t:Bool},Sq t X.K H a xs->False
 | true,h=>by
  rcases h with (h | ⟨_,h⟩) | ⟨o,_,_,h,_⟩
  ·rw [he] at h; cases h
  ·rw [he] at h; cases h
  ·have:=I.ok.mod.kin a o h
   rw [hb] at this; cases this
 | false,h=>by
  rcases h with (h | ⟨_,h⟩) | ⟨o,_,_,h,_⟩
  ·rw [he] at h; cases h
  ·rw [he] at h; cases h
  ·have:=I.ok.mod.kin a o h
   rw [hb] at this; cases this
end
def ap7 (t1 t2:Bool) (K:PySem.W.Frag) (a b:Addr):It:=
  ⟨fun i H=>∃ xs ys x y,Sq t1 K H a xs/\Sq t2 K H b ys/\xs[i]? = some x/\ys[i]? = some y,
   fun i H v H'=>∃ T x y,H T=none/\v = .ref T/\H'=upd H T (.tup [x,y])/\∀ xs ys,Sq t1 K H a xs->Sq t2 K H b ys->xs[i]? = some x/\ys[i]? = some y,
   fun i H=>∃ xs ys,Sq t1 K H a xs/\Sq t2 K H b ys/\(i=xs.length ∨ (i < xs.length/\i=ys.length))⟩
structure uA (t1 t2:Bool) (z TI TO i1 i2 a b:Addr) (i:Nat) (h:Heap):Prop where
 zz:IsZip h z TI TO .none
 ti:IsPair h TI (.ref i1) (.ref i2)
 to_:∃ x y,IsPair h TO x y
 s1:fE t1 h i1 a i
 s2:fE t2 h i2 b i
theorem E1 (t1 t2:Bool) {P:Program}{w:World}{K:PySem.W.Frag}{elts:List Expr}{k:Nat}{pos:Pos} (a b z TI TO i1 i2:Addr) (d : [z,TI,TO,i1,i2].Nodup) :
  gR P w K (.Tuple elts k pos) (ap7 t1 t2 K a b) [z,TI,TO,i1,i2] z (uA t1 t2 z TI TO i1 i2 a b):=by
 have nd:z ≠ TI/\z ≠ TO/\z ≠ i1/\z ≠ i2/\TI ≠ TO/\TI ≠ i1/\TI ≠ i2/\TO ≠ i1/\TO ≠ i2/\i1 ≠ i2:=by
  simp only [bn9,aZ6,ba6,bd7,not_or] at d
  obtain ⟨⟨a1,a2,a3,a4⟩,⟨b1,b2,b3⟩,⟨c1,c2⟩,e1,_⟩:=d
  exact⟨a1,a2,a3,a4,b1,b2,b3,c1,c2,e1⟩
 obtain ⟨n1,n2,n3,n4,n5,n6,n7,n8,n9,n10⟩:=nd
 have offBase:∀ {X:Cx}{pins:List (Addr × Obj)}{σ:St}{H:Hp}{s:Shared},a6 X pins σ H s->(∀ c ∈ [z,TI,TO,i1,i2],fP X pins H c)->∀ c ∈ [z,TI,TO,i1,i2],X.base.get? c=none:=by
  intro X pins σ H s I hf c hc
  cases q:X.base.get? c with
  | none=>rfl
  | some o=>
   rcases (hf c hc).2.2.2.1 with h | h
   ·exact absurd h (I.ok.noex c o q)
   ·exact absurd (ba5 (ba4 q) (bd4 I.ok.bsz h)) (bg3 _)
 have off:∀ {t:Bool}{X:Cx}{pins:List (Addr × Obj)}{σ:St}{H:Hp}{s:Shared}{c:Addr}{zs:List V},a6 X pins σ H s->(∀ c ∈ [z,TI,TO,i1,i2],fP X pins H c)->Sq t X.K H c zs->c ∉ [z,TI,TO,i1,i2]:=by
  intro t X pins σ H s c zs I hf hc hm
  exact Sq.off I (hf c hm).1 (offBase I hf c hm) hc
 have ap:∀ {c e:Addr},c ∉ [z,TI,TO,i1,i2]->e ∉ [z,TI,TO,i1,i2]->Zp.Ap z TI TO i1 i2 [i1,c] [i2,e]:=fun {c e} hc he=>by
  simp only [aZ6,ba6,bd7,not_or] at hc he
  obtain ⟨c1,c2,c3,c4,c5⟩:=hc
  obtain ⟨e1,e2,e3,e4,e5⟩:=he
  have two:∀ {q u v:Addr},q ≠ u->q ≠ v->q ∉ [u,v]:=fun {q u v} h1 h2 hm=>by
   simp only [aZ6,ba6,bd7] at hm
   exact hm.elim h1 h2
  exact⟨n1.symm,n2.symm,n5,two n3 (Ne.symm c1),two n4 (Ne.symm e1),two n8 (Ne.symm c3),two n9 (Ne.symm e3),two n6 (Ne.symm c2),two n7 (Ne.symm e2),bb1,bb1,two n10 (Ne.symm e4),two n10.symm (Ne.symm c5)⟩
 refine⟨by simp,fun i h st c hc=>?_,fun i h h' st kp=>?_,?_,?_,fun A i s Q E st q=>wpAny_pyIter_zip st.zz q⟩
 ·simp only [aZ6,ba6,bd7] at hc
  obtain ⟨x,y,to⟩:=st.to_
  rcases hc with rfl | rfl | rfl | rfl | rfl
  ·exact⟨_,st.zz,fun v q=>by cases q⟩
  ·exact⟨_,st.ti,fun v q=>by cases q⟩
  ·exact⟨_,to,fun v q=>by cases q⟩
  ·exact st.s1.ob
  ·exact st.s2.ob
 ·obtain ⟨x,y,to⟩:=st.to_
  exact⟨kp z (by simp) _ st.zz,kp TI (by simp) _ st.ti,⟨x,y,kp TO (by simp) _ to⟩,st.s1.at fun o e=>kp i1 (by simp) o e,st.s2.at fun o e=>kp i2 (by simp) o e⟩
 ·
  intro X hP hw hK hc i pins s σ H E I hf st hg
  subst hP hw hK
  obtain ⟨xs,ys,x,y,ha,hb,hx,hy⟩:=hg
  obtain ⟨us,ru,pu⟩:=Sq.get I ha
  obtain ⟨vs,rv,pv'⟩:=Sq.get I hb
  obtain ⟨ux,eux,rux⟩:=ru.get hx
  obtain ⟨vy,evy,rvy⟩:=rv.get hy
  have fa:=off I hf ha
  have fb:=off I hf hb
  have hh:X.A.in1.handled=none:=I.ok.hd hc
  have l1:i < us.toArray.size:=by simpa using (aZ9.mp eux).1
  have l2:i < vs.toArray.size:=by simpa using (aZ9.mp evy).1
  have fa':a ≠ i1:=fun q=>fa (by rw [q]; simp)
  have fb':b ≠ i2:=fun q=>fb (by rw [q]; simp)
  have D1:=fE.draws t1 (prog:=X.prog) (w:=X.w) hh i1 a fa' us.toArray
  have D2:=fE.draws t2 (prog:=X.prog) (w:=X.w) hh i2 b fb' vs.toArray
  refine Zp.item D1 D2 (ap fa fb) l1 l2 ⟨st.zz,st.ti,st.to_,⟨st.s1,pu⟩,⟨st.s2,pv'⟩⟩ fun p q h' tk hp hq st' pr kp sz=>⟨_,rfl,?_⟩
  obtain rfl:p=ux:=by
   have:us.toArray[i]? = some ux:=by simpa using eux
   rw [this] at hp; exact (bc1 hp).symm
  obtain rfl:q=vy:=by
   have:vs.toArray[i]? = some vy:=by simpa using evy
   rw [this] at hq; exact (bc1 hq).symm
  refine wpAny_letOwnedTupleGo_zip (s:={ s with heap:=h',toks:=tk }) st'.zz fun g zz sb=>?_
  have hzl:z < s.heap.objs.size:=ba4 st.zz
  have up:∀ c o,c ≠ z->c ≠ TO->c ≠ i1->c ≠ i2->s.heap.get? c=some o->g.get? c=some o:=fun c o c1 c2 c3 c4 e=>sb.extBut c o c1 (kp c o c1 c2 c3 c4 e)
  have hT:H s.heap.objs.size=none:=I.hok.fresh (aZ3 _)
  have prG:IsPair g s.heap.objs.size p q:=sb.extBut _ _ (bj0 hzl) pr
  have fpn:∀ c u,H c=some u->c ∉ [z,TI,TO,i1,i2]:=fun c u e hm=>by rw [(hf c hm).1] at e; cases e
  have upH:∀ c o u,H c=some u->s.heap.get? c=some o->g.get? c=some o:=fun c o u e z=>by
   have:=fpn c u e
   simp only [aZ6,ba6,bd7,not_or] at this
   exact up c o this.1 this.2.2.1 this.2.2.2.1 this.2.2.2.2 z
  have ns:∀ m,s.heap.Ns X.env.locals m->g.Ns X.env.locals m:=fun m hm=>by
   obtain ⟨o,es,ep,e1,e2⟩:=hm
   exact⟨o,es,ep,up _ o (Ne.symm (hf z (by simp)).2.1) (Ne.symm (hf TO (by simp)).2.1) (Ne.symm (hf i1 (by simp)).2.1) (Ne.symm (hf i2 (by simp)).2.1) e1,e2⟩
  have I2:a6 X pins σ (upd H s.heap.objs.size (.tup [x,y])) { s with heap:=g,toks:=tk }:=by
   refine I.step (g':=s.gens) (d':=s.drawn) (ch:=[z,TO,i1,i2]) (fun c hc'=>?_) (fun c o _ _ hc' e _=>?_) (fun c o _ _ hc' e _=>⟨o.slots,?_⟩) (fun c o _ e n=>?_) (fun c o hc' e=>⟨o,?_⟩)
    (fun c zs e=>by rw [aM (cF e hT)]; exact e) (fun c u zs e=>by rw [aM (cF e hT)]; exact e) (fun c ps e=>⟨#[],by rw [aM (cF e hT),e]; simp⟩) ns (fun c u e=>?_) I.bare
   ·have hm:c ∈ [z,TI,TO,i1,i2]:=by
     simp only [aZ6,ba6,bd7] at hc' ⊢
     rcases hc' with h | h | h | h <;> simp [h]
    exact⟨(hf c hm).2.2.2.1,(hf c hm).2.1,(hf c hm).2.2.2.2.1,(hf c hm).2.2.2.2.2⟩
   ·simp only [aZ6,ba6,bd7,not_or] at hc'
    exact up c o hc'.1 hc'.2.1 hc'.2.2.1 hc'.2.2.2 e
   ·simp only [aZ6,ba6,bd7,not_or] at hc'
    exact up c o hc'.1 hc'.2.1 hc'.2.2.1 hc'.2.2.2 e
   ·rw [aM (bc7 (ba4 e))]; exact n
   ·simp only [aZ6,ba6,bd7,not_or] at hc'
    exact up c o hc'.1 hc'.2.1 hc'.2.2.1 hc'.2.2.2 e
   ·by_cases hcT:c=s.heap.objs.size
    ·subst hcT
     rw [b9] at e; cases e
     exact⟨by show 2<=sizeLine; decide,[p,q],.cons rux (.cons rvy .nil),⟨_,prG,rfl,_,rfl⟩⟩
    ·rw [aM hcT] at e
     refine (I.hok c u e).stay (fun c' o' hc2 q'=>?_) (fun c' q'=>by rw [aM (cF q' hT)]; exact q') fun c' zs q'=>by rw [aM (cF q' hT)]; exact q'
     rcases hc2 with rfl | hc2
     ·exact upH _ _ _ e q'
     ·exact upH _ _ _ hc2 q'
  obtain ⟨x',y',to'⟩:=st'.to_
  refine⟨.ref s.heap.objs.size,_,I2,rfl,⟨_,x,y,hT,rfl,rfl,fun xs' ys' ha' hb'=>?_⟩,⟨zz,sb.extBut _ _ n1.symm st'.ti,⟨x',y',sb.extBut _ _ n2.symm to'⟩,st'.s1.1.at fun o e=>sb.extBut _ o n3.symm e,st'.s2.1.at fun o e=>sb.extBut _ o n4.symm e⟩,fun c hc'=>?_⟩
  ·rw [Sq.inj I ha' ha,Sq.inj I hb' hb]; exact⟨hx,hy⟩
  ·obtain ⟨o,e,_⟩:∃ o,s.heap.get? c=some o/\True:=by
    simp only [aZ6,ba6,bd7] at hc'
    obtain ⟨x2,y2,to2⟩:=st.to_
    obtain ⟨o1,f1,_⟩:=st.s1.ob
    obtain ⟨o2,f2,_⟩:=st.s2.ob
    rcases hc' with rfl | rfl | rfl | rfl | rfl
    ·exact⟨_,st.zz,trivial⟩
    ·exact⟨_,st.ti,trivial⟩
    ·exact⟨_,to2,trivial⟩
    ·exact⟨_,f1,trivial⟩
    ·exact⟨_,f2,trivial⟩
   rw [aM (bc7 (ba4 e))]; exact (hf c hc').1
 ·
  intro X hP hw hK hc i pins s σ H E I hf st hg
  subst hP hw hK
  obtain ⟨xs,ys,ha,hb,hi⟩:=hg
  obtain ⟨us,ru,pu⟩:=Sq.get I ha
  obtain ⟨vs,rv,pv'⟩:=Sq.get I hb
  have fa:=off I hf ha
  have fb:=off I hf hb
  have hh:X.A.in1.handled=none:=I.ok.hd hc
  have fa':a ≠ i1:=fun q=>fa (by rw [q]; simp)
  have fb':b ≠ i2:=fun q=>fb (by rw [q]; simp)
  have D1:=fE.draws t1 (prog:=X.prog) (w:=X.w) hh i1 a fa' us.toArray
  have D2:=fE.draws t2 (prog:=X.prog) (w:=X.w) hh i2 b fb' vs.toArray
  have e1:=ru.length
  have e2:=rv.length
  refine Zp.fin D1 D2 (ap fa fb) (by simp only [aZ2]; omega) ⟨st.zz,st.ti,st.to_,⟨st.s1,pu⟩,⟨st.s2,pv'⟩⟩ fun g tk kp=>⟨rfl,?_⟩
  have fpn:∀ c u,H c=some u->c ∉ [z,TI,TO,i1,i2]:=fun c u e hm=>by rw [(hf c hm).1] at e; cases e
  have upH:∀ c o u,H c=some u->s.heap.get? c=some o->g.get? c=some o:=fun c o u e z=>by
   have:=fpn c u e
   simp only [aZ6,ba6,bd7,not_or] at this
   exact kp c o this.1 this.2.2.1 this.2.2.2.1 this.2.2.2.2 z
  have ns:∀ m,s.heap.Ns X.env.locals m->g.Ns X.env.locals m:=fun m hm=>by
   obtain ⟨o,es,ep,e1,e2⟩:=hm
   exact⟨o,es,ep,kp _ o (Ne.symm (hf z (by simp)).2.1) (Ne.symm (hf TO (by simp)).2.1) (Ne.symm (hf i1 (by simp)).2.1) (Ne.symm (hf i2 (by simp)).2.1) e1,e2⟩
  refine I.step (g':=s.gens) (d':=s.drawn) (ch:=[z,TO,i1,i2]) (fun c hc'=>?_) (fun c o _ _ hc' e _=>?_) (fun c o _ _ hc' e _=>⟨o.slots,?_⟩) (fun c o _ e n=>n) (fun c o hc' e=>⟨o,?_⟩)
   (fun c zs e=>e) (fun c u zs e=>e) (fun c ps e=>⟨#[],by rw [e]; simp⟩) ns (fun c u e=>?_) I.bare
  ·have hm:c ∈ [z,TI,TO,i1,i2]:=by
    simp only [aZ6,ba6,bd7] at hc' ⊢
    rcases hc' with h | h | h | h <;> simp [h]
   exact⟨(hf c hm).2.2.2.1,(hf c hm).2.1,(hf c hm).2.2.2.2.1,(hf c hm).2.2.2.2.2⟩
  ·simp only [aZ6,ba6,bd7,not_or] at hc'
   exact kp c o hc'.1 hc'.2.1 hc'.2.2.1 hc'.2.2.2 e
  ·simp only [aZ6,ba6,bd7,not_or] at hc'
   exact kp c o hc'.1 hc'.2.1 hc'.2.2.1 hc'.2.2.2 e
  ·simp only [aZ6,ba6,bd7,not_or] at hc'
   exact kp c o hc'.1 hc'.2.1 hc'.2.2.1 hc'.2.2.2 e
  ·refine (I.hok c u e).stay (fun c' o' hc2 q'=>?_) (fun _ q'=>q') fun _ _ q'=>q'
   rcases hc2 with rfl | hc2
   ·exact upH _ _ _ e q'
   ·exact upH _ _ _ hc2 q'
abbrev ap8:=uA true true
theorem ap9 {P:Program}{w:World}{K:PySem.W.Frag}{elts:List Expr}{k:Nat}{pos:Pos} (a b z TI TO i1 i2:Addr) (d : [z,TI,TO,i1,i2].Nodup) :
  gR P w K (.Tuple elts k pos) (u9 K a b) [z,TI,TO,i1,i2] z (ap8 z TI TO i1 i2 a b):=E1 true true a b z TI TO i1 i2 d
section
variable {X : Cx}
def aq0 (K:PySem.W.Frag) (ta:TA):TI:=fun σ H R=>ta σ H fun vs H1=>∃ a b xs ys,vs = [.ref a,.ref b]/\aD K H1 a xs/\aD K H1 b ys/\R (u9 K a b) H1
theorem aq1 {elts:List Expr}{kt:Nat}{pt:Pos}{a b:Expr}{ta:TA}{p pos:Pos} (hg:Gl X "zip") (hm:X.mg "zip" = none) (ha:PA X [a,b] ta) (hs:starEach [a,b] X.env = [(false,eval a X.env),(false,eval b X.env)]:=by rfl) (hs2:starEach [b] X.env = [(false,eval b X.env)]:=by rfl) :
  PI X (.Tuple elts kt pt) (.Call (.Name "zip" p) [a,b] [] pos) (aq0 X.K ta):=by
 intro pins s σ H R I h
 refine Call_ (i5 I hg hm PyProof.Rows.boot_zip (bg5 (aJ (ha pos pins s σ H _ I h) fun us s1 ⟨vs,H1,I1,r1,q1⟩=>?_) (by rw [hs,hs2]) (by rw [hs2]; rfl)))
 obtain ⟨a',b',xs,ys,e,h1,h2,q⟩:=q1
 subst e
 cases r1 with
 | cons r rr=>
  cases rr with
  | cons r' rr=>
   cases rr
   cases r
   cases r'
   obtain ⟨us,_,p1,_⟩:=I1.tuple h1
   obtain ⟨ws,_,p2,_⟩:=I1.tuple h2
   refine Zp.ap6 p1 p2 fun h' z ti to s1' s2' kp=>wpAny_pyIter_zip z ?_
   have fresh:∀ k,H1 (s1.heap.objs.size+k)=none:=fun k=>I1.hok.fresh (bg0 _ _)
   refine⟨s1.heap.objs.size+4,[s1.heap.objs.size+4,s1.heap.objs.size+2,s1.heap.objs.size+3,s1.heap.objs.size,s1.heap.objs.size+1],_,_,H1,rfl,I1.kept (t':=s1.toks) kp,
    ap9 a' b' _ _ _ _ _ (by simp),⟨z,ti,⟨_,_,to⟩,s1',s2'⟩,fun c hc=>?_,q⟩
   simp only [aZ6,ba6,bd7] at hc
   rcases hc with rfl | rfl | rfl | rfl | rfl
   ·exact I1.fpOk (bg0 _ _) (fresh 4)
   ·exact I1.fpOk (bg0 _ _) (fresh 2)
   ·exact I1.fpOk (bg0 _ _) (fresh 3)
   ·exact I1.fpOk (aZ3 _) (fresh 0)
   ·exact I1.fpOk (bg0 _ _) (fresh 1)
theorem uB (hc:X.calm=true):cK X (.builtin "all") (fun xs H Q=>∃ (a:Addr) (bs:List Bool),xs = [.ref a]/\aG X.K H a (bs.map V.bl)/\Q (.bl (bs.all id)) H):=by
 intro pins s σ H xs us Q I r h
 obtain ⟨a,bs,rfl,hq,q⟩:=h
 obtain ⟨u,rfl,ru⟩:=fY r
 cases ru
 obtain ⟨its,rv,p,hz⟩:=I.list hq
 have hl:=rv.length
 rw [ba3] at hl
 have hlt:a < s.heap.objs.size:=by obtain ⟨o,e,_⟩:=p.isList; exact ba4 e
 refine call_all_walk (wpAny_pyIter_list p.isList ?_)
 have hh:X.A.in1.handled=none:=I.ok.hd hc
 refine⟨s.heap.objs.size,_,_,_,_,_,fun i=>bs.getD i false,rfl,Walks.list hh s.heap.objs.size a (bc7 hlt) its.toArray,⟨⟨_,bb2 _ rfl,rfl,rfl⟩,p.isList.push _⟩,?_,fun h' tk kp=>?_⟩
 ·intro i v s' Q' E' hP hQ'
  have hi:its[i]? = some v:=by simpa using hP
  have hil:i < bs.length:=by rw [hl]; exact (aZ9.mp hi).1
  obtain ⟨u,e1,e2⟩:=rv.get (i:=i) (x:=.bl bs[i]) (by simp [hil])
  rw [hi] at e1; cases e1
  cases e2
  have:bs.getD i false=bs[i]:=by rw [aZ7,aZ0 hil]; rfl
  have hQ2:Q' (bs.getD i false) s':=hQ'
  rw [this] at hQ2
  exact bh6 hQ2
 ·have all_eq:(List.range its.toArray.size).all (fun i=>bs.getD i false)=bs.all id:=by
   rw [aZ2,<- hl]
   clear q rv hz hl hq hlt p hh kp
   induction bs with
   | nil=>rfl
   | cons b r ih=>
    rw [bd5,List.range_succ_eq_map,bm9,List.all_map,bm9,<- ih]
    rfl
  rw [all_eq]
  refine⟨.bl (bs.all id),H,I.kept (t':=tk) (h':=h') fun b o e=>kp b o (fun z=>?_) (aZ1 _ e),rfl,q⟩
  rw [aZ4.mp z] at e
  exact absurd (ba4 e) (bg3 _)
end
structure uC (H:Hp) (J:It) (n:Nat) (R:Nat->V->Hp->Prop):Prop where
 go:∀ i H',a9 H H'->i < n->J.go i H'
 yld:∀ i H' x H2,a9 H H'->J.yld i H' x H2->i < n->a9 H' H2/\R i x H2
 stop:∀ H',a9 H H'->J.stop n H'
theorem uD {H1:Hp}{J:It}{n:Nat}{R:Nat->V->Hp->Prop}{g:TG}{tc:TT}{te:TE}{σ0:St}{Q:VK} (O:uC H1 J n R) (Pv:Nat->List V->Hp->Prop) (hn:n<=sizeLine)
  (h0:∀ D,H1 D=none->Pv 0 [] (upd H1 D (.lst [])))
  (mono:∀ i acc H' H2,a9 H' H2->Pv i acc H'->Pv i acc H2)
  (hs:∀ i x acc D H',i < n->R i x H'->pD H1 D n i acc H'->Pv i acc H'->g x σ0 H' fun σ2 H3=>Wk σ0 σ2/\tc σ2 H3 fun b H4=>
   if b=true then te σ2 H4 fun v H5=>u6 H1 D n Pv i acc v H5 else B6 H1 D n Pv i acc H4)
  (hd:∀ D acc H',H1 D=none->a9 H1 H'->H' D=some (.lst acc)->acc.length<=n->Pv n acc H'->Q (.ref D) H') :
  ∀ D,H1 D=none->∃ W:Nat->Nat->List V->Hp->Prop,(∃ m,W 0 m [] (upd H1 D (.lst [])))/\nB g tc te σ0 J D Q W:=by
 intro D hD
 refine⟨CW H1 D n Pv,⟨n,rfl,be8 _,aZ3 _,b7 hD _,b9,h0 D hD⟩,?_⟩
 rintro i m acc H' ⟨rfl,hi,ha,sm,hDa,p⟩
 refine⟨hDa,?_⟩
 by_cases hlt:i < n
 ·refine .inr ⟨O.go i H' sm hlt,fun x H2 y=>?_⟩
  obtain ⟨s2,r2⟩:=O.yld i H' x H2 sm y hlt
  exact hs i x acc D H2 hlt r2 ⟨hlt,ha,hn,sm.trans s2,hD,s2 _ _ hDa⟩ (mono i acc H' H2 s2 p)
 ·have e:i=n:=by omega
  subst e
  exact .inl ⟨O.stop H' sm,hd D acc H' hD sm hDa ha p⟩
theorem E2 {K:PySem.W.Frag}{H:Hp}{a b:Addr}{xs ys:List V} (ha:aD K H a xs) (hb:aD K H b ys) (hl:ys.length<=xs.length) :
  uC H (u9 K a b) ys.length (fun i v H2=>∃ T x y,v = .ref T/\H2 T=some (.tup [x,y])/\xs[i]? = some x/\ys[i]? = some y):=by
 refine⟨fun i H' sm hi=>⟨xs,ys,xs[i]'(by omega),ys[i],sm.tup ha,sm.tup hb,by simp,by simp⟩,fun i H' v H2 sm y hi=>?_,fun H' sm=>⟨xs,ys,sm.tup ha,sm.tup hb,by omega⟩⟩
 obtain ⟨T,x,y',hT,hv,e,hxy⟩:=y
 subst e
 obtain ⟨h1,h2⟩:=hxy xs ys (sm.tup ha) (sm.tup hb)
 exact⟨b7 hT _,T,x,y',hv,b9,h1,h2⟩
end L2
namespace HT
open PySem PyProof.Rows
section
variable {prog : Program} {w : World} {A : Around} {E : Value → Shared → Prop} {s : Shared}
theorem aq2 {t sl:Addr}{items:Array Value}{vl vu:Value}{lo hi:Option Int}{Q:Value->Shared->Prop} (ht:IsTup s.heap t items) (hs:s.heap.IsSliceOf sl vl vu .none) (pl:IsPart vl lo) (pu:IsPart vu hi)
  (h1:aR items.size 0 lo=0) (h2:aR items.size items.size hi=items.size) (h:Q (.ref t) s):wpAny (model prog w) A (getItem (.ref t) (.ref sl)) Q E s:=by
 obtain ⟨o,e1,e2,e3⟩:=id hs
 have T:s.TypeIs (.ref sl) "slice":=⟨o,e1,e2⟩
 unfold getItem
 try with_reducible refine bh7 ?_
 first | refine aY9 (aZ5 ?_) | skip
 apply aY9
 apply wpAny_sequenceKey ht.typeIs (by decide)
 apply aY9
 apply bh4 (name:=Str.ofString "__getitem__") ht.typeIs bl3
 apply bi1 bl3 ht.typeIs entry_tuple_getitem _ (args_tuple_getitem _ _)
 change wpAny _ _ (Builtin.Tuple.tupleItemsOf (.ref t) >>= _) _ _ s
 apply aY9
 apply tupleItemsOf_ ht
 apply aY9
 apply wpAny_typeOf T
 rw [if_pos (by decide)]
 apply aY9
 apply zE hs pl pu
 rw [h1,h2]
 have yes:((((0:Nat):Int) == 0 && (1:Int) == 1 && (items.size - 0) == items.size)=true):=by simp
 change wpAny _ _ (if ((((0:Nat):Int) == 0 && (1:Int) == 1 && (items.size - 0) == items.size)=true) then _ else _) _ _ s
 rw [if_pos yes]
 apply aY9
 unfold Builtin.Tuple.tupleIsExact
 apply aY9
 apply wpAny_typeOf ht.typeIs
 apply aZ5
 change wpAny _ _ (rule "tuple.getitem.whole" >>= fun _=>ret (Value.ref t)) _ _ s
 apply aY9
 apply bm5
 exact aZ5 ⟨_,rfl,aZ5 h⟩
end
end HT
namespace L2
open PySem PySem.Spec PyProof.Rows
section
variable {X : Cx}
def aq3 (K:PySem.W.Frag):V->Option Int->Option Int->Hp->VK->Prop:=fun x lo hi H Q=>∃ a xs,x = .ref a/\aD K H a xs/\(∀ p,H p=none->Q (.ref p) (upd H p (.tup (dE xs lo hi))))/\(dE xs lo hi=xs->Q (.ref a) H)
theorem E3:iY X (aq3 X.K):=by
 intro pins s σ H x v vl vu lo hi sl Q I rx hs pl pu h
 obtain ⟨a,xs,ex,hx,q1,q2⟩:=h
 by_cases hw:HT.aR xs.length 0 lo=0/\HT.aR xs.length xs.length hi=xs.length
 ·subst ex
  cases rx
  obtain ⟨its,r,ht,hz⟩:=I.tuple hx
  have hlen:its.toArray.size=xs.length:=by rw [aZ2]; exact r.length.symm
  refine⟨"tuple",_,PyProof.Rows.slot_tuple_getitem.lookup,ht.typeIs,?_⟩
  refine HT.aq2 ht hs pl pu (by rw [hlen]; exact hw.1) (by rw [hlen]; exact hw.2) ⟨.ref a,H,I,rfl,q2 ?_⟩
  unfold dE
  rw [hw.1,hw.2]
  simp
 ·exact ak8 pins s σ H x v vl vu lo hi sl Q I rx hs pl pu ⟨a,xs,ex,hx,hw,q1⟩
end
theorem uE (xs:List V):dE xs (some 1) none=xs.drop 1:=by
 unfold dE
 have e1:HT.aR xs.length 0 (some 1)=min 1 xs.length:=HT.aj9 xs.length 0 1
 have e2:HT.aR xs.length xs.length none=xs.length:=rfl
 rw [e1,e2]
 cases xs with
 | nil=>rfl
 | cons x r=>
  have:min 1 (x :: r).length=1:=by simp
  rw [this]
  simp
def uF (K:PySem.W.Frag) (a b:Addr):It:=
  ⟨fun i H=>∃ xs ys x y,aG K H a xs/\aG K H b ys/\xs[i]? = some x/\ys[i]? = some y,
   fun i H v H'=>∃ T x y,H T=none/\v = .ref T/\H'=upd H T (.tup [x,y])/\∀ xs ys,aG K H a xs->aG K H b ys->xs[i]? = some x/\ys[i]? = some y,
   fun i H=>∃ xs ys,aG K H a xs/\aG K H b ys/\(i=xs.length ∨ (i < xs.length/\i=ys.length))⟩
abbrev aq4:=uA false false
theorem aq5 {P:Program}{w:World}{K:PySem.W.Frag}{elts:List Expr}{k:Nat}{pos:Pos} (a b z TI TO i1 i2:Addr) (d : [z,TI,TO,i1,i2].Nodup) :
  gR P w K (.Tuple elts k pos) (uF K a b) [z,TI,TO,i1,i2] z (aq4 z TI TO i1 i2 a b):=E1 false false a b z TI TO i1 i2 d
section
variable {X : Cx}
def aq6 (K:PySem.W.Frag) (ta:TA):TI:=fun σ H R=>ta σ H fun vs H1=>∃ a b xs ys,vs = [.ref a,.ref b]/\aG K H1 a xs/\aG K H1 b ys/\R (uF K a b) H1
theorem aq7 {elts:List Expr}{kt:Nat}{pt:Pos}{a b:Expr}{ta:TA}{p pos:Pos} (hg:Gl X "zip") (hm:X.mg "zip" = none) (ha:PA X [a,b] ta) (hs:starEach [a,b] X.env = [(false,eval a X.env),(false,eval b X.env)]:=by rfl) (hs2:starEach [b] X.env = [(false,eval b X.env)]:=by rfl) :
  PI X (.Tuple elts kt pt) (.Call (.Name "zip" p) [a,b] [] pos) (aq6 X.K ta):=by
 intro pins s σ H R I h
 refine Call_ (i5 I hg hm PyProof.Rows.boot_zip (bg5 (aJ (ha pos pins s σ H _ I h) fun us s1 ⟨vs,H1,I1,r1,q1⟩=>?_) (by rw [hs,hs2]) (by rw [hs2]; rfl)))
 obtain ⟨a',b',xs,ys,e,h1,h2,q⟩:=q1
 subst e
 cases r1 with
 | cons r rr=>
  cases rr with
  | cons r' rr=>
   cases rr
   cases r
   cases r'
   obtain ⟨us,_,p1,_⟩:=I1.list h1
   obtain ⟨ws,_,p2,_⟩:=I1.list h2
   refine call_zip_2 p1.isList p2.isList fun h' z ti to s1' s2' _ kp=>wpAny_pyIter_zip z ?_
   have fresh:∀ k,H1 (s1.heap.objs.size+k)=none:=fun k=>I1.hok.fresh (bg0 _ _)
   refine⟨s1.heap.objs.size+4,[s1.heap.objs.size+4,s1.heap.objs.size+2,s1.heap.objs.size+3,s1.heap.objs.size,s1.heap.objs.size+1],_,_,H1,rfl,I1.kept (t':=s1.toks) kp,
    aq5 a' b' _ _ _ _ _ (by simp),⟨z,ti,⟨_,_,to⟩,s1',s2'⟩,fun c hc=>?_,q⟩
   simp only [aZ6,ba6,bd7] at hc
   rcases hc with rfl | rfl | rfl | rfl | rfl
   ·exact I1.fpOk (bg0 _ _) (fresh 4)
   ·exact I1.fpOk (bg0 _ _) (fresh 2)
   ·exact I1.fpOk (bg0 _ _) (fresh 3)
   ·exact I1.fpOk (aZ3 _) (fresh 0)
   ·exact I1.fpOk (bg0 _ _) (fresh 1)
end
theorem aq8 {K:PySem.W.Frag}{H:Hp}{a b:Addr}{xs ys:List V} (ha:aG K H a xs) (hb:aG K H b ys) (hl:ys.length<=xs.length) :
  uC H (uF K a b) ys.length (fun i v H2=>∃ T x y,v = .ref T/\H2 T=some (.tup [x,y])/\xs[i]? = some x/\ys[i]? = some y):=by
 refine⟨fun i H' sm hi=>⟨xs,ys,xs[i]'(by omega),ys[i],sm.seq ha,sm.seq hb,by simp,by simp⟩,fun i H' v H2 sm y hi=>?_,fun H' sm=>⟨xs,ys,sm.seq ha,sm.seq hb,by omega⟩⟩
 obtain ⟨T,x,y',hT,hv,e,hxy⟩:=y
 subst e
 obtain ⟨h1,h2⟩:=hxy xs ys (sm.seq ha) (sm.seq hb)
 exact⟨b7 hT _,T,x,y',hv,b9,h1,h2⟩
end L2
namespace PP
open PySem L2
inductive PV where
 | non | bl (b:Bool) | int (i:Int) | str (x:Str) | tup (xs:List PV) | lst (xs:List PV)
 | dK (kvs:List (aP × PV)) | dT (kvs:List (List aP × PV)) | scr (ns:List Int) | kt (xs:List PV) | exc (c:Str)
mutual
def flat:PV->Bool
 | .tup xs=>flats xs
 | .lst _=>false
 | .dK _=>false
 | .dT _=>false
 | .non=>true
 | .bl _=>true
 | .int _=>true
 | .str _=>true
 | .scr _=>true
 | .kt xs=>flats xs
 | .exc _=>true
def flats:List PV->Bool
 | []=>true
 | x :: r=>flat x && flats r
end
def iE (K:PySem.W.Frag) (H:Hp) (a:Addr) (ns:List Int):Prop:=(∃ o,H a=some (.frz o (.lst (ns.map V.int)))) ∨
  ∃ (o:Obj) (its:Array Value) (n:Nat),K.lookup a=some o/\o.cls = .type "list"/\o.dict=none/\o.data = .seq its n/\its.size<=sizeLine/\aH (ns.map V.int) its.toList
def lB (K:PySem.W.Frag) (a:Addr) (us:List V):Prop:=∃ (o:Obj) (its:Array Value) (n:Nat),K.lookup a=some o/\o.cls = .type "tuple"/\o.data = .seq its n/\its.size<=sizeLine/\aH us its.toList
mutual
inductive aE (K:PySem.W.Frag) (M:Addr->Prop) (H:Hp):V->PV->Prop
 | non:aE K M H .non .non
 | bl (b:Bool):aE K M H (.bl b) (.bl b)
 | int (i:Int):aE K M H (.int i) (.int i)
 | str (x:Str):aE K M H (.str x) (.str x)
 | tup {a:Addr}{us:List V}{xs:List PV}:H a=some (.tup us)->Reps K M H us xs->aE K M H (.ref a) (.tup xs)
 | lst {a:Addr}{us:List V}{xs:List PV}:M a->H a=some (.lst us)->Reps K M H us xs->aE K M H (.ref a) (.lst xs)
 | dK {a:Addr}{kvs:List (aP × V)}{ps:List (aP × PV)}:M a->H a=some (.dK kvs)->kvs.map (·.1)=ps.map (·.1)->Reps K M H (kvs.map (·.2)) (ps.map (·.2))->aE K M H (.ref a) (.dK ps)
 | dT {a:Addr}{kvs:List (List aP × V)}{ps:List (List aP × PV)}:M a->H a=some (.dT kvs)->kvs.map (·.1)=ps.map (·.1)->Reps K M H (kvs.map (·.2)) (ps.map (·.2))->aE K M H (.ref a) (.dT ps)
 | scr {a:Addr}{ns:List Int}:iE K H a ns->aE K M H (.ref a) (.scr ns)
 | kt {a:Addr}{us:List V}{xs:List PV}:lB K a us->Reps K M H us xs->aE K M H (.ref a) (.kt xs)
 | exc {a C:Addr}{o:Obj}{c:Str}:H a=some (.frz o (.own a))->PySem.W.nsIn K mainGlobals c=some (some (.ref C))->o.cls = .ref C->aE K M H (.ref a) (.exc c)
inductive Reps (K:PySem.W.Frag) (M:Addr->Prop) (H:Hp):List V->List PV->Prop
 | nil:Reps K M H [] []
 | cons {v:V}{x:PV}{vs:List V}{xs:List PV}:aE K M H v x->Reps K M H vs xs->Reps K M H (v :: vs) (x :: xs)
end
structure gT (M M':Addr->Prop) (H H':Hp):Prop where
 lst:∀ a us,M a->H a=some (.lst us)->M' a/\H' a=some (.lst us)
 dK:∀ a kvs,M a->H a=some (.dK kvs)->M' a/\H' a=some (.dK kvs)
 dT:∀ a kvs,M a->H a=some (.dT kvs)->M' a/\H' a=some (.dT kvs)
 tup:∀ a us,H a=some (.tup us)->H' a=some (.tup us)
 frz:∀ a o u,H a=some (.frz o u)->H' a=some (.frz o u)
theorem iE.keep {K:PySem.W.Frag}{H H':Hp}{a:Addr}{ns:List Int} (k:∀ a o u,H a=some (.frz o u)->H' a=some (.frz o u)) (h:iE K H a ns):iE K H' a ns:=
 h.elim (fun ⟨o,e⟩=>.inl ⟨o,k _ _ _ e⟩) .inr
mutual
theorem aE.keep {K:PySem.W.Frag}{M M':Addr->Prop}{H H':Hp} (k:gT M M' H H'):∀ {v:V}{x:PV},aE K M H v x->aE K M' H' v x
 | _,_,.non=>.non
 | _,_,.bl b=>.bl b
 | _,_,.int i=>.int i
 | _,_,.str x=>.str x
 | _,_,.tup h r=>.tup (k.tup _ _ h) (Reps.keep k r)
 | _,_,.lst m h r=>.lst (k.lst _ _ m h).1 (k.lst _ _ m h).2 (Reps.keep k r)
 | _,_,.dK m h e r=>.dK (k.dK _ _ m h).1 (k.dK _ _ m h).2 e (Reps.keep k r)
 | _,_,.dT m h e r=>.dT (k.dT _ _ m h).1 (k.dT _ _ m h).2 e (Reps.keep k r)
 | _,_,.scr h=>.scr (h.keep k.frz)
 | _,_,.kt h r=>.kt h (Reps.keep k r)
 | _,_,.exc h e c=>.exc (k.frz _ _ _ h) e c
theorem Reps.keep {K:PySem.W.Frag}{M M':Addr->Prop}{H H':Hp} (k:gT M M' H H'):∀ {vs:List V}{xs:List PV},Reps K M H vs xs->Reps K M' H' vs xs
 | _,_,.nil=>.nil
 | _,_,.cons r t=>.cons (aE.keep k r) (Reps.keep k t)
end
mutual
theorem aE.flat {K:PySem.W.Frag}{M M':Addr->Prop}{H:Hp}{v:V}{x:PV} (f:flat x=true) (r:aE K M H v x):aE K M' H v x:=by
 cases r with
 | non=>exact .non
 | bl b=>exact .bl b
 | int i=>exact .int i
 | str x=>exact .str x
 | tup h r=>exact .tup h (Reps.flat (by unfold PP.flat at f; exact f) r)
 | lst m h r=>unfold PP.flat at f; cases f
 | dK m h e r=>unfold PP.flat at f; cases f
 | dT m h e r=>unfold PP.flat at f; cases f
 | scr h=>exact .scr h
 | kt h r=>exact .kt h (Reps.flat (by unfold PP.flat at f; exact f) r)
 | exc h e c=>exact .exc h e c
theorem Reps.flat {K:PySem.W.Frag}{M M':Addr->Prop}{H:Hp}{vs:List V}{xs:List PV} (f:flats xs=true) (r:Reps K M H vs xs):Reps K M' H vs xs:=by
 cases r with
 | nil=>exact .nil
 | cons r t=>
  unfold PP.flats at f
  rw [bf3] at f
  exact .cons (aE.flat f.1 r) (Reps.flat f.2 t)
end
theorem gT.same {M M':Addr->Prop}{H H':Hp} (s:a9 H H') (m:∀ a,M a->M' a):gT M M' H H':=
 ⟨fun a _ h e=>⟨m a h,s _ _ e⟩,fun a _ h e=>⟨m a h,s _ _ e⟩,fun a _ h e=>⟨m a h,s _ _ e⟩,fun _ _ e=>s _ _ e,fun _ _ _ e=>s _ _ e⟩
theorem aE.same {K:PySem.W.Frag}{M M':Addr->Prop}{H H':Hp}{v:V}{x:PV} (r:aE K M H v x) (s:a9 H H') (m:∀ a,M a->M' a):aE K M' H' v x:=r.keep (.same s m)
theorem Reps.same {K:PySem.W.Frag}{M M':Addr->Prop}{H H':Hp}{v:List V}{x:List PV} (r:Reps K M H v x) (s:a9 H H') (m:∀ a,M a->M' a):Reps K M' H' v x:=r.keep (.same s m)
def gE:HO->Bool
 | .lst _=>true
 | .dK _=>true
 | .dT _=>true
 | _=>false
theorem gT.upd {M M':Addr->Prop}{H:Hp}{a:Addr}{o o':HO} (h:H a=some o') (mu:gE o'=true) (m:∀ b,M b->b ≠ a/\M' b):gT M M' H (upd H a o):=
 ⟨fun b _ hb e=>⟨(m b hb).2,by rw [aM (m b hb).1]; exact e⟩,fun b _ hb e=>⟨(m b hb).2,by rw [aM (m b hb).1]; exact e⟩,fun b _ hb e=>⟨(m b hb).2,by rw [aM (m b hb).1]; exact e⟩,
  fun b _ e=>by rw [aM (fun z=>by rw [z,h] at e; cases e; cases mu)]; exact e,
  fun b _ _ e=>by rw [aM (fun z=>by rw [z,h] at e; cases e; cases mu)]; exact e⟩
theorem Reps.length {K:PySem.W.Frag}{M:Addr->Prop}{H:Hp}:∀ {vs:List V}{xs:List PV},Reps K M H vs xs->vs.length=xs.length
 | _,_,.nil=>rfl
 | _,_,.cons _ t=>congrArg (· + 1) t.length
theorem Reps.get {K:PySem.W.Frag}{M:Addr->Prop}{H:Hp}:∀ {vs:List V}{xs:List PV}{i:Nat}{v:V},Reps K M H vs xs->vs[i]? = some v->∃ x,xs[i]? = some x/\aE K M H v x
 | _,_,_,_,.nil,e=>by simp at e
 | _,_,0,_,.cons r _,e=>by simp at e; subst e; exact⟨_,rfl,r⟩
 | _,_,i+1,v,.cons _ t,e=>by
  rw [bi6] at e
  obtain ⟨x,h1,h2⟩:=t.get e
  exact⟨x,by rw [bi6]; exact h1,h2⟩
theorem Reps.at {K:PySem.W.Frag}{M:Addr->Prop}{H:Hp}:∀ {vs:List V}{xs:List PV}{i:Nat}{x:PV},Reps K M H vs xs->xs[i]? = some x->∃ v,vs[i]? = some v/\aE K M H v x
 | _,_,_,_,.nil,e=>by simp at e
 | _,_,0,_,.cons r _,e=>by simp at e; subst e; exact⟨_,rfl,r⟩
 | _,_,i+1,v,.cons _ t,e=>by
  rw [bi6] at e
  obtain ⟨x,h1,h2⟩:=t.at e
  exact⟨x,by rw [bi6]; exact h1,h2⟩
theorem Reps.append {K:PySem.W.Frag}{M:Addr->Prop}{H:Hp}:∀ {vs:List V}{xs:List PV}{us:List V}{ys:List PV},Reps K M H vs xs->Reps K M H us ys->Reps K M H (vs ++ us) (xs ++ ys)
 | _,_,_,_,.nil,s=>s
 | _,_,_,_,.cons r t,s=>.cons r (t.append s)
theorem Reps.set {K:PySem.W.Frag}{M:Addr->Prop}{H:Hp}{v:V}{x:PV} (q:aE K M H v x):∀ (i:Nat) {vs:List V}{xs:List PV},Reps K M H vs xs->Reps K M H (vs.set i v) (xs.set i x)
 | _,_,_,.nil=>.nil
 | 0,_,_,.cons r t=>.cons q t
 | i+1,_,_,.cons r t=>.cons r (Reps.set q i t)
theorem Reps.take {K:PySem.W.Frag}{M:Addr->Prop}{H:Hp}:∀ (n:Nat) {vs:List V}{xs:List PV},Reps K M H vs xs->Reps K M H (vs.take n) (xs.take n)
 | 0,_,_,_=>by simp; exact .nil
 | _+1,_,_,.nil=>.nil
 | n+1,_,_,.cons r t=>.cons r (Reps.take n t)
theorem Reps.drop {K:PySem.W.Frag}{M:Addr->Prop}{H:Hp}:∀ (n:Nat) {vs:List V}{xs:List PV},Reps K M H vs xs->Reps K M H (vs.drop n) (xs.drop n)
 | 0,_,_,r=>r
 | _+1,_,_,.nil=>.nil
 | n+1,_,_,.cons _ t=>Reps.drop n t
theorem Reps.eraseIdx {K:PySem.W.Frag}{M:Addr->Prop}{H:Hp}:∀ (n:Nat) {vs:List V}{xs:List PV},Reps K M H vs xs->Reps K M H (vs.eraseIdx n) (xs.eraseIdx n)
 | _,_,_,.nil=>.nil
 | 0,_,_,.cons _ t=>t
 | n+1,_,_,.cons r t=>.cons r (Reps.eraseIdx n t)
abbrev intz (ns:List Int):List PV:=ns.map PV.int
theorem Reps.intz {K:PySem.W.Frag}{M:Addr->Prop}{H:Hp}:∀ (ns:List Int),Reps K M H (ns.map V.int) (intz ns)
 | []=>.nil
 | n :: r=>.cons (.int n) (Reps.intz r)
theorem Reps.ofInts {K:PySem.W.Frag}{M:Addr->Prop}{H:Hp}:∀ {ns:List Int}{us:List V},Reps K M H us (PP.intz ns)->us=ns.map V.int
 | [],_,.nil=>rfl
 | n :: r,_,.cons q t=>by
  cases q
  rw [Reps.ofInts t]; rfl
theorem cZ:∀ (ns:List Int),flats (intz ns)=true
 | []=>rfl
 | n :: r=>by show (flat (.int n) && flats (intz r))=true; rw [cZ r]; rfl
inductive Tg | rd | sh | nw | fr
inductive Slot | sh (g:Bool) (x:PV) | own (x:PV)
def Slot.val:Slot->PV
 | .sh _ x=>x
 | .own x=>x
def Slot.tag:Slot->Tg
 | .sh true _=>.nw
 | .sh false _=>.sh
 | .own _=>.rd
abbrev bA:=List (Option Slot)
def Ms (H0:Hp) (W:Addr->Prop):Bool->Addr->Prop
 | false,a=>¬ W a
 | true,a=>¬ W a/\H0 a=none
def Mg (H0:Hp) (W:Addr->Prop) (Hs:Hp):Tg->Addr->Prop
 | .rd,_=>True
 | .sh,a=>¬ W a
 | .nw,a=>¬ W a/\H0 a=none
 | .fr,a=>Hs a=none
def gF (K:PySem.W.Frag) (M:Addr->Prop) (H:Hp) (a:Addr):PV->Prop
 | .lst xs=>∃ us,H a=some (.lst us)/\Reps K M H us xs
 | .dK ps=>∃ kvs,H a=some (.dK kvs)/\kvs.map (·.1)=ps.map (·.1)/\Reps K M H (kvs.map (·.2)) (ps.map (·.2))
 | .dT ps=>∃ kvs,H a=some (.dT kvs)/\kvs.map (·.1)=ps.map (·.1)/\Reps K M H (kvs.map (·.2)) (ps.map (·.2))
 | _=>False
def E4 (K:PySem.W.Frag) (H0:Hp) (W:Addr->Prop) (H:Hp) (v:V):Slot->Prop
 | .sh g x=>aE K (Ms H0 W g) H v x
 | .own x=>∃ a,v = .ref a/\W a/\gF K (Ms H0 W true) H a x
structure PX (K:PySem.W.Frag) (H0:Hp) (W:Addr->Prop) (σ:St) (ρ:bA) (H:Hp):Prop where
 len:ρ.length=σ.length
 same:a9 H0 H
 wm:∀ a,W a->H0 a=none/\∃ o,H a=some o/\gE o=true
 sl:∀ (i:Nat) (m:Slot),ρ[i]? = some (some m)->∃ v,σ[i]? = some (some v)/\E4 K H0 W H v m
 dis:∀ (i j:Nat) (x y:PV) (a:Addr),ρ[i]? = some (some (.own x))->ρ[j]? = some (some (.own y))->σ[i]? = some (some (.ref a))->σ[j]? = some (some (.ref a))->i=j
theorem gF.keep {K:PySem.W.Frag}{M M':Addr->Prop}{H H':Hp}{a:Addr} (k:gT M M' H H') (ha:∀ o,H a=some o->H' a=some o):∀ {x:PV},gF K M H a x->gF K M' H' a x
 | .lst _,⟨us,e,r⟩=>⟨us,ha _ e,r.keep k⟩
 | .dK _,⟨us,e,q,r⟩=>⟨us,ha _ e,q,r.keep k⟩
 | .dT _,⟨us,e,q,r⟩=>⟨us,ha _ e,q,r.keep k⟩
theorem gF.at {K:PySem.W.Frag}{M:Addr->Prop}{H:Hp}{a:Addr}:∀ {x:PV},gF K M H a x->∃ o,H a=some o/\gE o=true
 | .lst _,⟨us,e,r⟩=>⟨_,e,rfl⟩
 | .dK _,⟨us,e,q,r⟩=>⟨_,e,rfl⟩
 | .dT _,⟨us,e,q,r⟩=>⟨_,e,rfl⟩
theorem gF.rep {K:PySem.W.Frag}{M M':Addr->Prop}{H:Hp}{a:Addr} (m:∀ b,M b->M' b) (ha:M' a):∀ {x:PV},gF K M H a x->aE K M' H (.ref a) x
 | .lst _,⟨us,e,r⟩=>.lst ha e (r.same (a9.refl _) m)
 | .dK _,⟨us,e,q,r⟩=>.dK ha e q (r.same (a9.refl _) m)
 | .dT _,⟨us,e,q,r⟩=>.dT ha e q (r.same (a9.refl _) m)
section
variable {K : PySem.W.Frag} {H0 : Hp} {W W' : Addr → Prop} {σ : St} {ρ : bA} {H H' : Hp}
theorem PX.mono (p:PX K H0 W σ ρ H) (s:a9 H H'):PX K H0 W σ ρ H':=by
 refine⟨p.len,p.same.trans s,fun a h=>⟨(p.wm a h).1,let ⟨o,e,m⟩:=(p.wm a h).2; ⟨o,s _ _ e,m⟩⟩,fun i m h=>?_,p.dis⟩
 obtain ⟨v,e,r⟩:=p.sl i m h
 refine⟨v,e,?_⟩
 cases m with
 | sh g x=>exact aE.same r s fun _ z=>z
 | own x=>
  obtain ⟨a,e1,e2,r⟩:=r
  exact⟨a,e1,e2,r.keep (.same s fun _ z=>z) fun _ z=>s _ _ z⟩
theorem PX.new (p:PX K H0 W σ ρ H) {a:Addr} (h:H a=none) : ¬ W a/\H0 a=none:=
 ⟨fun z=>(by obtain ⟨_,o,e,_⟩:=p.wm a z; rw [h] at e; cases e),p.same.free h⟩
theorem Mg.back {g:Tg}{H1:Hp} (s:a9 H H1) {a:Addr} (h:Mg H0 W H1 g a):Mg H0 W H g a:=by
 cases g with
 | fr=>exact s.free h
 | rd=>exact h
 | sh=>exact h
 | nw=>exact h
end
abbrev PK:=PV->Tg->Prop
abbrev aB:=bA->PK->Prop
abbrev cC:=bA->(Bool->Prop)->Prop
abbrev cH:=bA->(List (PV × Tg)->Prop)->Prop
inductive gG (K:PySem.W.Frag) (H0:Hp) (W:Addr->Prop) (Hs H:Hp):List V->List (PV × Tg)->Prop
 | nil:gG K H0 W Hs H [] []
 | cons {v:V}{x:PV}{g:Tg}{vs:List V}{xs:List (PV × Tg)}:aE K (Mg H0 W Hs g) H v x->gG K H0 W Hs H vs xs->gG K H0 W Hs H (v :: vs) ((x,g) :: xs)
def pH (K:PySem.W.Frag) (H0:Hp) (W:Addr->Prop) (H:Hp) (Q:PK) (Q':VK):Prop:=∀ v H' x g,a9 H H'->aE K (Mg H0 W H g) H' v x->Q x g->Q' v H'
def LE (X:Cx) (t:aB):TE:=fun σ H Q'=>∃ (W:Addr->Prop) (ρ:bA) (Q:PK),PX X.K X.H₀ W σ ρ H/\t ρ Q/\pH X.K X.H₀ W H Q Q'
def LT (X:Cx) (t:cC):TT:=fun σ H Q'=>∃ (W:Addr->Prop) (ρ:bA) (Q:Bool->Prop),PX X.K X.H₀ W σ ρ H/\t ρ Q/\∀ b H',a9 H H'->Q b->Q' b H'
def LA (X:Cx) (t:cH):TA:=fun σ H Q'=>∃ (W:Addr->Prop) (ρ:bA) (Q:List (PV × Tg)->Prop),PX X.K X.H₀ W σ ρ H/\t ρ Q/\∀ vs H' xs,a9 H H'->gG X.K X.H₀ W H H' vs xs->Q xs->Q' vs H'
theorem gG.same {K:PySem.W.Frag}{H0:Hp}{W:Addr->Prop}{Hs Hs' H H':Hp} (s:a9 H H') (b:a9 Hs' Hs):∀ {vs:List V}{xs:List (PV × Tg)},gG K H0 W Hs H vs xs->gG K H0 W Hs' H' vs xs
 | _,_,.nil=>.nil
 | _,_,.cons r t=>.cons (r.same s fun _ z=>Mg.back b z) (t.same s b)
theorem gG.any {K:PySem.W.Frag}{H0:Hp}{W:Addr->Prop}{Hs H:Hp}:∀ {vs:List V}{xs:List (PV × Tg)},gG K H0 W Hs H vs xs->Reps K (fun _=>True) H vs (xs.map (·.1))
 | _,_,.nil=>.nil
 | _,_,.cons r t=>.cons (r.same (a9.refl _) fun _ _=>trivial) t.any
def Nw:Tg->PV->Prop
 | .fr,_=>True
 | .nw,_=>True
 | _,x=>flat x=true
section
variable {K : PySem.W.Frag} {H0 Hs H : Hp} {W : Addr → Prop} {σ : St} {ρ : bA}
theorem Nw.rep {g:Tg}{x:PV}{v:V} (px:PX K H0 W σ ρ Hs) (n:Nw g x) (r:aE K (Mg H0 W Hs g) H v x):aE K (Ms H0 W true) H v x:=by
 cases g with
 | fr=>exact r.same (a9.refl _) fun a z=>px.new z
 | nw=>exact r.same (a9.refl _) fun a z=>z
 | sh=>exact r.flat n
 | rd=>exact r.flat n
theorem E5 {v:V}{m:Slot} (r:E4 K H0 W H v m):aE K (Mg H0 W Hs m.tag) H v m.val:=by
 cases m with
 | sh g x=>
  cases g with
  | true=>exact aE.same r (a9.refl _) fun _ z=>z
  | false=>exact aE.same r (a9.refl _) fun _ z=>z
 | own x=>
  obtain ⟨a,rfl,_,r⟩:=r
  exact r.rep (fun _ _=>trivial) trivial
end
section
variable {X : Cx} {σ : St} {H : Hp} {Q' : VK} {ta tb : aB}
def a5 (i:Nat):aB:=fun ρ Q=>∃ m,ρ[i]? = some (some m)/\Q m.val m.tag
def qC (x:PV):aB:=fun _ Q=>Q x .fr
theorem aq9 {i:Nat} (h:LE X (a5 i) σ H Q'):jO i σ H Q':=by
 obtain ⟨W,ρ,Q,px,⟨m,e,q⟩,k⟩:=h
 obtain ⟨v,ev,r⟩:=px.sl i m e
 exact⟨v,ev,k v H _ _ (a9.refl _) (E5 r) q⟩
theorem nH {x:PV}{v:V} (hr:∀ M,aE X.K M H v x) (h:LE X (qC x) σ H Q'):tC v σ H Q':=by
 obtain ⟨W,ρ,Q,px,q,k⟩:=h
 exact k v H _ _ (a9.refl _) (hr _) q
def dO (X:Cx) (R:PV->Tg->PV->Tg->PK->Prop) (r:R2):Prop:=∀ (W:Addr->Prop) (Hs H:Hp) (u v:V) (x y:PV) (g g':Tg) (Q:PK) (Q':VK),a9 Hs H->
 (∀ a,Hs a=none->¬ W a/\X.H₀ a=none)->aE X.K (Mg X.H₀ W Hs g) H u x->aE X.K (Mg X.H₀ W Hs g') H v y->R x g y g' Q->(∀ w H' z gz,a9 H H'->aE X.K (Mg X.H₀ W Hs gz) H' w z->Q z gz->Q' w H')->r u v H Q'
def q2 (R:PV->Tg->PV->Tg->PK->Prop) (ta tb:aB):aB:=fun ρ Q=>ta ρ fun x g=>tb ρ fun y g'=>R x g y g' Q
theorem pI {R:PV->Tg->PV->Tg->PK->Prop}{r:R2} (c:dO X R r) (h:LE X (q2 R ta tb) σ H Q'):mP r (LE X ta) (LE X tb) σ H Q':=by
 obtain ⟨W,ρ,Q,px,q,k⟩:=h
 refine⟨W,ρ,_,px,q,fun u H1 x g s1 r1 q1=>⟨W,ρ,_,px.mono s1,q1,fun v H2 y g' s2 r2 q2=>?_⟩⟩
 exact c W H H2 u v x y g g' Q Q' (s1.trans s2) (fun a z=>px.new z) (r1.same s2 fun _ z=>z) (r2.same (a9.refl _) fun _ z=>Mg.back s1 z) q2 fun w H' z gz s3 r3 q3=>k w H' z gz ((s1.trans s2).trans s3) r3 q3
def RI (C:Int->Int->Prop) (f:Int->Int->PV):PV->Tg->PV->Tg->PK->Prop:=fun x _ y _ Q=>∃ i j,x = .int i/\y = .int j/\C i j/\Q (f i j) .fr
def dY (f:Int->Int->PV):PV->Tg->PV->Tg->PK->Prop:=fun x _ y _ Q=>∃ i j,x = .int i/\y = .int j/\Q (f i j) .fr
theorem nJ {C:Int->Int->Prop}{f:Int->Int->Int}:dO X (RI C fun i j=>.int (f i j)) (rI C fun i j=>.int (f i j)):=by
 rintro W Hs H u v x y g g' Q Q' s n r1 r2 ⟨i,j,rfl,rfl,c,q⟩ k
 cases r1; cases r2
 exact⟨i,j,rfl,rfl,c,k _ _ _ _ (a9.refl _) (.int _) q⟩
theorem E6 {f:Int->Int->Int}:dO X (dY fun i j=>.int (f i j)) (gS fun i j=>.int (f i j)):=by
 rintro W Hs H u v x y g g' Q Q' s n r1 r2 ⟨i,j,rfl,rfl,q⟩ k
 cases r1; cases r2
 exact⟨i,j,rfl,rfl,k _ _ _ _ (a9.refl _) (.int _) q⟩
theorem lC {f:Int->Int->Bool}:dO X (dY fun i j=>.bl (f i j)) (gS fun i j=>.bl (f i j)):=by
 rintro W Hs H u v x y g g' Q Q' s n r1 r2 ⟨i,j,rfl,rfl,q⟩ k
 cases r1; cases r2
 exact⟨i,j,rfl,rfl,k _ _ _ _ (a9.refl _) (.bl _) q⟩
def jY (neg:Bool):PV->Tg->PV->Tg->PK->Prop:=fun x _ y _ Q=>(∃ i j,x = .int i/\y = .int j/\Q (.bl (if neg=true then !decide (i=j) else decide (i=j))) .fr) ∨ (∃ i j,x = .bl i/\y = .bl j/\Q (.bl (if neg=true then !decide (i=j) else decide (i=j))) .fr)
theorem E7 (i j:Int):decide (V.int i=V.int j)=decide (i=j):=by
 rw [bg9,bc0,bc0]; exact⟨fun z=>V.int.inj z,fun z=>congrArg V.int z⟩
theorem E8 (i j:Bool):decide (V.bl i=V.bl j)=decide (i=j):=by
 rw [bg9,bc0,bc0]; exact⟨fun z=>V.bl.inj z,fun z=>congrArg V.bl z⟩
theorem E9:dO X (jY false) yH:=by
 rintro W Hs H u v x y g g' Q Q' s n r1 r2 (⟨i,j,rfl,rfl,q⟩ | ⟨i,j,rfl,rfl,q⟩) k
 ·cases r1; cases r2
  exact⟨rfl,by rw [E7]; exact k _ _ _ _ (a9.refl _) (.bl _) q⟩
 ·cases r1; cases r2
  exact⟨rfl,by rw [E8]; exact k _ _ _ _ (a9.refl _) (.bl _) q⟩
theorem ar0:dO X (jY true) yI:=by
 rintro W Hs H u v x y g g' Q Q' s n r1 r2 (⟨i,j,rfl,rfl,q⟩ | ⟨i,j,rfl,rfl,q⟩) k
 ·cases r1; cases r2
  exact⟨rfl,by rw [E7]; exact k _ _ _ _ (a9.refl _) (.bl _) q⟩
 ·cases r1; cases r2
  exact⟨rfl,by rw [E8]; exact k _ _ _ _ (a9.refl _) (.bl _) q⟩
def aV (t:aB):cC:=fun ρ Q=>t ρ fun x _=>∃ b,x = .bl b/\Q b
theorem uG {t:aB}{Q':Bool->Hp->Prop} (h:LT X (aV t) σ H Q'):LE X t σ H fun x H'=>∃ k,x = .bl k/\Q' k H':=by
 obtain ⟨W,ρ,Q,px,q,k⟩:=h
 refine⟨W,ρ,_,px,q,?_⟩
 rintro v H1 x g s r ⟨b,rfl,q⟩
 cases r
 exact⟨b,rfl,k _ _ s q⟩
def j5 (t u:cC):cC:=fun ρ Q=>t ρ fun c=>if c=true then u ρ Q else Q false
def j6 (t u:cC):cC:=fun ρ Q=>t ρ fun c=>if c=true then Q true else u ρ Q
def gH (t:cC):cC:=fun ρ Q=>t ρ fun c=>Q (!c)
variable {t u : cC} {Qb : Bool → Hp → Prop}
theorem ar1 (h:LT X (j5 t u) σ H Qb):xM (LT X t) (LT X u) σ H Qb:=by
 obtain ⟨W,ρ,Q,px,q,k⟩:=h
 refine⟨W,ρ,_,px,q,fun b H1 s1 q1=>?_⟩
 cases b with
 | true=>exact bI ⟨W,ρ,Q,px.mono s1,by simpa using q1,fun b H2 s2 q2=>k _ _ (s1.trans s2) q2⟩
 | false=>exact b6 (k _ _ s1 (by simpa using q1))
theorem ar2 (h:LT X (j6 t u) σ H Qb):xN (LT X t) (LT X u) σ H Qb:=by
 obtain ⟨W,ρ,Q,px,q,k⟩:=h
 refine⟨W,ρ,_,px,q,fun b H1 s1 q1=>?_⟩
 cases b with
 | false=>exact b6 ⟨W,ρ,Q,px.mono s1,by simpa using q1,fun b H2 s2 q2=>k _ _ (s1.trans s2) q2⟩
 | true=>exact bI (k _ _ s1 (by simpa using q1))
theorem ar3 (h:LT X (gH t) σ H Qb):xO (LT X t) σ H Qb:=by
 obtain ⟨W,ρ,Q,px,q,k⟩:=h
 exact⟨W,ρ,_,px,q,fun b H1 s1 q1=>k _ _ s1 q1⟩
def lD (ta tb:aB):aB:=fun ρ Q=>ta ρ fun x _=>∃ c,x = .bl c/\if c=true then tb ρ Q else Q (.bl false) .fr
def uH (ta tb:aB):aB:=fun ρ Q=>ta ρ fun x _=>∃ c,x = .bl c/\if c=true then Q (.bl true) .fr else tb ρ Q
def uI (ta:aB):aB:=fun ρ Q=>ta ρ fun x _=>∃ c,x = .bl c/\Q (.bl (!c)) .fr
theorem pH.back {K:PySem.W.Frag}{H0:Hp}{W:Addr->Prop}{H H1:Hp}{Q:PK} (k:pH K H0 W H Q Q') (s:a9 H H1):pH K H0 W H1 Q Q':=fun v H' x g s' r q=>k v H' x g (s.trans s') (r.same (a9.refl _) fun _ z=>Mg.back s z) q
theorem ar4 (h:LE X (lD ta tb) σ H Q'):xP (LE X ta) (LE X tb) σ H Q':=by
 obtain ⟨W,ρ,Q,px,q,k⟩:=h
 refine⟨W,ρ,_,px,q,?_⟩
 rintro v H1 x g s1 r ⟨c,rfl,q⟩
 cases r
 refine⟨c,rfl,?_⟩
 cases c with
 | true=>exact bI ⟨W,ρ,Q,px.mono s1,by simpa using q,k.back s1⟩
 | false=>exact b6 (k _ _ _ _ s1 (.bl _) (by simpa using q))
theorem ar5 (h:LE X (uH ta tb) σ H Q'):xQ (LE X ta) (LE X tb) σ H Q':=by
 obtain ⟨W,ρ,Q,px,q,k⟩:=h
 refine⟨W,ρ,_,px,q,?_⟩
 rintro v H1 x g s1 r ⟨c,rfl,q⟩
 cases r
 refine⟨c,rfl,?_⟩
 cases c with
 | false=>exact b6 ⟨W,ρ,Q,px.mono s1,by simpa using q,k.back s1⟩
 | true=>exact bI (k _ _ _ _ s1 (.bl _) (by simpa using q))
theorem ar6 (h:LE X (uI ta) σ H Q'):xR (LE X ta) σ H Q':=by
 obtain ⟨W,ρ,Q,px,q,k⟩:=h
 refine⟨W,ρ,_,px,q,?_⟩
 rintro v H1 x g s1 r ⟨c,rfl,q⟩
 cases r
 exact⟨c,rfl,k _ _ _ _ s1 (.bl _) q⟩
def aA:cH:=fun _ Q=>Q []
def a7 (te:aB) (tr:cH):cH:=fun ρ Q=>te ρ fun x g=>tr ρ fun xs=>Q ((x,g) :: xs)
variable {Qa : List V → Hp → Prop} {tr : cH}
theorem ar7 (h:LA X aA σ H Qa):kX σ H Qa:=by
 obtain ⟨W,ρ,Q,px,q,k⟩:=h
 exact k _ _ _ (a9.refl _) .nil q
theorem ar8 (h:LA X (a7 ta tr) σ H Qa):jU (LE X ta) (LA X tr) σ H Qa:=by
 obtain ⟨W,ρ,Q,px,q,k⟩:=h
 refine⟨W,ρ,_,px,q,fun v H1 x g s1 r1 q1=>⟨W,ρ,_,px.mono s1,q1,fun vs H2 xs s2 r2 q2=>?_⟩⟩
 exact k _ _ _ (s1.trans s2) (.cons (r1.same s2 fun _ z=>z) (r2.same (a9.refl _) s1)) q2
def fU (t:cH):aB:=fun ρ Q=>t ρ fun xs=>xs.length<=1000/\flats (xs.map (·.1))=true/\Q (.tup (xs.map (·.1))) .fr
def eU (t:cH):aB:=fun ρ Q=>t ρ fun xs=>xs.length<=1000/\flats (xs.map (·.1))=true/\Q (.lst (xs.map (·.1))) .fr
theorem gG.length {K:PySem.W.Frag}{H0:Hp}{W:Addr->Prop}{Hs H:Hp}:∀ {vs:List V}{xs:List (PV × Tg)},gG K H0 W Hs H vs xs->vs.length=xs.length
 | _,_,.nil=>rfl
 | _,_,.cons _ t=>congrArg (· + 1) t.length
theorem uJ {n:Nat} (h:n<=1000):n<=sizeLine:=bi9 (tS h)
theorem ar9 (h:LE X (fU tr) σ H Q'):yQ (LA X tr) σ H Q':=by
 obtain ⟨W,ρ,Q,px,q,k⟩:=h
 refine⟨W,ρ,_,px,q,?_⟩
 rintro vs H1 xs s1 r ⟨hl,n,q⟩
 refine⟨by rw [r.length]; exact uJ hl,fun p hp=>k _ _ _ .fr (s1.trans (b7 hp _)) (.tup b9 ?_) q⟩
 exact (r.any.flat n).same (b7 hp _) fun _ z=>z
theorem as0 (h:LE X (eU tr) σ H Q'):yR (LA X tr) σ H Q':=by
 obtain ⟨W,ρ,Q,px,q,k⟩:=h
 refine⟨W,ρ,_,px,q,?_⟩
 rintro vs H1 xs s1 r ⟨hl,n,q⟩
 refine⟨by rw [r.length]; exact uJ hl,fun p hp=>k _ _ _ .fr (s1.trans (b7 hp _)) (.lst (s1.free hp) b9 ?_) q⟩
 exact (r.any.flat n).same (b7 hp _) fun _ z=>z
def eV (X:Cx) (R:List PV->(PV->Prop)->Prop) (r:List V->Hp->VK->Prop):Prop:=∀ (H:Hp) (vs:List V) (xs:List PV) (Q:PV->Prop) (Q':VK),Reps X.K (fun _=>True) H vs xs->R xs Q->
 (∀ w H' z,a9 H H'->aE X.K (fun a=>H a=none) H' w z->Q z->Q' w H')->r vs H Q'
def aF (R:List PV->(PV->Prop)->Prop) (t:cH):aB:=fun ρ Q=>t ρ fun xs=>R (xs.map (·.1)) fun z=>Q z .fr
theorem F0 {R:List PV->(PV->Prop)->Prop}{r:List V->Hp->VK->Prop} (c:eV X R r) (h:LE X (aF R tr) σ H Q'):tF r (LA X tr) σ H Q':=by
 obtain ⟨W,ρ,Q,px,q,k⟩:=h
 refine⟨W,ρ,_,px,q,fun vs H1 xs s1 r1 q1=>c H1 vs _ _ Q' r1.any q1 fun w H' z s2 r2 q2=>k w H' z .fr (s1.trans s2) (r2.same (a9.refl _) fun _ z=>s1.free z) q2⟩
end
structure j7 where
 nx:bA->Prop
 rt:PV->Prop
 bk:bA->Prop:=fun _=>False
 ct:bA->Prop:=fun _=>False
abbrev aK:=j7->bA->Prop
def Ev (W:Addr->Prop) (H:Hp) (W':Addr->Prop) (H':Hp):Prop:=∀ b o,H b=some o->¬ W b->H' b=some o/\¬ W' b
theorem Ev.trans {W W1 W2:Addr->Prop}{H H1 H2:Hp} (a:Ev W H W1 H1) (b:Ev W1 H1 W2 H2):Ev W H W2 H2:=fun c o h n=>let ⟨h1,n1⟩:=a c o h n; b c o h1 n1
theorem Ev.same {W:Addr->Prop}{H H':Hp} (s:a9 H H'):Ev W H W H':=fun c o h n=>⟨s _ _ h,n⟩
theorem Ev.refl (W:Addr->Prop) (H:Hp):Ev W H W H:=Ev.same (a9.refl _)
structure nK (X:Cx) (W:Addr->Prop) (H:Hp) (D':j7) (D:c8):Prop where
 nx:∀ W' σ' H' ρ',Ev W H W' H'->PX X.K X.H₀ W' σ' ρ' H'->D'.nx ρ'->D.nx σ' H'
 rt:∀ v H' x,a9 X.H₀ H'->aE X.K (fun a=>X.H₀ a=none) H' v x->D'.rt x->D.rt v H'
 bk:∀ W' σ' H' ρ',Ev W H W' H'->PX X.K X.H₀ W' σ' ρ' H'->D'.bk ρ'->D.bk σ' H'
 ct:∀ W' σ' H' ρ',Ev W H W' H'->PX X.K X.H₀ W' σ' ρ' H'->D'.ct ρ'->D.ct σ' H'
theorem nK.step {X:Cx}{W W1:Addr->Prop}{H H1:Hp}{D':j7}{D:c8} (k:nK X W H D' D) (e:Ev W H W1 H1):nK X W1 H1 D' D:=
 ⟨fun W' σ' H' ρ' e'=>k.nx W' σ' H' ρ' (e.trans e'),k.rt,fun W' σ' H' ρ' e'=>k.bk W' σ' H' ρ' (e.trans e'),fun W' σ' H' ρ' e'=>k.ct W' σ' H' ρ' (e.trans e')⟩
def LS (X:Cx) (t:aK):TS:=fun D σ H=>∃ (W:Addr->Prop) (ρ:bA) (D':j7),PX X.K X.H₀ W σ ρ H/\t D' ρ/\nK X W H D' D
theorem fF {α:Type}{l:List α}{i j:Nat}{a b:α} (h:(l.set i a)[j]? = some b):(j=i/\i < l.length/\b=a) ∨ (j ≠ i/\l[j]? = some b):=by
 by_cases e:j=i
 ·subst e
  have hl:j < (l.set j a).length:=(aZ9.mp h).1
  rw [bd8] at hl
  rw [bg2 hl] at h
  exact .inl ⟨rfl,hl,(bc1 h).symm⟩
 ·rw [bb8 (Ne.symm e)] at h
  exact .inr ⟨e,h⟩
section
variable {K : PySem.W.Frag} {H0 : Hp} {W W' : Addr → Prop} {σ : St} {ρ : bA} {H H' Hs : Hp}
theorem PX.setSh {i:Nat}{v:V}{g:Bool}{x:PV} (p:PX K H0 W σ ρ H) (r:aE K (Ms H0 W g) H v x):PX K H0 W (σ.set i (some v)) (ρ.set i (some (.sh g x))) H:=by
 refine⟨by rw [bd8,bd8]; exact p.len,p.same,p.wm,fun j m h=>?_,fun j k y z a h1 h2 h3 h4=>?_⟩
 ·rcases fF h with ⟨rfl,hl,e⟩ | ⟨hne,h⟩
  ·cases e
   rw [p.len] at hl
   exact⟨v,bg2 hl,r⟩
  ·obtain ⟨u,e,q⟩:=p.sl j m h
   exact⟨u,by rw [bb8 (Ne.symm hne)]; exact e,q⟩
 ·rcases fF h1 with ⟨_,_,e⟩ | ⟨n1,h1⟩
  ·cases e
  ·rcases fF h2 with ⟨_,_,e⟩ | ⟨n2,h2⟩
   ·cases e
   ·rw [bb8 (Ne.symm n1)] at h3
    rw [bb8 (Ne.symm n2)] at h4
    exact p.dis j k y z a h1 h2 h3 h4
theorem PX.setNone {i:Nat}{o:Option V} (p:PX K H0 W σ ρ H):PX K H0 W (σ.set i o) (ρ.set i none) H:=by
 refine⟨by rw [bd8,bd8]; exact p.len,p.same,p.wm,fun j m h=>?_,fun j k y z a h1 h2 h3 h4=>?_⟩
 ·rcases fF h with ⟨rfl,hl,e⟩ | ⟨hne,h⟩
  ·cases e
  ·obtain ⟨u,e,q⟩:=p.sl j m h
   exact⟨u,by rw [bb8 (Ne.symm hne)]; exact e,q⟩
 ·rcases fF h1 with ⟨_,_,e⟩ | ⟨n1,h1⟩
  ·cases e
  ·rcases fF h2 with ⟨_,_,e⟩ | ⟨n2,h2⟩
   ·cases e
   ·rw [bb8 (Ne.symm n1)] at h3
    rw [bb8 (Ne.symm n2)] at h4
    exact p.dis j k y z a h1 h2 h3 h4
def lE (W:Addr->Prop) (a:Addr):Addr->Prop:=fun b=>W b ∨ b=a
theorem uK {g:Bool}{a b:Addr} (n:b ≠ a) (h:Ms H0 W g b):Ms H0 (lE W a) g b:=by
 cases g with
 | true=>exact⟨fun z=>z.elim h.1 n,h.2⟩
 | false=>exact fun z=>z.elim h n
theorem PX.setOwn {i:Nat}{a:Addr}{x:PV} (p:PX K H0 W σ ρ Hs) (s:a9 Hs H) (ha:Hs a=none) (r:gF K (Ms H0 (lE W a) true) H a x):PX K H0 (lE W a) (σ.set i (some (.ref a))) (ρ.set i (some (.own x))) H:=by
 have old:∀ b o,Hs b=some o->b ≠ a:=fun b o e z=>by rw [z,ha] at e; cases e
 have kp:∀ g,gT (Ms H0 W g) (Ms H0 (lE W a) g) Hs H:=fun g=>⟨fun b _ m e=>⟨uK (old _ _ e) m,s _ _ e⟩,fun b _ m e=>⟨uK (old _ _ e) m,s _ _ e⟩,fun b _ m e=>⟨uK (old _ _ e) m,s _ _ e⟩,fun _ _ e=>s _ _ e,fun _ _ _ e=>s _ _ e⟩
 have wa : ¬ W a:=(p.new ha).1
 refine⟨by rw [bd8,bd8]; exact p.len,p.same.trans s,fun b z=>?_,fun j m h=>?_,fun j k y z b h1 h2 h3 h4=>?_⟩
 ·rcases z with z | rfl
  ·obtain ⟨h1,o,h2,h3⟩:=p.wm b z
   exact⟨h1,o,s _ _ h2,h3⟩
  ·exact⟨(p.new ha).2,r.at⟩
 ·rcases fF h with ⟨rfl,hl,e⟩ | ⟨hne,h⟩
  ·cases e
   rw [p.len] at hl
   exact⟨_,bg2 hl,a,rfl,.inr rfl,r⟩
  ·obtain ⟨u,e,q⟩:=p.sl j m h
   refine⟨u,by rw [bb8 (Ne.symm hne)]; exact e,?_⟩
   cases m with
   | sh g y=>exact aE.keep (kp g) q
   | own y=>
    obtain ⟨b,e1,e2,q⟩:=q
    exact⟨b,e1,.inl e2,q.keep (kp true) fun o z=>s _ _ z⟩
 ·have ne:∀ {j:Nat}{y:PV},ρ[j]? = some (some (.own y))->σ[j]? ≠ some (some (.ref a)):=fun {j y} h1 h2=>by
   obtain ⟨u,e,c,e1,e2,_⟩:=p.sl j _ h1
   rw [h2] at e
   cases e
   cases e1
   exact wa e2
  rcases fF h1 with ⟨e1,l1,_⟩ | ⟨n1,h1⟩
  ·rcases fF h2 with ⟨e2,_,_⟩ | ⟨n2,h2⟩
   ·rw [e1,e2]
   ·rw [e1,bg2 (by rw [<- p.len]; exact l1)] at h3
    rw [bb8 (Ne.symm n2)] at h4
    cases h3
    exact absurd h4 (ne h2)
  ·rw [bb8 (Ne.symm n1)] at h3
   rcases fF h2 with ⟨e2,l2,_⟩ | ⟨n2,h2⟩
   ·rw [e2,bg2 (by rw [<- p.len]; exact l2)] at h4
    cases h4
    exact absurd h3 (ne h1)
   ·rw [bb8 (Ne.symm n2)] at h4
    exact p.dis j k y z b h1 h2 h3 h4
theorem Ev.own {a:Addr} (s:a9 Hs H) (ha:Hs a=none):Ev W Hs (lE W a) H:=fun b o e n=>⟨s _ _ e,fun z=>z.elim n fun z=>by rw [z,ha] at e; cases e⟩
theorem pJ {g:Bool}{a b:Addr} (wa:W a) (h:Ms H0 W g b):b ≠ a:=by
 cases g with
 | true=>exact fun z=>h.1 (by rw [z]; exact wa)
 | false=>exact fun z=>h (by rw [z]; exact wa)
theorem PX.updOwn {i:Nat}{a:Addr}{x y:PV}{o:HO} (p:PX K H0 W σ ρ H) (hi:ρ[i]? = some (some (.own x))) (ha:σ[i]? = some (some (.ref a))) (wa:W a) (mu:gE o=true) (r:gF K (Ms H0 W true) (upd H a o) a y) :
  PX K H0 W σ (ρ.set i (some (.own y))) (upd H a o):=by
 obtain ⟨w0,o',e',mu'⟩:=p.wm a wa
 have kp:∀ g,gT (Ms H0 W g) (Ms H0 W g) H (upd H a o):=fun g=>.upd e' mu' fun b m=>⟨pJ wa m,m⟩
 refine⟨by rw [bd8]; exact p.len,fun b u e=>by rw [aM (fun z=>by rw [z,w0] at e; cases e)]; exact p.same _ _ e,fun b z=>?_,fun j m h=>?_,fun j k y' z b h1 h2 h3 h4=>?_⟩
 ·by_cases e:b=a
  ·subst e; exact⟨w0,o,b9,mu⟩
  ·obtain ⟨h1,o2,h2,h3⟩:=p.wm b z
   exact⟨h1,o2,by rw [aM e]; exact h2,h3⟩
 ·rcases fF h with ⟨rfl,hl,e⟩ | ⟨hne,h⟩
  ·cases e
   exact⟨_,ha,a,rfl,wa,r⟩
  ·obtain ⟨u,e,q⟩:=p.sl j m h
   refine⟨u,e,?_⟩
   cases m with
   | sh g y=>exact aE.keep (kp g) q
   | own y=>
    obtain ⟨b,e1,e2,q⟩:=q
    have hb:b ≠ a:=fun z=>by
     subst e1
     rw [z] at e
     exact hne (p.dis j i _ _ a h hi e ha)
    exact⟨b,e1,e2,q.keep (kp true) fun o z=>by rw [aM hb]; exact z⟩
 ·have g1:∃ y,ρ[j]? = some (some (.own y)):=by
   rcases fF h1 with ⟨e,_,_⟩ | ⟨_,h⟩
   ·exact⟨x,by rw [e]; exact hi⟩
   ·exact⟨_,h⟩
  have g2:∃ y,ρ[k]? = some (some (.own y)):=by
   rcases fF h2 with ⟨e,_,_⟩ | ⟨_,h⟩
   ·exact⟨x,by rw [e]; exact hi⟩
   ·exact⟨_,h⟩
  obtain ⟨y1,g1⟩:=g1
  obtain ⟨y2,g2⟩:=g2
  exact p.dis j k y1 y2 b g1 g2 h3 h4
theorem Ev.upd {a:Addr}{o:HO} (wa:W a):Ev W H W (upd H a o):=fun b u e n=>⟨by rw [aM (fun z=>n (by rw [z]; exact wa))]; exact e,n⟩
end
section
variable {X : Cx} {σ : St} {H : Hp} {D : c8} {te : aB} {t u : aK}
def cX:aK:=fun D ρ=>D.nx ρ
def aL (t u:aK):aK:=fun D ρ=>t { D with nx:=u D } ρ
theorem as1 (h:LS X cX D σ H):xS D σ H:=by
 obtain ⟨W,ρ,D',px,q,k⟩:=h
 exact k.nx W σ H ρ (Ev.refl _ _) px q
theorem as2 (h:LS X (aL t u) D σ H):xT (LS X t) (LS X u) D σ H:=by
 obtain ⟨W,ρ,D',px,q,k⟩:=h
 exact⟨W,ρ,_,px,q,fun W' σ' H' ρ' e px' q'=>⟨W',ρ',D',px',q',k.step e⟩,k.rt,k.bk,k.ct⟩
def F1:Tg->PV->Bool
 | .fr,_=>true
 | .nw,_=>true
 | _,x=>flat x
def F2:Tg->PV->Prop
 | .rd,x=>flat x=true
 | _,_=>True
theorem as3 {K:PySem.W.Frag}{H0 Hs H:Hp}{W:Addr->Prop}{σ:St}{ρ:bA}{g:Tg}{x:PV}{v:V} (px:PX K H0 W σ ρ Hs) (n:F2 g x) (r:aE K (Mg H0 W Hs g) H v x):aE K (Ms H0 W (F1 g x)) H v x:=by
 cases g with
 | fr=>exact Nw.rep (g:=.fr) px trivial r
 | nw=>exact Nw.rep (g:=.nw) px trivial r
 | sh=>
  show aE K (Ms H0 W (flat x)) H v x
  cases e:flat x with
  | true=>exact r.flat e
  | false=>exact r.same (a9.refl _) fun _ z=>z
 | rd=>exact r.flat n
def aX (i:Nat) (te:aB):aK:=fun D ρ=>te ρ fun x g=>F2 g x/\D.nx (ρ.set i (some (.sh (F1 g x) x)))
theorem F3 {i:Nat} (h:LS X (aX i te) D σ H):jT (LE X te) (cV i) D σ H:=by
 obtain ⟨W,ρ,D',px,q,k⟩:=h
 refine⟨W,ρ,_,px,q,?_⟩
 rintro v H1 x g s r ⟨n,q⟩
 exact k.nx W _ H1 _ (Ev.same s) ((px.mono s).setSh (as3 px n r)) q
def F4:PV->Bool
 | .lst xs=>flats xs
 | .dK ps=>flats (ps.map (·.2))
 | .dT ps=>flats (ps.map (·.2))
 | _=>false
theorem as4 {K:PySem.W.Frag}{M:Addr->Prop}{H:Hp}{v:V}{x:PV} (r:aE K M H v x) (o:F4 x=true):∃ a,v = .ref a/\M a/\∀ M',gF K M' H a x:=by
 cases r with
 | lst m e r=>exact⟨_,rfl,m,fun _=>⟨_,e,r.flat o⟩⟩
 | dK m e q r=>exact⟨_,rfl,m,fun _=>⟨_,e,q,r.flat o⟩⟩
 | dT m e q r=>exact⟨_,rfl,m,fun _=>⟨_,e,q,r.flat o⟩⟩
 | _=>cases o
def gU (i:Nat) (te:aB):aK:=fun D ρ=>te ρ fun x g=>g = .fr/\F4 x=true/\D.nx (ρ.set i (some (.own x)))
theorem as5 {i:Nat} (h:LS X (gU i te) D σ H):jT (LE X te) (cV i) D σ H:=by
 obtain ⟨W,ρ,D',px,q,k⟩:=h
 refine⟨W,ρ,_,px,q,?_⟩
 rintro v H1 x g s r ⟨rfl,o,q⟩
 obtain ⟨a,rfl,m,w⟩:=as4 r o
 exact k.nx _ _ H1 _ (Ev.own s m) (px.setOwn s m (w _)) q
def bK (te:aB):aK:=fun D ρ=>te ρ fun x g=>Nw g x/\D.rt x
theorem as6 (h:LS X (bK te) D σ H):sQ (LE X te) D σ H:=by
 obtain ⟨W,ρ,D',px,q,k⟩:=h
 refine⟨W,ρ,_,px,q,?_⟩
 rintro v H1 x g s r ⟨n,q⟩
 exact k.rt v H1 x (px.same.trans s) ((Nw.rep px n r).same (a9.refl _) fun _ z=>z.2) q
def Slot.nw:Slot->Prop
 | .own _=>True
 | .sh true _=>True
 | .sh false x=>flat x=true
def j8 (i:Nat):aK:=fun D ρ=>∃ m,ρ[i]? = some (some m)/\m.nw/\D.rt m.val
theorem as7 {i:Nat} (h:LS X (j8 i) D σ H):sQ (jO i) D σ H:=by
 obtain ⟨W,ρ,D',px,⟨m,hi,n,q⟩,k⟩:=h
 obtain ⟨v,ev,r⟩:=px.sl i _ hi
 refine⟨v,ev,k.rt v H _ px.same ?_ q⟩
 cases m with
 | own x=>
  obtain ⟨a,rfl,wa,r⟩:=r
  exact r.rep (fun _ z=>z.2) (px.wm a wa).1
 | sh g x=>
  cases g with
  | true=>exact aE.same r (a9.refl _) fun _ z=>z.2
  | false=>exact aE.flat n r
def cI (c:cC) (t u:aK):aK:=fun D ρ=>c ρ fun b=>if b=true then t D ρ else u D ρ
theorem as8 {c:cC} (h:LS X (cI c t u) D σ H):xV (LT X c) (LS X t) (LS X u) D σ H:=by
 obtain ⟨W,ρ,D',px,q,k⟩:=h
 refine⟨W,ρ,_,px,q,fun b H1 s q1=>?_⟩
 cases b with
 | true=>exact bI ⟨W,ρ,D',px.mono s,by simpa using q1,k.step (Ev.same s)⟩
 | false=>exact b6 ⟨W,ρ,D',px.mono s,by simpa using q1,k.step (Ev.same s)⟩
def uL (c:cC) (tb:aK):aK:=fun D ρ=>∃ I:Nat->bA->Prop,(∃ m,I m ρ)/\∀ m ρ',I m ρ'->c ρ' fun b=>if b=true then tb { D with nx:=fun ρ2=>∃ m',m' < m/\I m' ρ2,ct:=fun ρ2=>∃ m',m' < m/\I m' ρ2,bk:=D.nx } ρ' else D.nx ρ'
theorem as9 {c:cC}{tb:aK} (h:LS X (uL c tb) D σ H):xY (LT X c) (LS X tb) D σ H:=by
 obtain ⟨W,ρ,D',px,⟨I,⟨m0,i0⟩,turn⟩,k⟩:=h
 refine⟨fun m σ2 H2=>∃ W2 ρ2,PX X.K X.H₀ W2 σ2 ρ2 H2/\Ev W H W2 H2/\I m ρ2,⟨m0,W,ρ,px,Ev.refl _ _,i0⟩,?_⟩
 rintro m σ2 H2 ⟨W2,ρ2,px2,e2,i2⟩
 refine⟨W2,ρ2,_,px2,turn m ρ2 i2,fun b H3 s3 q3=>?_⟩
 cases b with
 | true=>
  refine bI ⟨fun σ4 H4=>∃ W4 ρ4,PX X.K X.H₀ W4 σ4 ρ4 H4/\Ev W H W4 H4/\∃ m',m' < m/\I m' ρ4,fun σ4 H4 ⟨W4,ρ4,a,b,m',c,d⟩=>⟨m',c,W4,ρ4,a,b,d⟩,W2,ρ2,_,px2.mono s3,by simpa using q3,?_⟩
  have e3:Ev W H W2 H3:=e2.trans (Ev.same s3)
  exact⟨fun W' σ' H' ρ' e p q=>⟨W',ρ',p,e3.trans e,q⟩,k.rt,fun W' σ' H' ρ' e p q=>k.nx W' σ' H' ρ' (e3.trans e) p q,fun W' σ' H' ρ' e p q=>⟨W',ρ',p,e3.trans e,q⟩⟩
 | false=>exact b6 (k.nx W2 σ2 H3 ρ2 (e2.trans (Ev.same s3)) (px2.mono s3) (by simpa using q3))
end
theorem lim {n:Nat} (h:n<=16000000):n<=sizeLine:=bi9 (gD h)
theorem aE.sqT {K:PySem.W.Frag}{M:Addr->Prop}{H:Hp}{v:V}{xs:List PV} (r:aE K M H v (.tup xs)):∃ a us,v = .ref a/\H a=some (.tup us)/\Reps K M H us xs:=by
 cases r with
 | tup e r=>exact⟨_,_,rfl,e,r⟩
theorem aE.sqL {K:PySem.W.Frag}{M:Addr->Prop}{H:Hp}{v:V}{xs:List PV} (r:aE K M H v (.lst xs)):∃ a us,v = .ref a/\M a/\H a=some (.lst us)/\Reps K M H us xs:=by
 cases r with
 | lst m e r=>exact⟨_,_,rfl,m,e,r⟩
theorem iE.sqL {K:PySem.W.Frag}{H:Hp}{a:Addr}{ns:List Int} (h:iE K H a ns):aG K H a (ns.map V.int):=h.elim (fun z=>.inl (.inr z)) .inr
def iF:PV->Option (List PV)
 | .tup xs=>some xs
 | .lst xs=>some xs
 | .scr ns=>some (intz ns)
 | .kt xs=>some xs
 | _=>none
theorem aE.seq {K:PySem.W.Frag}{M:Addr->Prop}{H:Hp}{v:V}{x:PV}{xs:List PV} (r:aE K M H v x) (e:iF x=some xs):∃ a us,v = .ref a/\(aG K H a us ∨ aD K H a us)/\Reps K M H us xs:=by
 cases r with
 | tup h r=>cases e; exact⟨_,_,rfl,.inr (aD.of h),r⟩
 | lst m h r=>cases e; exact⟨_,_,rfl,.inl (aG.of h),r⟩
 | scr h=>cases e; exact⟨_,_,rfl,.inl h.sqL,Reps.intz _⟩
 | kt h r=>cases e; exact⟨_,_,rfl,.inr (.inr h),r⟩
 | _=>cases e
section
variable {X : Cx} {σ : St} {H : Hp} {D : c8} {te ti to : aB} {t u : aK} {Q' : VK}
theorem _root_.PP.PX.updL {K:PySem.W.Frag}{H0:Hp}{W:Addr->Prop}{σ:St}{ρ:bA}{H:Hp}{i:Nat}{a:Addr}{x:PV}{us:List V}{ys:List PV} (p:PX K H0 W σ ρ H) (hi:ρ[i]? = some (some (.own x))) (ha:σ[i]? = some (some (.ref a))) (wa:W a) (r:Reps K (Ms H0 W true) (upd H a (.lst us)) us ys) :
  PX K H0 W σ (ρ.set i (some (.own (.lst ys)))) (upd H a (.lst us)):=p.updOwn hi ha wa rfl (y:=.lst ys) ⟨us,b9,r⟩
def j9 (i:Nat) (te:aB):aK:=fun D ρ=>∃ xs,ρ[i]? = some (some (.own (.lst xs)))/\te ρ fun x g=>Nw g x/\xs.length < 16000000/\D.nx (ρ.set i (some (.own (.lst (xs ++ [x])))))
theorem at0 {i:Nat} (h:LS X (j9 i te) D σ H):xU (zP X.K "list" zT (jO i) (jU (LE X te) kX)) D σ H:=by
 obtain ⟨W,ρ,D',px,⟨xs,hi,q⟩,k⟩:=h
 obtain ⟨v,ev,a,rfl,wa,us,ea,r⟩:=px.sl i _ hi
 refine⟨_,ev,nF (aG.of ea),W,ρ,_,px,q,?_⟩
 rintro w H1 x g s rx ⟨n,hl,q⟩
 have ea1:=s _ _ ea
 refine⟨a,us,w,rfl,rfl,ea1,gD (by rw [r.length]; omega),?_⟩
 refine k.nx W σ _ _ ((Ev.same s).trans (Ev.upd wa)) ((px.mono s).updL hi ev wa ?_) q
 exact ((r.same s fun _ z=>z).append (.cons (Nw.rep px n rx) .nil)).keep (.upd ea1 rfl fun b m=>⟨pJ wa m,m⟩)
def jA (i:Nat) (tk te:aB):aK:=fun D ρ=>te ρ fun x g=>∃ xs,ρ[i]? = some (some (.own (.lst xs)))/\tk ρ fun y _=>∃ n j,y = .int n/\eQ xs.length n=some j/\Nw g x/\D.nx (ρ.set i (some (.own (.lst (xs.set j x)))))
theorem at2 {i:Nat}{tk:aB} (h:LS X (jA i tk te) D σ H):jT (LE X te) (sT (jO i) (LE X tk) tK) D σ H:=by
 obtain ⟨W,ρ,D',px,q,k⟩:=h
 refine⟨W,ρ,_,px,q,?_⟩
 rintro w H1 x g s rx ⟨xs,hi,q1⟩
 obtain ⟨v,ev,a,rfl,wa,us,ea,r⟩:=(px.mono s).sl i _ hi
 refine⟨_,ev,W,ρ,_,px.mono s,q1,?_⟩
 rintro kv H2 y gy s2 ry ⟨n,j,rfl,hj,nw,q2⟩
 cases ry
 have ea2:=s2 _ _ ea
 refine⟨a,us,n,j,rfl,rfl,ea2,by rw [r.length]; exact hj,?_⟩
 refine k.nx W σ _ _ ((Ev.same (s.trans s2)).trans (Ev.upd wa)) ((px.mono (s.trans s2)).updL hi ev wa ?_) q2
 exact (Reps.set ((Nw.rep px nw rx).same s2 fun _ z=>z) j (r.same s2 fun _ z=>z)).keep (.upd ea2 rfl fun b m=>⟨pJ wa m,m⟩)
end
theorem Reps.atI {K:PySem.W.Frag}{M:Addr->Prop}{H:Hp}{us:List V}{xs:List PV}{i:Int}{z:PV} (r:Reps K M H us xs) (h:L2.atI xs i=some z):∃ v,L2.atI us i=some v/\aE K M H v z:=by
 unfold L2.atI at h ⊢
 rw [r.length]
 cases e:eQ xs.length i with
 | none=>rw [e] at h; cases h
 | some j=>rw [e] at h; exact r.at h
section
variable {X : Cx} {σ : St} {H : Hp} {Q' : VK} {ta tb te : aB} {tr : cH}
def uM:PV->Tg->PV->Tg->PK->Prop:=fun x g y _ Q=>∃ xs i z,iF x=some xs/\y = .int i/\L2.atI xs i=some z/\Q z g
theorem at3:dO X uM (zL X.K):=by
 rintro W Hs H u v x y g g' Q Q' s n r1 r2 ⟨xs,i,z,e,rfl,hz,q⟩ k
 cases r2
 obtain ⟨a,us,rfl,hs,r⟩:=r1.seq e
 obtain ⟨v,hv,rv⟩:=r.atI hz
 rcases hs with hs | hs
 ·exact .inl ⟨a,us,i,v,rfl,rfl,hs,hv,k v H z g (a9.refl _) rv q⟩
 ·exact .inr (.inl ⟨a,us,i,v,rfl,rfl,hs,hv,k v H z g (a9.refl _) rv q⟩)
def uN:PV->Option Nat
 | .tup xs=>some xs.length
 | .lst xs=>some xs.length
 | .scr ns=>some ns.length
 | .dK ps=>some ps.length
 | .kt xs=>some xs.length
 | _=>none
def cM:List PV->(PV->Prop)->Prop:=fun xs Q=>∃ x n,xs = [x]/\uN x=some n/\Q (.int n)
theorem Reps.one {K:PySem.W.Frag}{M:Addr->Prop}{H:Hp}{vs:List V}{x:PV} (r:Reps K M H vs [x]):∃ v,vs = [v]/\aE K M H v x:=by
 cases r with
 | cons r t=>cases t; exact⟨_,rfl,r⟩
theorem Reps.two {K:PySem.W.Frag}{M:Addr->Prop}{H:Hp}{vs:List V}{x y:PV} (r:Reps K M H vs [x,y]):∃ v w,vs = [v,w]/\aE K M H v x/\aE K M H w y:=by
 cases r with
 | cons r t=>
  obtain ⟨w,rfl,q⟩:=t.one
  exact⟨_,_,rfl,r,q⟩
theorem at5:eV X cM (fun xs H Q=>(∃ p ys,xs = [.ref p]/\(aG X.K H p ys ∨ aD X.K H p ys)/\Q (.int ys.length) H) ∨ ∃ a kvs,xs = [V.ref a]/\H a=some (.dK kvs)/\Q (.int kvs.length) H):=by
 rintro H vs xs Q Q' r ⟨x,n,rfl,e,q⟩ k
 obtain ⟨v,rfl,r1⟩:=r.one
 have fin:∀ {m:Nat},m=n->Q' (.int m) H:=fun {m} z=>by rw [z]; exact k _ _ _ (a9.refl _) (.int _) q
 cases r1 with
 | tup h r2=>cases e; exact .inl ⟨_,_,rfl,.inr (aD.of h),fin r2.length⟩
 | lst m h r2=>cases e; exact .inl ⟨_,_,rfl,.inl (aG.of h),fin r2.length⟩
 | scr h=>cases e; exact .inl ⟨_,_,rfl,.inl h.sqL,fin (by rw [ba3])⟩
 | kt h r2=>cases e; exact .inl ⟨_,_,rfl,.inr (.inr h),fin r2.length⟩
 | dK m h e' r=>
  cases e
  refine .inr ⟨_,_,rfl,h,fin ?_⟩
  have:=congrArg List.length e'
  rw [ba3,ba3] at this
  exact this
 | _=>cases e
def seqT:PV->Option (List PV)
 | .kt _=>none
 | x=>iF x
def F5:List PV->(PV->Prop)->Prop:=fun xs Q=>∃ x ys,xs = [x]/\seqT x=some ys/\flats ys=true/\Q (.tup ys)
def uO:List PV->(PV->Prop)->Prop:=fun xs Q=>∃ x ys,xs = [x]/\iF x=some ys/\flats ys=true/\Q (.lst ys)
theorem at6:eV X (fun xs Q=>F5 xs Q/\∀ ns,xs ≠ [.scr ns]) (fun xs H Q=>∃ p ys,xs = [.ref p]/\((aG X.K H p ys/\∀ l,H l=none->Q (.ref l) (upd H l (.tup ys))) ∨ (aD X.K H p ys/\Q (.ref p) H))):=by
 rintro H vs xs Q Q' r ⟨⟨x,ys,rfl,e,f,q⟩,nsc⟩ k
 obtain ⟨v,rfl,r1⟩:=r.one
 cases r1 with
 | tup h r2=>cases e; exact⟨_,_,rfl,.inr ⟨aD.of h,k _ _ _ (a9.refl _) (.tup h (r2.flat f)) q⟩⟩
 | lst m h r2=>cases e; exact⟨_,_,rfl,.inl ⟨aG.of h,fun l hl=>k _ _ _ (b7 hl _) (.tup b9 ((r2.flat f).same (b7 hl _) fun _ z=>z)) q⟩⟩
 | scr h=>exact absurd rfl (nsc _)
 | _=>cases e
theorem at7:eV X uO (fun xs H Q=>∃ p ys,xs = [.ref p]/\(aG X.K H p ys ∨ aD X.K H p ys)/\∀ l,H l=none->Q (.ref l) (upd H l (.lst ys))):=by
 rintro H vs xs Q Q' r ⟨x,ys,rfl,e,f,q⟩ k
 obtain ⟨v,rfl,r1⟩:=r.one
 obtain ⟨a,us,rfl,hs,r2⟩:=r1.seq e
 exact⟨_,_,rfl,hs,fun l hl=>k _ _ _ (b7 hl _) (.lst hl b9 ((r2.flat f).same (b7 hl _) fun _ z=>z)) q⟩
def uP:List PV->(PV->Prop)->Prop:=fun xs Q=>∃ bs:List Bool,xs = [.lst (bs.map PV.bl)]/\Q (.bl (bs.all id))
theorem Reps.ofBls {K:PySem.W.Frag}{M:Addr->Prop}{H:Hp}:∀ {ns:List Bool}{us:List V},Reps K M H us (ns.map PV.bl)->us=ns.map V.bl
 | [],_,.nil=>rfl
 | n :: r,_,.cons q t=>by
  cases q
  rw [Reps.ofBls t]; rfl
theorem at8:eV X uP (fun xs H Q=>∃ (a:Addr) (bs:List Bool),xs = [.ref a]/\aG X.K H a (bs.map V.bl)/\Q (.bl (bs.all id)) H):=by
 rintro H vs xs Q Q' r ⟨bs,rfl,q⟩ k
 obtain ⟨v,rfl,r1⟩:=r.one
 obtain ⟨a,us,rfl,_,h,r2⟩:=r1.sqL
 obtain rfl:=r2.ofBls
 exact⟨a,bs,rfl,aG.of h,k _ _ _ (a9.refl _) (.bl _) q⟩
def pK:List PV->(PV->Prop)->Prop:=fun xs Q=>∃ i j,xs = [.int i,.int j]/\Q (.int (if j < i then j else i))
def uQ:List PV->(PV->Prop)->Prop:=fun xs Q=>∃ i j,xs = [.int i,.int j]/\Q (.int (if j > i then j else i))
theorem at9:eV X pK (fun xs H Q=>∃ i j,xs = [.int i,.int j]/\Q (.int (if j < i then j else i)) H):=by
 rintro H vs xs Q Q' r ⟨i,j,rfl,q⟩ k
 obtain ⟨v,w,rfl,r1,r2⟩:=r.two
 cases r1; cases r2
 exact⟨i,j,rfl,k _ _ _ (a9.refl _) (.int _) q⟩
theorem au0:eV X uQ (fun xs H Q=>∃ i j,xs = [.int i,.int j]/\Q (.int (if j > i then j else i)) H):=by
 rintro H vs xs Q Q' r ⟨i,j,rfl,q⟩ k
 obtain ⟨v,w,rfl,r1,r2⟩:=r.two
 cases r1; cases r2
 exact⟨i,j,rfl,k _ _ _ (a9.refl _) (.int _) q⟩
abbrev bD:=List PV->(PV->Prop)->Prop
def nL (K:PySem.W.Frag) (p:bD):Sp:=fun vs H Q _=>∃ xs Qp,Reps K (fun _=>True) H vs xs/\p xs Qp/\∀ v H' x,a9 H H'->aE K (fun a=>H a=none) H' v x->Qp x->Q v H'
theorem au1 {p:bD}{E:XK} (h:LE X (aF p tr) σ H Q'):tD (nL X.K p) [] E (LA X tr) σ H Q':=by
 obtain ⟨W,ρ,Q,px,q,k⟩:=h
 refine⟨W,ρ,_,px,q,fun vs H1 xs s1 r1 q1=>⟨_,_,by rw [bd0]; exact r1.any,q1,fun v H' x s2 r2 q2=>k v H' x .fr (s1.trans s2) (r2.same (a9.refl _) fun _ z=>s1.free z) q2⟩⟩
def au2:PV->Option Bool
 | .non=>some false
 | .bl b=>some b
 | .int i=>some (i != 0)
 | .tup xs=>some (!xs.isEmpty)
 | .lst xs=>some (!xs.isEmpty)
 | .dK ps=>some (!ps.isEmpty)
 | _=>none
def lF (t:aB):cC:=fun ρ Q=>t ρ fun x _=>∃ b,au2 x=some b/\Q b
theorem uR {α β:Type}:∀ {l:List α}{m:List β},l.length=m.length->l.isEmpty=m.isEmpty
 | [],[],_=>rfl
 | _ :: _,_ :: _,_=>rfl
theorem au3 {t:aB}{Qb:Bool->Hp->Prop} (h:LT X (lF t) σ H Qb):LE X t σ H fun x H'=>∃ k,t6 X.K x H' k/\Qb k H':=by
 obtain ⟨W,ρ,Q,px,q,k⟩:=h
 refine⟨W,ρ,_,px,q,?_⟩
 rintro v H1 x g s r ⟨b,e,q⟩
 refine⟨b,?_,k _ _ s q⟩
 cases r with
 | non=>cases e; rfl
 | bl b=>cases e; rfl
 | int i=>cases e; rfl
 | str x=>cases e
 | tup h r=>cases e; exact .inr (.inl ⟨_,aD.of h,by rw [uR r.length]⟩)
 | lst m h r=>cases e; exact .inl ⟨_,aG.of h,by rw [uR r.length]⟩
 | dK m h e' r=>
  cases e
  refine .inr (.inr ⟨_,h,?_⟩)
  have:=congrArg List.length e'
  rw [ba3,ba3] at this
  rw [uR this]
 | dT m h e' r=>cases e
 | scr h=>cases e
 | kt h r=>cases e
 | exc h e' c=>cases e
def uS:PV->Bool
 | .non=>true
 | _=>false
def uT (neg:Bool):PV->Tg->PV->Tg->PK->Prop:=fun x _ y _ Q=>y = .non/\Q (.bl (if neg=true then !uS x else uS x)) .fr
theorem au4 {K:PySem.W.Frag}{M:Addr->Prop}{H:Hp}{v:V}{x:PV} (r:aE K M H v x):decide (v = .non)=uS x:=by
 cases r <;> rfl
theorem au5:dO X (uT false) (fun x y H Q=>y = .non/\Q (.bl (decide (x = .non))) H):=by
 rintro W Hs H u v x y g g' Q Q' s n r1 r2 ⟨rfl,q⟩ k
 cases r2
 exact⟨rfl,by rw [au4 r1]; exact k _ _ _ _ (a9.refl _) (.bl _) q⟩
end
structure lG (K:PySem.W.Frag) (H0:Hp) (W:Addr->Prop) (g:Bool) (H1:Hp) (J:It) (xs:List PV):Prop where
 go:∀ W' H' i,Ev W H1 W' H'->i < xs.length->J.go i H'
 yld:∀ W' H' i v H2,Ev W H1 W' H'->J.yld i H' v H2->i < xs.length->a9 H' H2/\∃ x,xs[i]? = some x/\aE K (Ms H0 W' g) H2 v x
 stop:∀ W' H',Ev W H1 W' H'->J.stop xs.length H'
abbrev eW:=bA->(List PV->Bool->Prop)->Prop
def LI (X:Cx) (t:eW):TI:=fun σ H R=>∃ (W:Addr->Prop) (ρ:bA) (Q:List PV->Bool->Prop),PX X.K X.H₀ W σ ρ H/\t ρ Q/\∀ J H1 xs g,a9 H H1->lG X.K X.H₀ W g H1 J xs->Q xs g->R J H1
theorem Ev.keep {H0:Hp}{W W':Addr->Prop}{H H':Hp}{g:Bool} (e:Ev W H W' H') (tw:∀ a,W a->∃ o,H a=some o/\gE o=true):gT (Ms H0 W g) (Ms H0 W' g) H H':=by
 have m:∀ {a:Addr}{o:HO},Ms H0 W g a->H a=some o->Ms H0 W' g a/\H' a=some o:=fun {a o} z h=>by
  cases g with
  | true=>
   obtain ⟨h1,h2⟩:=e a _ h z.1
   exact⟨⟨h2,z.2⟩,h1⟩
  | false=>
   obtain ⟨h1,h2⟩:=e a _ h z
   exact⟨h2,h1⟩
 refine⟨fun a _ z h=>m z h,fun a _ z h=>m z h,fun a _ z h=>m z h,fun a _ h=>(e a _ h fun z=>?_).1,fun a _ _ h=>(e a _ h fun z=>?_).1⟩
 ·obtain ⟨o,h',mu⟩:=tw a z; rw [h] at h'; cases h'; cases mu
 ·obtain ⟨o,h',mu⟩:=tw a z; rw [h] at h'; cases h'; cases mu
section
variable {X : Cx} {σ : St} {H : Hp} {te : aB} {tr : cH} {R : It → Hp → Prop}
def F6 (K:PySem.W.Frag) (tl:TE):TI:=fun σ H R=>tl σ H fun x H1=>∃ a,x = .ref a/\((∃ xs,aG K H1 a xs/\R (kT K a) H1) ∨ (∃ xs,aD K H1 a xs/\R (iX K a) H1))
def uU:Tg->List PV->Bool
 | .fr,_=>true
 | .nw,_=>true
 | _,xs=>flats xs
def dH (te:aB):eW:=fun ρ Q=>te ρ fun x g=>∃ xs,iF x=some xs/\(g = .rd->flat x=true)/\Q xs (uU g xs)
theorem F7 {K:PySem.W.Frag}{H0:Hp}{W:Addr->Prop}{g:Bool}{H1:Hp}{a:Addr}{us:List V}{xs:List PV} (tw:∀ a,W a->∃ o,H1 a=some o/\gE o=true) (ha:∀ W' H',Ev W H1 W' H'->aG K H' a us) (r:Reps K (Ms H0 W g) H1 us xs):lG K H0 W g H1 (kT K a) xs:=by
 have lr:=r.length
 refine⟨fun W' H' i e hi=>⟨us,us[i]'(by omega),ha W' H' e,by simp⟩,fun W' H' i v H2 e y hi=>?_,fun W' H' e=>⟨us,ha W' H' e,by omega⟩⟩
 obtain ⟨rfl,y⟩:=y
 obtain ⟨x,hx,rx⟩:=r.get (y us (ha W' _ e))
 exact⟨a9.refl _,x,hx,rx.keep (e.keep tw)⟩
theorem F8 {K:PySem.W.Frag}{H0:Hp}{W:Addr->Prop}{g:Bool}{H1:Hp}{a:Addr}{us:List V}{xs:List PV} (tw:∀ a,W a->∃ o,H1 a=some o/\gE o=true) (ha:∀ W' H',Ev W H1 W' H'->aD K H' a us) (r:Reps K (Ms H0 W g) H1 us xs):lG K H0 W g H1 (iX K a) xs:=by
 have lr:=r.length
 refine⟨fun W' H' i e hi=>⟨us,us[i]'(by omega),ha W' H' e,by simp⟩,fun W' H' i v H2 e y hi=>?_,fun W' H' e=>⟨us,ha W' H' e,by omega⟩⟩
 obtain ⟨rfl,y⟩:=y
 obtain ⟨x,hx,rx⟩:=r.get (y us (ha W' _ e))
 exact⟨a9.refl _,x,hx,rx.keep (e.keep tw)⟩
theorem lH {K:PySem.W.Frag}{H0 Hs H:Hp}{W:Addr->Prop}{σ:St}{ρ:bA}{g:Tg}{us:List V}{xs:List PV} (px:PX K H0 W σ ρ Hs) (hg:g = .rd->flats xs=true) (r:Reps K (Mg H0 W Hs g) H us xs):Reps K (Ms H0 W (uU g xs)) H us xs:=by
 cases g with
 | fr=>exact r.same (a9.refl _) fun _ z=>px.new z
 | nw=>exact r.same (a9.refl _) fun _ z=>z
 | sh=>
  show Reps K (Ms H0 W (flats xs)) H us xs
  cases e:flats xs with
  | true=>exact r.flat e
  | false=>exact r.same (a9.refl _) fun _ z=>z
 | rd=>exact r.flat (hg rfl)
theorem au6 (h:LI X (dH te) σ H R):F6 X.K (LE X te) σ H R:=by
 obtain ⟨W,ρ,Q,px,q,k⟩:=h
 refine⟨W,ρ,_,px,q,?_⟩
 rintro v H1 x g s r ⟨xs,e,hg,q⟩
 have px1:=px.mono s
 have tw:∀ a,W a->∃ o,H1 a=some o/\gE o=true:=fun a z=>(px1.wm a z).2
 cases r with
 | tup h r=>
  cases e
  refine⟨_,rfl,.inr ⟨_,aD.of h,k _ _ _ _ s (F8 tw (fun W' H' e=>aD.of (e _ _ h fun z=>?_).1) (lH px (fun z=>by have:=hg z; unfold flat at this; exact this) r)) q⟩⟩
  obtain ⟨o,h',mu⟩:=tw _ z; rw [h] at h'; cases h'; cases mu
 | @lst a us xs' m h r=>
  cases e
  have wa : ¬ W a:=by
   cases g with
   | fr=>exact (px.new m).1
   | nw=>exact m.1
   | sh=>exact m
   | rd=>have:=hg rfl; unfold flat at this; cases this
  exact⟨_,rfl,.inl ⟨_,aG.of h,k _ _ _ _ s (F7 tw (fun W' H' e=>aG.of (e _ _ h wa).1) (lH px (fun z=>by have:=hg z; unfold flat at this; cases this) r)) q⟩⟩
 | scr h=>
  cases e
  refine⟨_,rfl,.inl ⟨_,h.sqL,k _ _ _ _ s (F7 tw (fun W' H' e=>(iE.keep (fun a o u hz=>(e _ _ hz fun z=>?_).1) h).sqL) (lH (g:=g) px (fun z=>cZ _) (Reps.intz _))) q⟩⟩
  obtain ⟨o,h',mu⟩:=tw _ z; rw [hz] at h'; cases h'; cases mu
 | kt h r=>
  cases e
  exact⟨_,rfl,.inr ⟨_,.inr h,k _ _ _ _ s (F8 tw (fun W' H' e=>.inr h) (lH px (fun z=>by have:=hg z; unfold flat at this; exact this) r)) q⟩⟩
 | _=>cases e
def eY (lo:Int) (n:Nat):List PV:=(List.range n).map fun (i:Nat)=>PV.int (lo+(i:Int))
theorem eC (lo:Int) (n:Nat):(eY lo n).length=n:=by unfold eY; rw [ba3,List.length_range]
theorem F9 {lo:Int}{n i:Nat} (h:i < n):(eY lo n)[i]? = some (.int (lo+i)):=by unfold eY; rw [ba1,List.getElem?_range h]; rfl
def iG (te:aB):eW:=fun ρ Q=>te ρ fun x _=>∃ j:Int,x = .int j/\-1000000<=j/\j<=1000000/\Q (eY 0 j.toNat) true
def pL (ta tb:aB):eW:=fun ρ Q=>ta ρ fun x _=>tb ρ fun y _=>∃ i j:Int,x = .int i/\y = .int j/\(-1000000<=i/\i<=1000000/\-1000000<=j/\j<=1000000)/\Q (eY i (j - i).toNat) true
theorem G0 {K:PySem.W.Frag}{H0:Hp}{W:Addr->Prop}{H1:Hp} (lo:Int) (n:Nat):lG K H0 W true H1 (mM lo n) (eY lo n):=by
 refine⟨fun W' H' i e hi=>by rw [eC] at hi; exact hi,fun W' H' i v H2 e y hi=>?_,fun W' H' e=>by show n<=(eY lo n).length; rw [eC]; exact aZ3 _⟩
 rw [eC] at hi
 obtain ⟨rfl,rfl⟩:=y
 exact⟨a9.refl _,_,F9 hi,.int _⟩
theorem au7 (h:LI X (iG te) σ H R):yB (jU (LE X te) kX) σ H R:=by
 obtain ⟨W,ρ,Q,px,q,k⟩:=h
 refine⟨W,ρ,_,px,q,?_⟩
 rintro v H1 x g s r ⟨j,rfl,h1,h2,q⟩
 cases r
 exact⟨j,rfl,by omega,by omega,k _ _ _ _ s (G0 0 j.toNat) q⟩
theorem au8 {ta tb:aB} (h:LI X (pL ta tb) σ H R):yC (jU (LE X ta) (jU (LE X tb) kX)) σ H R:=by
 obtain ⟨W,ρ,Q,px,q,k⟩:=h
 refine⟨W,ρ,_,px,q,fun v H1 x g s r q=>⟨W,ρ,_,px.mono s,q,?_⟩⟩
 rintro w H2 y g' s2 r2 ⟨i,j,rfl,rfl,h,q⟩
 cases r; cases r2
 exact⟨i,j,rfl,by omega,k _ _ _ _ (s.trans s2) (G0 i (j - i).toNat) q⟩
end
abbrev jB:=PV->Bool->bA->(bA->Prop)->Prop
def nM (K:PySem.W.Frag) (own:Nat->Prop) (p:jB) (t:TG):Prop:=∀ (H0:Hp) (W:Addr->Prop) (σ:St) (ρ:bA) (H:Hp) (v:V) (x:PV) (g:Bool) (Q:bA->Prop) (Q':St->Hp->Prop),
 PX K H0 W σ ρ H->aE K (Ms H0 W g) H v x->p x g ρ Q->(∀ σ' ρ',PX K H0 W σ' ρ' H->(∀ i,¬ own i->σ'[i]? = σ[i]?)->σ'.length=σ.length->Q ρ'->Q' σ' H)->t v σ H Q'
def bS (i:Nat):jB:=fun x g ρ Q=>Q (ρ.set i (some (.sh (g || flat x) x)))
theorem pM {K:PySem.W.Frag}{H0 H:Hp}{W:Addr->Prop}{v:V}{x:PV}{g:Bool} (r:aE K (Ms H0 W g) H v x):aE K (Ms H0 W (g || flat x)) H v x:=by
 cases g with
 | true=>exact r
 | false=>
  show aE K (Ms H0 W (flat x)) H v x
  cases e:flat x with
  | true=>exact r.flat e
  | false=>exact r
theorem pN (K:PySem.W.Frag) (i:Nat):nM K (· = i) (bS i) (cV i):=by
 intro H0 W σ ρ H v x g Q Q' px r q k
 exact k _ _ (px.setSh (pM r)) (fun j hj=>by rw [bb8 (Ne.symm hj)]) (bd8 ..) q
def uV (i j:Nat):jB:=fun x g ρ Q=>∃ y z,x = .tup [y,z]/\Q ((ρ.set i (some (.sh (g || flat y) y))).set j (some (.sh (g || flat z) z)))
theorem au9 (K:PySem.W.Frag) (i j:Nat):nM K (fun k=>k=i ∨ k=j) (uV i j) (kS K 2 (fX (cV i) (fX (cV j) kR))):=by
 intro H0 W σ ρ H v x g Q Q' px r q k
 obtain ⟨y,z,rfl,q⟩:=q
 obtain ⟨a,us,rfl,h,r⟩:=r.sqT
 obtain ⟨u1,u2,rfl,r1,r2⟩:=r.two
 refine⟨a,_,rfl,aD.of h,rfl,u1,_,rfl,u2,_,rfl,rfl,k _ _ ((px.setSh (pM r1)).setSh (pM r2)) (fun k hk=>?_) (by rw [bd8,bd8]) q⟩
 rw [bb8 (fun e=>hk (.inr e.symm)),bb8 (fun e=>hk (.inl e.symm))]
section
variable {X : Cx} {σ : St} {H : Hp} {D : c8}
def eZ (ti:eW) (p:jB) (tb:aK):aK:=fun D ρ=>ti ρ fun xs g=>∃ I:Nat->bA->Prop,I 0 ρ/\(∀ i x ρ',xs[i]? = some x->I i ρ'->p x g ρ' fun ρ2=>tb { D with nx:=I (i+1),ct:=I (i+1),bk:=D.nx } ρ2)/\∀ ρ',I xs.length ρ'->D.nx ρ'
theorem av0 {ti:eW}{p:jB}{g:TG}{tb:aK}{own:Nat->Prop} (hg:nM X.K own p g) (h:LS X (eZ ti p tb) D σ H):yD (LI X ti) g (LS X tb) D σ H:=by
 obtain ⟨W,ρ,D',px,q,k⟩:=h
 refine⟨W,ρ,_,px,q,?_⟩
 rintro J H1 xs gb s it ⟨I,i0,turn,fin⟩
 refine⟨fun i m σ2 H2=>m=xs.length - i/\i<=xs.length/\∃ W2 ρ2,PX X.K X.H₀ W2 σ2 ρ2 H2/\Ev W H1 W2 H2/\I i ρ2,⟨xs.length,by omega,be8 _,W,ρ,px.mono s,Ev.refl _ _,i0⟩,?_⟩
 rintro i m σ2 H2 ⟨rfl,hi,W2,ρ2,px2,e2,i2⟩
 have e0:Ev W H W2 H2:=(Ev.same s).trans e2
 by_cases hlt:i < xs.length
 ·refine .inr ⟨it.go W2 H2 i e2 hlt,fun σ3 H3=>∃ W3 ρ3,PX X.K X.H₀ W3 σ3 ρ3 H3/\Ev W H1 W3 H3/\I (i+1) ρ3,fun σ3 H3 ⟨W3,ρ3,a,b,c⟩=>⟨xs.length - (i+1),by omega,rfl,hlt,W3,ρ3,a,b,c⟩,fun v H3 y=>?_⟩
  obtain ⟨s3,x,hx,rx⟩:=it.yld W2 H2 i v H3 e2 y hlt
  refine hg X.H₀ W2 σ2 ρ2 H3 v x gb _ _ (px2.mono s3) rx (turn i x ρ2 hx i2) fun σ4 ρ4 px4 _ _ q4=>?_
  have e3:Ev W H1 W2 H3:=e2.trans (Ev.same s3)
  have e3':Ev W H W2 H3:=e0.trans (Ev.same s3)
  exact⟨W2,ρ4,_,px4,q4,fun W' σ' H' ρ' e p q=>⟨W',ρ',p,e3.trans e,q⟩,k.rt,fun W' σ' H' ρ' e p q=>k.nx W' σ' H' ρ' (e3'.trans e) p q,fun W' σ' H' ρ' e p q=>⟨W',ρ',p,e3.trans e,q⟩⟩
 ·have e:i=xs.length:=by omega
  subst e
  exact .inl ⟨it.stop W2 H2 e2,k.nx W2 σ2 H2 ρ2 e0 px2 (fin ρ2 i2)⟩
end
def lI (fr:List (Option Nat)) (ρ:bA):bA:=fr.map fun o=>o.bind fun j=>(ρ[j]?).join.map fun m=>Slot.sh false m.val
def jZ (D:Addr):Addr->Prop:=fun a=>a=D
theorem av1 {K:PySem.W.Frag}{H0:Hp}{W:Addr->Prop}{σ:St}{ρ:bA}{H1 H':Hp}{D:Addr}{acc:List V}{fr:List (Option Nat)} (px:PX K H0 W σ ρ H1) (hD:H1 D=none) (s:a9 H1 H') (ha:H' D=some (.lst acc)) :
  PX K H1 (jZ D) (eS fr σ) (lI fr ρ) H':=by
 have old:∀ {a:Addr}{o:HO},H1 a=some o->a ≠ D:=fun {a o} e z=>by rw [z,hD] at e; cases e
 refine⟨by unfold eS lI; rw [ba3,ba3],s,fun a z=>by cases z; exact⟨hD,_,ha,rfl⟩,fun i m h=>?_,fun i j x y a h1=>?_⟩
 ·unfold lI at h
  rw [ba1] at h
  cases ef:fr[i]? with
  | none=>rw [ef] at h; cases h
  | some o=>
   rw [ef] at h
   cases o with
   | none=>cases h
   | some j=>
    have h:some ((ρ[j]?).join.map fun m=>Slot.sh false m.val)=some (some m):=h
    cases er:ρ[j]? with
    | none=>rw [er] at h; cases h
    | some o=>
     rw [er] at h
     cases o with
     | none=>cases h
     | some m0=>
      cases h
      obtain ⟨v,ev,r⟩:=px.sl j m0 er
      refine⟨v,?_,?_⟩
      ·unfold eS
       rw [ba1,ef]
       show some ((σ[j]?).join)=_
       rw [ev]; rfl
      ·have r':aE K (fun _=>True) H1 v m0.val:=(E5 (Hs:=H1) r).same (a9.refl _) fun _ _=>trivial
       exact r'.keep ⟨fun a _ _ e=>⟨old e,s _ _ e⟩,fun a _ _ e=>⟨old e,s _ _ e⟩,fun a _ _ e=>⟨old e,s _ _ e⟩,fun _ _ e=>s _ _ e,fun _ _ _ e=>s _ _ e⟩
 ·unfold lI at h1
  rw [ba1] at h1
  cases ef:fr[i]? with
  | none=>rw [ef] at h1; cases h1
  | some o=>
   rw [ef] at h1
   cases o with
   | none=>cases h1
   | some j=>
    have h1:some ((ρ[j]?).join.map fun m=>Slot.sh false m.val)=some (some (Slot.own x)):=h1
    cases er:ρ[j]? with
    | none=>rw [er] at h1; cases h1
    | some o=>
     rw [er] at h1
     cases o with
     | none=>cases h1
     | some m0=>cases h1
section
variable {X : Cx} {σ : St} {H : Hp} {Q' : VK}
abbrev _root_.L2.Cx.frm (X:Cx) (H1:Hp):Cx:={ X with H₀:=H1 }
def dA (ti:eW) (fr:List (Option Nat)) (p:jB) (tc:cC) (te:aB):aB:=fun ρ Q=>ti ρ fun xs g=>xs.length<=16000000/\∃ I:Nat->List PV->Prop,I 0 []/\
 (∀ i x acc,xs[i]? = some x->I i acc->p x false (lI fr ρ) fun ρ2=>tc ρ2 fun b=>if b=true then te ρ2 fun y gy=>Nw gy y/\I (i+1) (acc ++ [y]) else I (i+1) acc)/\∀ acc,I xs.length acc->Q (.lst acc) .fr
theorem pO {ti:eW}{fr:List (Option Nat)}{p:jB}{g:TG}{tc:cC}{te:aB}{own:Nat->Prop} (hg:nM X.K own p g) (ho:∀ i,own i->fr[i]? = some none) (h:LE X (dA ti fr p tc te) σ H Q') :
  tZ (LI X ti) fr (fun _=>g) (fun H1=>LT (X.frm H1) tc) (fun H1=>LE (X.frm H1) te) σ H Q':=by
 obtain ⟨W,ρ,Q,px,q,k⟩:=h
 refine⟨W,ρ,_,px,q,?_⟩
 rintro J H1 xs gb s it ⟨hl,I,i0,turn,fin⟩ D hD
 have px1:=px.mono s
 refine⟨fun i m acc H'=>m=xs.length - i/\i<=xs.length/\a9 H1 H'/\H' D=some (.lst acc)/\∃ ys,Reps X.K (Ms H1 (jZ D) true) H' acc ys/\ys.length<=i/\I i ys,⟨xs.length,by omega,be8 _,b7 hD _,b9,[],.nil,aZ3 _,i0⟩,?_⟩
 rintro i m acc H' ⟨rfl,hi,sm,ha,ys,ry,hy,iy⟩
 refine⟨ha,?_⟩
 have ev:Ev W H1 (lE W D) H':=Ev.own sm hD
 by_cases hlt:i < xs.length
 ·refine .inr ⟨it.go _ H' i ev hlt,fun v H2 y=>?_⟩
  obtain ⟨s2,x,hx,rx⟩:=it.yld _ H' i v H2 ev y hlt
  have ha2:=s2 _ _ ha
  have pxb:PX X.K H1 (jZ D) (eS fr σ) (lI fr ρ) H2:=av1 px1 hD (sm.trans s2) ha2
  have rx':aE X.K (Ms H1 (jZ D) false) H2 v x:=rx.same (a9.refl _) fun a z=>by
   cases gb with
   | true=>exact fun e=>z.1 (.inr e)
   | false=>exact fun e=>z (.inr e)
  refine hg H1 (jZ D) _ _ H2 v x false _ _ pxb rx' (turn i x ys hx iy) fun σ2 ρ2 px2 hown hlen q2=>⟨⟨hlen.symm,fun j w e=>?_⟩,?_⟩
  ·by_cases oj:own j
   ·have:=ho j oj
    unfold eS at e
    rw [ba1,this] at e
    cases e
   ·rw [hown j oj]; exact e
  ·refine⟨jZ D,ρ2,_,px2,q2,fun b H4 s4 q4=>?_⟩
   have ha4:=s4 _ _ ha2
   have sm4:=(sm.trans s2).trans s4
   cases b with
   | false=>
    refine b6 ⟨xs.length - (i+1),by omega,rfl,hlt,sm4,ha4,ys,ry.same (s2.trans s4) fun _ z=>z,by omega,by simpa using q4⟩
   | true=>
    refine bI ⟨jZ D,ρ2,_,px2.mono s4,by simpa using q4,?_⟩
    rintro w H5 y gy s5 ryy ⟨nw,q5⟩
    have ha5:=s5 _ _ ha4
    have lr:=ry.length
    refine⟨ha5,gD (by omega),xs.length - (i+1),by omega,rfl,hlt,fun b o e=>?_,b9,ys ++ [y],?_,by rw [ba8,bg6]; omega,q5⟩
    ·rw [aM (fun z=>by rw [z,hD] at e; cases e)]
     exact s5 _ _ (sm4 _ _ e)
    ·exact ((ry.same ((s2.trans s4).trans s5) fun _ z=>z).append (.cons (Nw.rep (px2.mono s4) nw ryy) .nil)).keep (.upd ha5 rfl fun b m=>⟨m.1,m⟩)
 ·have e:i=xs.length:=by omega
  subst e
  refine .inl ⟨it.stop _ H' ev,k _ H' _ .fr (s.trans sm) (.lst (s.free hD) ha (ry.same (a9.refl _) fun _ z=>s.free z.2)) (fin ys iy)⟩
def dZ:cC:=fun _ Q=>Q true
theorem av2 {Qb:Bool->Hp->Prop} (h:LT X dZ σ H Qb):tX σ H Qb:=by
 obtain ⟨W,ρ,Q,px,q,k⟩:=h
 exact k _ _ (a9.refl _) q
end
section
variable {κ : Type} [DecidableEq κ]
def cS (ps:List (κ × PV)) (k:κ):Option PV:=(ps.find? fun p=>decide (p.1=k)).map (·.2)
def fV (ps:List (κ × PV)) (k:κ) (x:PV):List (κ × PV):=if (ps.any fun p=>decide (p.1=k))=true then ps.map (fun p=>if p.1=k then (p.1,x) else p) else ps ++ [(k,x)]
variable {K : PySem.W.Frag} {M : Addr → Prop} {H : Hp}
theorem nN (k:κ):∀ {kvs:List (κ × V)}{ps:List (κ × PV)},kvs.map (·.1)=ps.map (·.1)->Reps K M H (kvs.map (·.2)) (ps.map (·.2))->(cS ps k=none->eB kvs k=none)/\∀ x,cS ps k=some x->∃ v,eB kvs k=some v/\aE K M H v x
 | [],[],_,_=>⟨fun _=>rfl,fun x h=>by cases h⟩
 | [],_ :: _,e,_=>by cases e
 | _ :: _,[],e,_=>by cases e
 | (k1,v) :: kvs,(k2,x) :: ps,e,r=>by
  injection e with e1 e2
  have e1:k1=k2:=e1
  subst e1
  cases r with
  | cons r t=>
   obtain ⟨h1,h2⟩:=nN k e2 t
   unfold cS eB at h1 h2 ⊢
   by_cases e:k1=k
   ·simp only [bk1,e,decide_true,Option.map_some]
    exact⟨fun z=>(by cases z),fun y z=>(by cases z; exact⟨v,rfl,r⟩)⟩
   ·simp only [bk1,e,decide_false]
    exact⟨h1,h2⟩
theorem av3 (k:κ) {kvs:List (κ × V)}{ps:List (κ × PV)} (e:kvs.map (·.1)=ps.map (·.1)):(kvs.any fun p=>decide (p.1=k))=ps.any fun p=>decide (p.1=k):=by
 have h1:(kvs.any fun p=>decide (p.1=k))=(kvs.map (·.1)).any fun z=>decide (z=k):=by rw [List.any_map]; rfl
 have h2:(ps.any fun p=>decide (p.1=k))=(ps.map (·.1)).any fun z=>decide (z=k):=by rw [List.any_map]; rfl
 rw [h1,h2,e]
theorem G1 (k:κ) {w:V}{y:PV} (q:aE K M H w y):∀ {kvs:List (κ × V)}{ps:List (κ × PV)},kvs.map (·.1)=ps.map (·.1)->Reps K M H (kvs.map (·.2)) (ps.map (·.2))->
  (kvs.map fun kv=>if kv.1=k then (kv.1,w) else kv).map (·.1)=(ps.map fun kv=>if kv.1=k then (kv.1,y) else kv).map (·.1)/\Reps K M H ((kvs.map fun kv=>if kv.1=k then (kv.1,w) else kv).map (·.2)) ((ps.map fun kv=>if kv.1=k then (kv.1,y) else kv).map (·.2))
 | [],[],_,_=>⟨rfl,.nil⟩
 | [],_ :: _,e,_=>by cases e
 | _ :: _,[],e,_=>by cases e
 | (k1,v) :: kvs,(k2,x) :: ps,e,r=>by
  injection e with e1 e2
  have e1:k1=k2:=e1
  subst e1
  cases r with
  | cons r t=>
   obtain ⟨h1,h2⟩:=G1 k q e2 t
   by_cases e:k1=k
   ·simp only [be9,e,if_true]
    exact⟨by rw [h1],.cons q h2⟩
   ·simp only [be9,e,bi7]
    exact⟨by rw [h1],.cons r h2⟩
theorem av4 (k:κ) {w:V}{y:PV} (q:aE K M H w y) {kvs:List (κ × V)}{ps:List (κ × PV)} (e:kvs.map (·.1)=ps.map (·.1)) (r:Reps K M H (kvs.map (·.2)) (ps.map (·.2))) :
  (eR kvs k w).map (·.1)=(fV ps k y).map (·.1)/\Reps K M H ((eR kvs k w).map (·.2)) ((fV ps k y).map (·.2)):=by
 unfold eR fV
 rw [av3 k e]
 split
 ·exact G1 k q e r
 ·rw [bc2,bc2,bc2,bc2,e]
  exact⟨rfl,r.append (.cons q .nil)⟩
end
def kP:aP->PV
 | .inl i=>.int i
 | .inr x=>.str x
theorem uW {K:PySem.W.Frag}{M:Addr->Prop}{H:Hp}{v:V}{k:aP} (r:aE K M H v (kP k)):v=kV k:=by
 cases k with
 | inl i=>cases r; rfl
 | inr x=>cases r; rfl
theorem G2 {K:PySem.W.Frag}{M:Addr->Prop}{H:Hp}:∀ {ks:List aP}{us:List V},Reps K M H us (ks.map kP)->us=ks.map kV
 | [],_,.nil=>rfl
 | k :: r,_,.cons q t=>by rw [uW q,G2 t]; rfl
def G3 (x y:PV) (o:Option PV):Prop:=(∃ ps k,x = .dK ps/\y=kP k/\o=cS ps k) ∨ (∃ ps k,x = .dT ps/\y = .tup (k.map kP)/\o=cS ps k)
theorem av5 {K:PySem.W.Frag}{M M2:Addr->Prop}{H:Hp}{v w:V}{x y:PV}{o:Option PV} (h:G3 x y o) (rx:aE K M H v x) (ry:aE K M2 H w y):∃ a o',v = .ref a/\iA H a w o'/\(o=none->o'=none)/\∀ z,o=some z->∃ u,o'=some u/\aE K M H u z:=by
 rcases h with ⟨ps,k,rfl,rfl,rfl⟩ | ⟨ps,k,rfl,rfl,rfl⟩
 ·obtain rfl:=uW ry
  cases rx with
  | dK m h e r=>exact⟨_,_,rfl,iA.k h,(nN k e r).1,(nN k e r).2⟩
 ·obtain ⟨b,us,rfl,hb,rb⟩:=ry.sqT
  obtain rfl:=G2 rb
  cases rx with
  | dT m h e r=>exact⟨_,_,rfl,iA.t h hb,(nN k e r).1,(nN k e r).2⟩
section
variable {X : Cx} {σ : St} {H : Hp} {D : c8} {tk td te : aB} {Q' : VK}
def uX (neg:Bool) (tk td:aB):aB:=fun ρ Q=>tk ρ fun y _=>td ρ fun x _=>∃ o,G3 x y o/\Q (.bl (if neg=true then !o.isSome else o.isSome)) .fr
theorem av6 {α β:Type}{o:Option α}{o':Option β}{P:β->α->Prop} (h1:o=none->o'=none) (h2:∀ z,o=some z->∃ u,o'=some u/\P u z):o'.isSome=o.isSome:=by
 cases o with
 | none=>rw [h1 rfl]; rfl
 | some z=>obtain ⟨u,e,_⟩:=h2 z rfl; rw [e]; rfl
theorem av7 (h:LE X (uX false tk td) σ H Q'):A2 (LE X tk) (LE X td) σ H Q':=by
 obtain ⟨W,ρ,Q,px,q,k⟩:=h
 refine⟨W,ρ,_,px,q,fun w H1 y g s r q=>⟨W,ρ,_,px.mono s,q,?_⟩⟩
 rintro v H2 x g' s2 r2 ⟨o,ak,q⟩
 obtain ⟨a,o',rfl,dg,h1,h2⟩:=av5 ak r2 (r.same s2 fun _ z=>z)
 refine⟨a,o',rfl,dg,?_⟩
 rw [av6 h1 h2]
 exact k _ _ _ .fr (s.trans s2) (.bl _) q
theorem PX.updD {K:PySem.W.Frag}{H0:Hp}{W:Addr->Prop}{σ:St}{ρ:bA}{H:Hp}{i:Nat}{a:Addr}{x:PV}{kvs:List (aP × V)}{ps:List (aP × PV)} (p:PX K H0 W σ ρ H) (hi:ρ[i]? = some (some (.own x))) (ha:σ[i]? = some (some (.ref a))) (wa:W a)
  (r:kvs.map (·.1)=ps.map (·.1)/\Reps K (Ms H0 W true) (upd H a (.dK kvs)) (kvs.map (·.2)) (ps.map (·.2))):PX K H0 W σ (ρ.set i (some (.own (.dK ps)))) (upd H a (.dK kvs)):=p.updOwn hi ha wa rfl (y:=.dK ps) ⟨kvs,b9,r⟩
theorem av8 {κ α β:Type}{l:List (κ × α)}{m:List (κ × β)} (e:l.map (·.1)=m.map (·.1)):l.length=m.length:=by
 have:=congrArg List.length e
 rw [ba3,ba3] at this
 exact this
def uY (i:Nat) (tk te:aB):aK:=fun D ρ=>te ρ fun z g=>∃ ps,ρ[i]? = some (some (.own (.dK ps)))/\tk ρ fun y _=>∃ k,y=kP k/\Nw g z/\ps.length < 16000000/\D.nx (ρ.set i (some (.own (.dK (fV ps k z)))))
theorem av9 {i:Nat} (h:LS X (uY i tk te) D σ H):A3 (jO i) (LE X tk) (LE X te) D σ H:=by
 obtain ⟨W,ρ,D',px,q,k⟩:=h
 refine⟨W,ρ,_,px,q,?_⟩
 rintro w H1 z g s rz ⟨ps,hi,q⟩
 obtain ⟨v,ev,a,rfl,wa,kvs,ea,e1,r⟩:=(px.mono s).sl i _ hi
 refine⟨_,ev,W,ρ,_,px.mono s,q,?_⟩
 rintro kv H2 y g' s2 ry ⟨kk,rfl,nw,hl,q⟩
 obtain rfl:=uW ry
 have ea2:=s2 _ _ ea
 refine⟨a,_,rfl,mZ.k ea2 (gD (by rw [av8 e1]; omega)),?_⟩
 refine k.nx W σ _ _ ((Ev.same (s.trans s2)).trans (Ev.upd wa)) ((px.mono (s.trans s2)).updD hi ev wa ?_) q
 obtain ⟨h1,h2⟩:=av4 kk ((Nw.rep px nw rz).same s2 fun _ z=>z) e1 (r.same s2 fun _ z=>z)
 exact⟨h1,h2.keep (.upd ea2 rfl fun b m=>⟨pJ wa m,m⟩)⟩
theorem aw0 (h:LE X (qC (.dK [])) σ H Q'):A4 σ H Q':=by
 obtain ⟨W,ρ,Q,px,q,k⟩:=h
 exact fun p hp=>k _ _ _ .fr (b7 hp _) (.dK hp b9 rfl .nil) q
end
def bZ:Nat->PV->PV->Bool
 | _,.non,.non=>true
 | _,.bl a,.bl b=>a == b
 | _,.int a,.int b=>a == b
 | _,.str a,.str b=>a == b
 | n+1,.tup xs,.tup ys=>(xs.zip ys).all (fun p=>bZ n p.1 p.2) && xs.length == ys.length
 | n+1,.lst xs,.lst ys=>(xs.zip ys).all (fun p=>bZ n p.1 p.2) && xs.length == ys.length
 | n+1,.kt xs,.kt ys=>(xs.zip ys).all (fun p=>bZ n p.1 p.2) && xs.length == ys.length
 | _,_,_=>false
def dP:Nat->PV->PV->Bool
 | _,.non,.non=>true
 | _,.bl _,.bl _=>true
 | _,.int _,.int _=>true
 | _,.str _,.str _=>true
 | _,.non,.int _=>true
 | _,.int _,.non=>true
 | n+1,.tup xs,.tup ys=>(xs.zip ys).all (fun p=>dP n p.1 p.2)
 | n+1,.lst xs,.lst ys=>(xs.zip ys).all (fun p=>dP n p.1 p.2)
 | n+1,.kt xs,.kt ys=>(xs.zip ys).all (fun p=>dP n p.1 p.2)
 | _+1,.non,.tup _=>true
 | _+1,.tup _,.non=>true
 | _,_,_=>false
theorem aw1 (n:Nat) (a b:Int):bZ n (.int a) (.int b)=(a == b):=by cases n <;> rfl
theorem uZ (n:Nat):∀ (a b:List Int),((((intz a).zip (intz b)).all fun p=>bZ n p.1 p.2) && (intz a).length == (intz b).length)=decide (a=b)
 | [],[]=>rfl
 | [],_ :: _=>by simp
 | _ :: _,[]=>by simp
 | x :: a,y :: b=>by
  have ih:=uZ n a b
  simp only [be9,bn2,bm9,bd5,aw1] at ih ⊢
  by_cases e:x=y
  ·subst e
   have:((intz a).length+1 == (intz b).length+1)=((intz a).length == (intz b).length):=by simp
   rw [this,bh5,Bool.true_and,ih]
   simp
  ·have:(x == y)=false:=beq_eq_false_iff_ne.mpr e
   rw [this,Bool.false_and,Bool.false_and]
   simp [e]
theorem pP (n:Nat) (a b:List Int):bZ (n+1) (.tup (intz a)) (.tup (intz b))=decide (a=b):=uZ n a b
theorem aw2 (n:Nat) (a b:List Int):bZ (n+1) (.lst (intz a)) (.lst (intz b))=decide (a=b):=uZ n a b
theorem v7 (n:Nat):∀ (a b:List Int),(((intz a).zip (intz b)).all fun p=>dP n p.1 p.2)=true
 | [],_=>by simp
 | _ :: _,[]=>by simp
 | x :: a,y :: b=>by
  simp only [be9,bn2,bm9,v7 n a b,Bool.and_true]
  cases n <;> rfl
theorem pQ (n:Nat) (a b:List Int):dP (n+1) (.tup (intz a)) (.tup (intz b))=true:=v7 n a b
theorem aw3 (n:Nat) (a b:List Int):dP (n+1) (.lst (intz a)) (.lst (intz b))=true:=v7 n a b
def nO (ta:aB):aB:=fun ρ Q=>ta ρ fun x _=>∃ i,x = .int i/\Q (.int (-i)) .fr
def v8 (neg:Bool):PV->Tg->PV->Tg->PK->Prop:=fun x _ y _ Q=>∃ i ns,x = .int i/\iF y=some (intz ns)/\Q (.bl (if neg=true then !decide (i ∈ ns) else decide (i ∈ ns))) .fr
def G4:PV->Option String
 | .non=>some "NoneType"
 | .bl _=>some "bool"
 | .int _=>some "int"
 | .str _=>some "str"
 | .tup _=>some "tuple"
 | .kt _=>some "tuple"
 | .lst _=>some "list"
 | _=>none
def k6 (K:PySem.W.Frag) (n:String) (te:aB):aB:=fun ρ Q=>te ρ fun x _=>∃ T b,G4 x=some T/\PySem.W.kitOne K (.type T) (.type n)=some b/\Q (.bl b) .fr
def jC (n:Nat) (neg:Bool):PV->Tg->PV->Tg->PK->Prop:=fun x _ y _ Q=>((∃ xs ys,x = .tup xs/\y = .tup ys) ∨ (∃ xs ys,x = .lst xs/\y = .lst ys))/\dP (n+1) x y=true/\Q (.bl (if neg=true then !bZ (n+1) x y else bZ (n+1) x y)) .fr
abbrev lJ:=bA->(Option Int->Prop)->Prop
def gV (xs:List PV) (lo hi:Option Int):List PV:=(xs.drop (HT.aR xs.length 0 lo)).take (HT.aR xs.length xs.length hi - HT.aR xs.length 0 lo)
def aw4:PV->List PV->PV
 | .tup _,ys=>.tup ys
 | .kt _,ys=>.tup ys
 | _,ys=>.lst ys
def G5:lJ:=fun _ Q=>Q none
def pR (te:aB):lJ:=fun ρ Q=>te ρ fun x _=>∃ i,x = .int i/\Q (some i)
def v9 (te:aB) (tl th:lJ):aB:=fun ρ Q=>te ρ fun x _=>tl ρ fun lo=>th ρ fun hi=>∃ xs,seqT x=some xs/\flats xs=true/\Q (aw4 x (gV xs lo hi)) .fr
def fA (N:List Str) (xs:List PV):bA:=xs.map (fun x=>some (.sh (flat x) x)) ++ List.replicate (N.length - xs.length) none
abbrev cL (ta tb:aB):aB:=q2 (dY fun i j=>.int (i+j)) ta tb
abbrev k7 (ta tb:aB):aB:=q2 (dY fun i j=>.int (i - j)) ta tb
abbrev nP (ta tb:aB):aB:=q2 (RI mR fun i j=>.int (i * j)) ta tb
abbrev fG (ta tb:aB):aB:=q2 (RI sZ fun i j=>.int (i / j)) ta tb
abbrev bW (ta tb:aB):aB:=q2 (RI (fun _ j=>0 < j) fun i j=>.int (i % j)) ta tb
abbrev nQ (ta tb:aB):aB:=q2 (RI kU fun i j=>.int (i ^ j.toNat)) ta tb
abbrev aw5 (ta tb:aB):aB:=q2 (RI kU fun i j=>.int (i * 2 ^ j.toNat)) ta tb
abbrev nR (ta tb:aB):aB:=q2 (dY fun i j=>.bl (decide (i < j))) ta tb
abbrev qLe (ta tb:aB):aB:=q2 (dY fun i j=>.bl (decide (i<=j))) ta tb
abbrev lK (ta tb:aB):aB:=q2 (dY fun i j=>.bl (decide (j < i))) ta tb
abbrev vA (ta tb:aB):aB:=q2 (dY fun i j=>.bl (decide (j<=i))) ta tb
abbrev gI (ta tb:aB):aB:=q2 (jY false) ta tb
abbrev qNe (ta tb:aB):aB:=q2 (jY true) ta tb
abbrev aw6 (ta tb:aB):aB:=q2 (uT false) ta tb
abbrev bG (ta tb:aB):aB:=q2 uM ta tb
def k8:List PV->(PV->Prop)->Prop:=fun xs Q=>F5 xs Q/\∀ ns,xs ≠ [.scr ns]
def QE (X:Cx) (e:Expr) (t:aB):Prop:=PE X e (LE X t)
def QT (X:Cx) (e:Expr) (t:cC):Prop:=PT X e (LT X t)
def QW (X:Cx) (e:Expr) (t:cC):Prop:=PW X e (LT X t)
def QA (X:Cx) (es:List Expr) (t:cH):Prop:=PA X es (LA X t)
def QS (X:Cx) (st:Stmt) (t:aK):Prop:=PS X st (LS X t)
def eD (X:Cx) (st:List Stmt) (t:aK):Prop:=dC X st (LS X t)
def QI (X:Cx) (tg iter:Expr) (t:eW):Prop:=PI X tg iter (LI X t)
section
variable {X : Cx}
theorem c9 {e:Expr}{t t':TE} (h:PE X e t) (m:∀ σ H Q,t' σ H Q->t σ H Q):PE X e t':=fun pins s σ H Q I q=>h pins s σ H Q I (m σ H Q q)
theorem nV {e:Expr}{t t':TT} (h:PT X e t) (m:∀ σ H Q,t' σ H Q->t σ H Q):PT X e t':=fun pins s σ H Q I q=>h pins s σ H Q I (m σ H Q q)
theorem G6 {e:Expr}{t t':TT} (h:PW X e t) (m:∀ σ H Q,t' σ H Q->t σ H Q):PW X e t':=fun wh pins s σ H Q I q=>h wh pins s σ H Q I (m σ H Q q)
theorem G7 {e:List Expr}{t t':TA} (h:PA X e t) (m:∀ σ H Q,t' σ H Q->t σ H Q):PA X e t':=fun pos pins s σ H Q I q=>h pos pins s σ H Q I (m σ H Q q)
theorem fH {e:Stmt}{t t':TS} (h:PS X e t) (m:∀ D σ H,t' D σ H->t D σ H):PS X e t':=fun pins s σ H D I q=>h pins s σ H D I (m D σ H q)
theorem vB {e:List Stmt}{t t':TS} (h:dC X e t) (m:∀ D σ H,t' D σ H->t D σ H):dC X e t':=fun pins s σ H D I q=>h pins s σ H D I (m D σ H q)
theorem pS {tg e:Expr}{t t':TI} (h:PI X tg e t) (m:∀ σ H R,t' σ H R->t σ H R):PI X tg e t':=fun pins s σ H R I q=>h pins s σ H R I (m σ H R q)
variable {a b c e o : Expr} {es bM : List Expr} {ta tb te to tk : aB} {tr : cH} {tA tB' tc : cC} {pos p2 px : Pos} {st : Stmt} {sts : List Stmt} {t u : aK}
theorem qv (i:Nat) {x:Str}{pos:Pos} (hN:X.N[i]? = some x:=by rfl) (hv:hV X.env.scope x:=by first | exact Or.inl rfl | exact Or.inr (Or.inl rfl) | exact Or.inr (Or.inr rfl)) (hd:(x == ("__debug__" : Str))=false:=by decide)
  (hcd:(x == ("__classdict__" : Str))=false:=by decide):QE X (.Name x pos) (a5 i):=c9 (kO hN hv hd hcd) fun _ _ _=>aq9
theorem aI {i j}:QE X (.Constant (.int i) j pos) (qC (.int i)):=c9 jP fun _ _ _=>nH fun _=>.int i
theorem eF {i j}:QE X (.Constant (.bool i) j pos) (qC (.bl i)):=c9 ae1 fun _ _ _=>nH fun _=>.bl i
theorem vC {j}:QE X (.Constant .none j pos) (qC .non):=c9 ae2 fun _ _ _=>nH fun _=>.non
theorem pT {i j}:QE X (.Constant (.str i) j pos) (qC (.str i)):=c9 ae3 fun _ _ _=>nH fun _=>.str i
theorem gW {op:Operator}{R:PV->Tg->PV->Tg->PK->Prop}{r:R2} (ho:bP X (binaryOp op) r) (cv:dO X R r) (ha:QE X a ta) (hb:QE X b tb):QE X (.BinOp a op b pos) (q2 R ta tb):=c9 (ag8 ho ha hb) fun _ _ _=>pI cv
theorem dF (ha:QE X a ta) (hb:QE X b tb):QE X (.BinOp a .Add b pos) (q2 (dY fun i j=>.int (i+j)) ta tb):=gW ah0 E6 ha hb
theorem lM (ha:QE X a ta) (hb:QE X b tb):QE X (.BinOp a .Sub b pos) (q2 (dY fun i j=>.int (i - j)) ta tb):=gW ah1 E6 ha hb
theorem nW (ha:QE X a ta) (hb:QE X b tb):QE X (.BinOp a .Mult b pos) (q2 (RI mR fun i j=>.int (i * j)) ta tb):=gW ah2 nJ ha hb
theorem jD (ha:QE X a ta) (hb:QE X b tb):QE X (.BinOp a .FloorDiv b pos) (q2 (RI sZ fun i j=>.int (i / j)) ta tb):=gW ah3 nJ ha hb
theorem dG (ha:QE X a ta) (hb:QE X b tb):QE X (.BinOp a .Mod b pos) (q2 (RI (fun _ j=>0 < j) fun i j=>.int (i % j)) ta tb):=gW ah4 nJ ha hb
theorem vD (ha:QE X a ta) (hb:QE X b tb):QE X (.BinOp a .Pow b pos) (q2 (RI kU fun i j=>.int (i ^ j.toNat)) ta tb):=gW ah5 nJ ha hb
theorem aw7 (ha:QE X a ta) (hb:QE X b tb):QE X (.BinOp a .LShift b pos) (q2 (RI kU fun i j=>.int (i * 2 ^ j.toNat)) ta tb):=gW ah6 nJ ha hb
theorem nX {op:CmpOp}{R:PV->Tg->PV->Tg->PK->Prop}{r:R2} (ho:bP X (compareOp op) r) (cv:dO X R r) (ha:QE X a ta) (hb:QE X b tb) (hm:behindInMarks op b=false):QE X (.Compare a [op] [b] pos) (q2 R ta tb):=c9 (t5 ho ha hb hm) fun _ _ _=>pI cv
theorem iH {op:CmpOp}{R:PV->Tg->PV->Tg->PK->Prop}{r:R2} (ho:bP X (compareOp op) r) (cv:dO X R r) (ha:QE X a ta) (hb:QE X b tb) (hm:behindInMarks op b=false):QT X (.Compare a [op] [b] pos) (aV (q2 R ta tb)):=nV (ai3 ho ha hb hm) fun _ _ _ h=>pI cv (uG h)
theorem G8 (ha:QE X a ta) (hb:QE X b tb):QE X (.Compare a [.Lt] [b] pos) (q2 (dY fun i j=>.bl (decide (i < j))) ta tb):=nX oV lC ha hb (e9 _)
theorem aw8 (ha:QE X a ta) (hb:QE X b tb):QE X (.Compare a [.GtE] [b] pos) (q2 (dY fun i j=>.bl (decide (j<=i))) ta tb):=nX yO lC ha hb (e9 _)
theorem G9 (ha:QE X a ta) (hb:QE X b tb):QE X (.Compare a [.Eq] [b] pos) (q2 (jY false) ta tb):=nX yN E9 ha hb (e9 _)
theorem vE (ha:QE X a ta) (hb:QE X b tb):QT X (.Compare a [.Lt] [b] pos) (aV (q2 (dY fun i j=>.bl (decide (i < j))) ta tb)):=iH oV lC ha hb (e9 _)
theorem aw9 (ha:QE X a ta) (hb:QE X b tb):QT X (.Compare a [.LtE] [b] pos) (aV (q2 (dY fun i j=>.bl (decide (i<=j))) ta tb)):=iH ah9 lC ha hb (e9 _)
theorem ax0 (ha:QE X a ta) (hb:QE X b tb):QT X (.Compare a [.Gt] [b] pos) (aV (q2 (dY fun i j=>.bl (decide (j < i))) ta tb)):=iH ai0 lC ha hb (e9 _)
theorem J0 (ha:QE X a ta) (hb:QE X b tb):QT X (.Compare a [.GtE] [b] pos) (aV (q2 (dY fun i j=>.bl (decide (j<=i))) ta tb)):=iH yO lC ha hb (e9 _)
theorem pU (ha:QE X a ta) (hb:QE X b tb):QT X (.Compare a [.Eq] [b] pos) (aV (q2 (jY false) ta tb)):=iH yN E9 ha hb (e9 _)
theorem ax1 (ha:QE X a ta) (hb:QE X b tb):QT X (.Compare a [.NotEq] [b] pos) (aV (q2 (jY true) ta tb)):=iH ah8 ar0 ha hb (e9 _)
theorem ax2 (ha:QE X a ta) (hb:QE X b tb):QT X (.Compare a [.Is] [b] pos) (aV (q2 (uT false) ta tb)):=iH ai1 au5 ha hb (e9 _)
theorem ax3 (hu:X.A.units+1 < cLine) (hk:QE X a tk) (hd:QE X b te) (hm:behindInMarks .In b=false:=by rfl):QT X (.Compare a [.In] [b] pos) (aV (uX false tk te)):=nV (ae4 (an4 hu hk hd) hm) fun _ _ _ h=>av7 (uG h)
theorem iI (h:QE X e te) (he:∀ whole,isTrue e X.env whole=(do let v <- whole; standAt e.pos; holding [v] (truthy v)):=by intro _; rfl):QT X e (aV te):=nV (ae5 h he) fun _ _ _ h=>uG h
theorem pV (h:QE X e te) (he:∀ whole,isTrue e X.env whole=(do let v <- whole; standAt e.pos; holding [v] (truthy v)):=by intro _; rfl):QT X e (lF te):=nV (ai6 h he) fun _ _ _ h=>au3 h
theorem J1 (ha:QT X a tA):QW X (.BoolOp .And [a] pos) tA:=ae6 ha
theorem pW (ha:QT X a tA):QW X (.BoolOp .Or [a] pos) tA:=ae7 ha
theorem J2 (ha:QT X a tA) (hb:QW X (.BoolOp .And (b :: bM) pos) tB'):QW X (.BoolOp .And (a :: b :: bM) pos) (j5 tA tB'):=G6 (ae8 ha hb) fun _ _ _=>ar1
theorem lN (ha:QT X a tA) (hb:QW X (.BoolOp .Or (b :: bM) pos) tB'):QW X (.BoolOp .Or (a :: b :: bM) pos) (j6 tA tB'):=G6 (ae9 ha hb) fun _ _ _=>ar2
theorem lO (h:QW X e tA):QT X e tA:=PW.pt h
theorem iJ (ha:QT X a tA):QT X (.UnaryOp .Not a pos) (gH tA):=nV (af0 ha) fun _ _ _=>ar3
theorem nY {op} (h:QE X a ta):QE X (.BoolOp op [a] pos) ta:=af1 h
theorem pX (ha:QE X a ta) (hb:QE X (.BoolOp .And (b :: bM) pos) tb):QE X (.BoolOp .And (a :: b :: bM) pos) (lD ta tb):=c9 (af2 ha hb) fun _ _ _=>ar4
theorem ax4 (ha:QE X a ta) (hb:QE X (.BoolOp .Or (b :: bM) pos) tb):QE X (.BoolOp .Or (a :: b :: bM) pos) (uH ta tb):=c9 (af3 ha hb) fun _ _ _=>ar5
theorem ax5 (ha:QE X a ta):QE X (.UnaryOp .Not a pos) (uI ta):=c9 (af4 ha) fun _ _ _=>ar6
theorem aC:QA X [] aA:=G7 dD fun _ _ _=>ar7
theorem a8 (ha:QE X e te) (hr:QA X es tr) (hs:starEach (e :: es) X.env=(false,eval e X.env) :: starEach es X.env:=by rfl):QA X (e :: es) (a7 te tr):=G7 (cQ ha hr hs) fun _ _ _=>ar8
theorem iK {x1} (h:QA X es tr):QE X (.Tuple es x1 pos) (fU tr):=c9 (aj2 h) fun _ _ _=>ar9
theorem gX (h:QA X es tr):QE X (.List es pos) (eU tr):=c9 (t9 h) fun _ _ _=>as0
theorem c7 (ha:QE X a ta) (hb:QE X b tb) (hs:zH b:=by exact fun _ _=>rfl):QE X (.Subscript a b pos) (q2 uM ta tb):=c9 (i7 al2 ha hb hs) fun _ _ _=>pI at3
theorem ax6:QE X (.Dict [] [] pos) (qC (.dK [])):=c9 an7 fun _ _ _=>aw0
theorem iL {x:Str}{id:String}{R:List PV->(PV->Prop)->Prop}{r:List V->Hp->VK->Prop} (hc:cK X (.builtin id) r) (cv:eV X R r) (hg:Gl X x) (hm:X.mg x=none) (hv:bootBuiltins x=some (.builtin id)) (ha:QA X (e :: es) tr) (hn:x ≠ "__name__":=by decide) (hdb:(x == ("__debug__" : Str))=false:=by decide)
  (he:starEach (e :: es) X.env=(false,eval e X.env) :: starEach es X.env:=by rfl) (hpl:(backTo pos (starEach es X.env)).any (·.1)=false:=by rfl):QE X (.Call (.Name x p2) (e :: es) [] pos) (aF R tr):=c9 (mU hc hg hm hv ha hn hdb he hpl) fun _ _ _=>F0 cv
theorem J3 {x:Str}{T:String}{R:List PV->(PV->Prop)->Prop}{r:List V->Hp->VK->Prop} (hc:cK X (.type T) r) (cv:eV X R r) (hg:Gl X x) (hm:X.mg x=none) (hv:bootBuiltins x=some (.type T)) (ha:QA X (e :: es) tr) (hn:x ≠ "__name__":=by decide) (hdb:(x == ("__debug__" : Str))=false:=by decide)
  (he:starEach (e :: es) X.env=(false,eval e X.env) :: starEach es X.env:=by rfl) (hpl:(backTo pos (starEach es X.env)).any (·.1)=false:=by rfl):QE X (.Call (.Name x p2) (e :: es) [] pos) (aF R tr):=c9 (yY hc hg hm hv ha hn hdb he hpl) fun _ _ _=>F0 cv
theorem dQ:eD X [] cX:=vB af6 fun _ _ _=>as1
theorem aN (h1:QS X st t) (h2:eD X sts u):eD X (st :: sts) (aL t u):=vB (jQ h1 h2) fun _ _ _=>as2
theorem aT (h1:QS X st t):eD X [st] t:=jR h1
theorem b8 {i:Nat}{x:Str} (hN:X.N.Nodup) (he:QE X e te) (hi:X.N[i]? = some x:=by rfl) (hx:jN X.env.scope x:=by first | exact Or.inl rfl | exact Or.inr rfl) (hs:swapsWith e (some (.Name x p2)) pos.line X.env=pure false:=by rfl) (hf:X.fn x=true ∨ X.env.scope.names.lookup x=some .local:=by first | exact .inl rfl | exact .inr rfl) :
  QS X (.Assign [.Name x p2] e pos) (aX i te):=fH (xX hN hi hx he hs hf) fun _ _ _=>F3
theorem jE {i:Nat}{x:Str} (hN:X.N.Nodup) (he:QE X e te) (hi:X.N[i]? = some x:=by rfl) (hx:jN X.env.scope x:=by first | exact Or.inl rfl | exact Or.inr rfl) (hs:swapsWith e (some (.Name x p2)) pos.line X.env=pure false:=by rfl) (hf:X.fn x=true ∨ X.env.scope.names.lookup x=some .local:=by first | exact .inl rfl | exact .inr rfl) :
  QS X (.Assign [.Name x p2] e pos) (gU i te):=fH (xX hN hi hx he hs hf) fun _ _ _=>as5
theorem bO (he:QE X e te):QS X (.Return (some e) pos) (bK te):=fH (kQ he) fun _ _ _=>as6
theorem nZ (i:Nat) {x:Str} (hN:X.N[i]? = some x:=by rfl) (hv:hV X.env.scope x:=by first | exact Or.inl rfl | exact Or.inr (Or.inl rfl) | exact Or.inr (Or.inr rfl)) (hd:(x == ("__debug__" : Str))=false:=by decide) (hcd:(x == ("__classdict__" : Str))=false:=by decide) :
  QS X (.Return (some (.Name x p2)) pos) (j8 i):=fH (kQ (kO hN hv hd hcd)) fun _ _ _=>as7
theorem dR {sa sb:List Stmt} (hc:QT X c tc) (ha:eD X sa t) (hb:eD X sb u):QS X (.If c sa sb pos) (cI tc t u):=fH (af7 hc ha hb) fun _ _ _=>as8
theorem ax7 {body:List Stmt} (hp:PassesOwn (model X.prog X.w) X.A X.env X.xe) (hc:QT X c tc) (hb:eD X body t):QS X (.While c body [] pos) (uL tc t):=fH (ag0 hp hc hb) fun _ _ _=>as9
theorem pY (i:Nat) {x:Str}{apos cpos xpos:Pos} (he:QE X e te) (hN:X.N[i]? = some x:=by rfl) (hv:hV X.env.scope x:=by first | exact Or.inl rfl | exact Or.inr (Or.inl rfl) | exact Or.inr (Or.inr rfl)) (hd:(x == ("__debug__" : Str))=false:=by decide) (hcd:(x == ("__classdict__" : Str))=false:=by decide)
  (hbase:attributeBase (.Name x xpos) "append" X.env (eval (.Name x xpos) X.env)=eval (.Name x xpos) X.env:=by rfl)
  (hfew:((backTo cpos (starEach [e] X.env)).all (fun x=>!x.1) && (backToKw cpos (keywordEach [] X.env)).all (fun x=>x.1.isSome) && decide (([e]:List Expr).length+([]:List Keyword).length+(if ([]:List Keyword).isEmpty then 0 else 1) < 30))=true:=by rfl)
  (hline:(apos.endLine == cpos.line)=true:=by rfl) (hs:starEach [e] X.env=(false,eval e X.env) :: starEach [] X.env:=by rfl) (hplain:(backTo cpos (starEach [] X.env)).any (·.1)=false:=by rfl)
  (hsw:swapsWith (.Call (.Attribute (.Name x xpos) "append" apos) [e] [] cpos) none pos.line X.env=pure false:=by rfl) :
  QS X (.Expr (.Call (.Attribute (.Name x xpos) "append" apos) [e] [] cpos) pos) (j9 i te):=
 fH (mJ (mY bm4 bl6 bl7 kY (kO hN hv hd hcd) (cQ he dD hs) hbase hfew hline hs hplain) hsw) fun _ _ _=>at0
theorem ax8 {i:Nat}{x:Str}{xpos tpos:Pos} (hu:X.A.units+1 < cLine) (hk:QE X a tk) (he:QE X e te) (hN:X.N[i]? = some x:=by rfl) (hv:hV X.env.scope x:=by first | exact Or.inl rfl | exact Or.inr (Or.inl rfl) | exact Or.inr (Or.inr rfl)) (hd:(x == ("__debug__" : Str))=false:=by decide) (hcd:(x == ("__classdict__" : Str))=false:=by decide)
  (hs:swapsWith e (some (.Subscript (.Name x xpos) a tpos)) pos.line X.env=pure false:=by rfl):QS X (.Assign [.Subscript (.Name x xpos) a tpos] e pos) (uY i tk te):=fH (an5 hu (kO hN hv hd hcd) hk he hs) fun _ _ _=>av9
theorem ax9 {tg l:Expr}{tl:TE} (hl:PE X l tl):PI X tg l (F6 X.K tl):=by
 intro pins s σ H R I h
 refine aJ (hl pins s σ H _ I h) fun v s1 ⟨x,H1,I1,r1,q1⟩=>?_
 obtain ⟨a,e,q⟩:=q1
 subst e
 cases r1
 rcases q with ⟨xs,hq,q⟩ | ⟨xs,hq,q⟩
 ·obtain ⟨its,rv,p,hz⟩:=I1.list hq
  refine wpAny_pyIter_list p.isList ?_
  refine⟨s1.heap.objs.size,[s1.heap.objs.size],_,_,H1,rfl,I1.kept (t':=s1.toks) fun b o e=>aZ1 _ e,ag1 a _,⟨_,bb2 _ rfl,rfl,rfl⟩,fun b hb=>?_,q⟩
  have e:b=s1.heap.objs.size:=by simpa using hb
  subst e
  exact I1.fpOk (aZ3 _) (I1.hok.fresh (aZ3 _))
 ·obtain ⟨its,rv,p,hz⟩:=I1.tuple hq
  refine bl4 (show s1.heap.IsTuple a its.toArray from p) ?_
  refine⟨s1.heap.objs.size,[s1.heap.objs.size],_,_,H1,rfl,I1.kept (t':=s1.toks) fun b o e=>aZ1 _ e,y7 a _,⟨_,bb2 _ rfl,rfl,rfl⟩,fun b hb=>?_,q⟩
  have e:b=s1.heap.objs.size:=by simpa using hb
  subst e
  exact I1.fpOk (aZ3 _) (I1.hok.fresh (aZ3 _))
theorem e8 {tg l:Expr} (hl:QE X l te):QI X tg l (dH te):=pS (ax9 hl) fun _ _ _=>au6
theorem k9 {tg:Expr} (hg:Gl X "range") (hm:X.mg "range" = none) (ha:QE X a ta) (hs:starEach [a] X.env = [(false,eval a X.env)]:=by rfl):QI X tg (.Call (.Name "range" p2) [a] [] pos) (iG ta):=pS (ag4 hg hm (cQ ha dD hs) hs) fun _ _ _=>au7
theorem J4 {tg:Expr} (hg:Gl X "range") (hm:X.mg "range" = none) (ha:QE X a ta) (hb:QE X b tb) (hs:starEach [a,b] X.env = [(false,eval a X.env),(false,eval b X.env)]:=by rfl) (hs2:starEach [b] X.env = [(false,eval b X.env)]:=by rfl) :
  QI X tg (.Call (.Name "range" p2) [a,b] [] pos) (pL ta tb):=pS (ag5 hg hm (cQ ha (cQ hb dD hs2) (by rw [hs,hs2])) hs hs2) fun _ _ _=>au8
theorem ay0 {tg:Expr}{body:List Stmt}{ti:eW}{p:jB}{g:TG}{own:Nat->Prop} (hp:PassesOwn (model X.prog X.w) X.A X.env X.xe) (hc:X.calm=true) (hi:QI X tg e ti) (hg:PG X tg g) (ht:nM X.K own p g) (hb:eD X body t)
  (hs:∀ x,foldedSetIterable e X.env x=pure x:=by intro _; rfl):QS X (.For tg e body [] pos) (eZ ti p t):=fH (sW hp hc hi hg hb hs) fun _ _ _=>av0 ht
end
section
variable {X : Cx} {pins : List (Addr × Obj)} {σ : St} {H : Hp} {s : Shared} {K : PySem.W.Frag} {M M' : Addr → Prop}
theorem lB.inj {a:Addr}{us ws:List V} (h:lB K a us) (h':lB K a ws):us=ws:=by
 obtain ⟨o,its,n,e1,_,e2,_,v⟩:=h
 obtain ⟨o',its',n',e1',_,e2',_,v'⟩:=h'
 rw [e1] at e1'; cases e1'
 rw [e2] at e2'; cases e2'
 exact v.inj v'
theorem Reps.self_of {n:Nat} (ih:∀ {v:V}{x y:PV},aE K M H v x->aE K M' H v y->dP n x y=true->bZ n x y=true):∀ {vs:List V}{xs ys:List PV},Reps K M H vs xs->Reps K M' H vs ys->((xs.zip ys).all fun p=>dP n p.1 p.2)=true->(((xs.zip ys).all fun p=>bZ n p.1 p.2) && xs.length == ys.length)=true
 | _,_,_,.nil,.nil,_=>rfl
 | _,_,_,.cons r t,.cons r' t',o=>by
  simp only [bn2,bm9,bf3] at o
  have h1:=ih r r' o.1
  have h2:=Reps.self_of ih t t' o.2
  simp only [bn2,bm9,h1,Bool.true_and,bd5] at h2 ⊢
  rw [<- h2]
  congr 1
  simp
theorem aE.self:∀ (n:Nat) {v:V}{x y:PV},aE K M H v x->aE K M' H v y->dP n x y=true->bZ n x y=true:=by
 intro n
 induction n with
 | zero=>
  intro v x y r r' o
  cases r with
  | non=>cases r'; rfl
  | bl b=>cases r'; exact bh5 b
  | int i=>cases r'; exact bh5 i
  | str z=>cases r'; exact bh5 z
  | _=>cases o
 | succ n ih=>
  intro v x y r r' o
  cases r with
  | non=>cases r'; rfl
  | bl b=>cases r'; exact bh5 b
  | int i=>cases r'; exact bh5 i
  | str z=>cases r'; exact bh5 z
  | tup h rr=>
   cases r' with
   | tup h' rr'=>rw [h] at h'; cases h'; exact Reps.self_of ih rr rr' o
   | _=>cases o
  | lst _ h rr=>
   cases r' with
   | lst _ h' rr'=>rw [h] at h'; cases h'; exact Reps.self_of ih rr rr' o
   | _=>cases o
  | kt h rr=>
   cases r' with
   | kt h' rr'=>cases lB.inj h h'; exact Reps.self_of ih rr rr' o
   | _=>cases o
  | _=>cases o
theorem Reps.self (n:Nat) {vs:List V}{xs ys:List PV} (r:Reps K M H vs xs) (r':Reps K M' H vs ys) (o:((xs.zip ys).all fun p=>dP n p.1 p.2)=true):(((xs.zip ys).all fun p=>bZ n p.1 p.2) && xs.length == ys.length)=true:=Reps.self_of (aE.self n) r r' o
theorem iM (n:Nat) (xs ys:List PV):(List.range (min xs.length ys.length)).all (fun j=>bZ n (xs.getD j .non) (ys.getD j .non))=(xs.zip ys).all fun p=>bZ n p.1 p.2:=by
 rw [bg9]
 simp only [bi2,List.mem_range]
 constructor
 ·intro h p hp
  obtain ⟨j,hj,e⟩:=bj3 hp
  have hj':j < min xs.length ys.length:=by simpa using hj
  have:=h j hj'
  rw [List.getElem_zip] at e
  subst e
  have h1:j < xs.length:=by omega
  have h2:j < ys.length:=by omega
  simpa [aZ7,h1,h2] using this
 ·intro h j hj
  have h1:j < xs.length:=by omega
  have h2:j < ys.length:=by omega
  have hz:j < (xs.zip ys).length:=by simp; omega
  have:=h _ (bj1 hz)
  rw [List.getElem_zip] at this
  simpa [aZ7,h1,h2] using this
theorem J5 (I:a6 X pins σ H s):∀ (n:Nat) {A:Around}{v w:V}{x y:PV}{a b:Value},A.units+n < cLine->aE X.K M H v x->aE X.K M' H w y->aO v a->aO w b->dP n x y=true->SeqAt.EqAt A s a b (bZ n x y):=by
 intro n
 induction n with
 | zero=>
  intro A v w x y a b hu rx ry ra rb o
  cases rx with
  | non=>
   cases ra
   cases ry with
   | non=>cases rb; exact SeqAt.EqAt.same _
   | int i=>obtain ⟨t',rfl⟩:=rb; exact SeqAt.EqAt.none_int _ _
   | _=>cases o
  | bl i=>
   cases ra
   cases ry with
   | bl j=>cases rb; exact SeqAt.EqAt.bool_bool _ _
   | _=>cases o
  | int i=>
   obtain ⟨t,rfl⟩:=ra
   cases ry with
   | int j=>obtain ⟨t',rfl⟩:=rb; exact SeqAt.EqAt.int_int _ _ _ _
   | non=>cases rb; exact SeqAt.EqAt.int_none _ _
   | _=>cases o
  | str i=>
   obtain ⟨t,rfl⟩:=ra
   cases ry with
   | str j=>obtain ⟨t',rfl⟩:=rb; exact SeqAt.EqAt.str_str _ _ _ _
   | _=>cases o
  | _=>cases o
 | succ n ih=>
  intro A v w x y a b hu rx ry ra rb o
  have items:∀ {us ws:List V}{xs ys:List PV}{its its2:List Value},Reps X.K M H us xs->Reps X.K M' H ws ys->aH us its->aH ws its2->((xs.zip ys).all fun p=>dP n p.1 p.2)=true->
    ∀ j (h1:j < its.toArray.size) (h2:j < its2.toArray.size),SeqAt.EqAt A.in1 s its.toArray[j] its2.toArray[j] (bZ n (xs.getD j .non) (ys.getD j .non)):=fun {us ws xs ys its its2} r1 r2 v1 v2 ok j h1 h2=>by
   have l1:=v1.length
   have l2:=v2.length
   have m1:=r1.length
   have m2:=r2.length
   have k1:j < its.length:=by simpa using h1
   have k2:j < its2.length:=by simpa using h2
   have j1:j < us.length:=by omega
   have j2:j < ws.length:=by omega
   have i1:j < xs.length:=by omega
   have i2:j < ys.length:=by omega
   obtain ⟨u,hu',ru⟩:=v1.get (aZ0 j1)
   obtain ⟨u2,hu2',ru2⟩:=v2.get (aZ0 j2)
   obtain ⟨x,hx,rx⟩:=r1.get (aZ0 j1)
   obtain ⟨y,hy,ry⟩:=r2.get (aZ0 j2)
   have e1:its.toArray[j]=u:=by
    rw [aZ0 k1] at hu'
    simpa using hu'
   have e2:its2.toArray[j]=u2:=by
    rw [aZ0 k2] at hu2'
    simpa using hu2'
   have ok':dP n x y=true:=by
    rw [bi2] at ok
    have hz:j < (xs.zip ys).length:=by simp; omega
    have:=ok _ (bj1 hz)
    rw [List.getElem_zip] at this
    rw [aZ0 i1] at hx
    rw [aZ0 i2] at hy
    cases hx; cases hy
    exact this
   rw [e1,e2]
   have g1:xs.getD j .non=x:=by rw [aZ7,hx]; rfl
   have g2:ys.getD j .non=y:=by rw [aZ7,hy]; rfl
   rw [g1,g2]
   exact ih (by show A.units+1+n < cLine; omega) rx ry ru ru2 ok'
  have huA:A.units < cLine:=by omega
  cases rx with
  | @kt p us xs h1 r1=>
   obtain ⟨its,v1,p1,_⟩:=I.tuple (.inr h1)
   cases (show a=Value.ref p from ra)
   cases ry with
   | @kt p2 ws ys h2 r2=>
    obtain ⟨its2,v2,p2',_⟩:=I.tuple (.inr h2)
    cases (show b=Value.ref p2 from rb)
    by_cases e:p=p2
    ·subst e
     have:=aE.self (K:=X.K) (M:=M) (M':=M') (n+1) (.kt h1 r1) (.kt h2 r2) o
     rw [this]
     exact SeqAt.EqAt.same _
    ·have:=SeqAt.RcAt.tuples p1 p2' huA (items r1 r2 v1 v2 o)
     refine .of_refs e ?_
     have l1:=v1.length
     have l2:=v2.length
     have m1:=r1.length
     have m2:=r2.length
     rw [aZ2,aZ2,<- l1,<- l2,m1,m2,iM] at this
     exact this
   | _=>cases o
  | @tup p us xs h1 r1=>
   obtain ⟨its,v1,p1,_⟩:=I.tuple (aD.of (K:=X.K) h1)
   cases (show a=Value.ref p from ra)
   cases ry with
   | @tup p2 ws ys h2 r2=>
    obtain ⟨its2,v2,p2',_⟩:=I.tuple (aD.of (K:=X.K) h2)
    cases (show b=Value.ref p2 from rb)
    by_cases e:p=p2
    ·subst e
     have:=aE.self (K:=X.K) (M:=M) (M':=M') (n+1) (.tup h1 r1) (.tup h2 r2) o
     rw [this]
     exact SeqAt.EqAt.same _
    ·have:=SeqAt.RcAt.tuples p1 p2' huA (items r1 r2 v1 v2 o)
     refine .of_refs e ?_
     have l1:=v1.length
     have l2:=v2.length
     have m1:=r1.length
     have m2:=r2.length
     rw [aZ2,aZ2,<- l1,<- l2,m1,m2,iM] at this
     exact this
   | non=>cases rb; exact SeqAt.EqAt.tuple_none p1 huA
   | _=>cases o
  | @lst p us xs _ h1 r1=>
   obtain ⟨its,v1,p1,_⟩:=I.list (aG.of (K:=X.K) h1)
   cases (show a=Value.ref p from ra)
   cases ry with
   | @lst p2 ws ys _ h2 r2=>
    obtain ⟨its2,v2,p2',_⟩:=I.list (aG.of (K:=X.K) h2)
    cases (show b=Value.ref p2 from rb)
    have l1:=v1.length
    have l2:=v2.length
    have m1:=r1.length
    have m2:=r2.length
    by_cases e:p=p2
    ·subst e
     rw [h1] at h2; cases h2
     have:=Reps.self n r1 r2 o
     show SeqAt.EqAt A s _ _ ((xs.zip ys).all (fun p=>bZ n p.1 p.2) && xs.length == ys.length)
     rw [this]
     exact SeqAt.EqAt.same _
    ·refine .of_refs e ?_
     by_cases hl:xs.length=ys.length
     ·have:=SeqAt.RcAt.lists p1.isList p2'.isList (by rw [aZ2,aZ2]; omega) huA (items r1 r2 v1 v2 o)
      have hm:min xs.length ys.length=its.length:=by omega
      rw [aZ2,<- hm,iM] at this
      show SeqAt.RcAt A s _ _ ((xs.zip ys).all (fun p=>bZ n p.1 p.2) && xs.length == ys.length)
      rw [show (xs.length == ys.length)=true by simpa using hl,Bool.and_true]
      exact this
     ·have:=SeqAt.RcAt.lists_lengths (A:=A) p1.isList p2'.isList (by rw [aZ2,aZ2]; simp; omega) huA
      show SeqAt.RcAt A s _ _ ((xs.zip ys).all (fun p=>bZ n p.1 p.2) && xs.length == ys.length)
      rw [show (xs.length == ys.length)=false by simpa using hl,Bool.and_false]
      exact this
   | _=>cases o
  | non=>
   cases ra
   cases ry with
   | non=>cases rb; exact SeqAt.EqAt.same _
   | int i=>obtain ⟨t',rfl⟩:=rb; exact SeqAt.EqAt.none_int _ _
   | @tup p2 ws ys h2 r2=>
    obtain ⟨its2,v2,p2',_⟩:=I.tuple (aD.of (K:=X.K) h2)
    cases (show b=Value.ref p2 from rb)
    exact SeqAt.EqAt.none_tuple p2' huA
   | _=>cases o
  | bl i=>
   cases ra
   cases ry with
   | bl j=>cases rb; exact SeqAt.EqAt.bool_bool _ _
   | _=>cases o
  | int i=>
   obtain ⟨t,rfl⟩:=ra
   cases ry with
   | int j=>obtain ⟨t',rfl⟩:=rb; exact SeqAt.EqAt.int_int _ _ _ _
   | non=>cases rb; exact SeqAt.EqAt.int_none _ _
   | _=>cases o
  | str i=>
   obtain ⟨t,rfl⟩:=ra
   cases ry with
   | str j=>obtain ⟨t',rfl⟩:=rb; exact SeqAt.EqAt.str_str _ _ _ _
   | _=>cases o
  | _=>cases o
end
structure Bt (mg:Str->Option Value):Prop where
 len:mg "len" = none
 range:mg "range" = none
 tuple:mg "tuple" = none
 list:mg "list" = none
 sorted:mg "sorted" = none
 all:mg "all" = none
 any:mg "any" = none
 zip:mg "zip" = none
 min:mg "min" = none
 max:mg "max" = none
 sum:mg "sum" = none
 isinst:mg "isinstance" = none
 int:mg "int" = none
 bool:mg "bool" = none
 enum:mg "enumerate" = none
section
variable {X : Cx} {a b c e o : Expr} {es bM : List Expr} {ta tb te to tk : aB} {tr : cH} {tA tB' tc : cC} {pos p2 px : Pos} {st : Stmt} {sts : List Stmt} {t u : aK}
theorem eG (B:Bt X.mg) (ha:QA X [e] tr) (hg:Gl X "len":=by rfl) (he:starEach [e] X.env=(false,eval e X.env) :: starEach [] X.env:=by rfl) (hpl:(backTo pos (starEach [] X.env)).any (·.1)=false:=by rfl):QE X (.Call (.Name "len" p2) [e] [] pos) (aF cM tr):=
 iL (am0.or ao4) at5 hg B.len PySem.boot_len ha (he:=he) (hpl:=hpl)
theorem lP (B:Bt X.mg) (ha:QA X [e] tr) (hg:Gl X "tuple":=by rfl) (he:starEach [e] X.env=(false,eval e X.env) :: starEach [] X.env:=by rfl) (hpl:(backTo pos (starEach [] X.env)).any (·.1)=false:=by rfl):QE X (.Call (.Name "tuple" p2) [e] [] pos) (aF k8 tr):=
 J3 am2 at6 hg B.tuple PyProof.Rows.boot_tuple ha (he:=he) (hpl:=hpl)
theorem ay1 (B:Bt X.mg) (ha:QA X [e] tr) (hg:Gl X "list":=by rfl) (he:starEach [e] X.env=(false,eval e X.env) :: starEach [] X.env:=by rfl) (hpl:(backTo pos (starEach [] X.env)).any (·.1)=false:=by rfl):QE X (.Call (.Name "list" p2) [e] [] pos) (aF uO tr):=
 J3 am1 at7 hg B.list PyProof.Rows.boot_list ha (he:=he) (hpl:=hpl)
theorem ay2 (B:Bt X.mg) (hc:X.calm=true) (ha:QA X [e] tr) (hg:Gl X "all":=by rfl) (he:starEach [e] X.env=(false,eval e X.env) :: starEach [] X.env:=by rfl) (hpl:(backTo pos (starEach [] X.env)).any (·.1)=false:=by rfl):QE X (.Call (.Name "all" p2) [e] [] pos) (aF uP tr):=
 iL (uB hc) at8 hg B.all PyProof.Rows.boot_all ha (he:=he) (hpl:=hpl)
theorem J6 (B:Bt X.mg) (hc:X.calm=true) (ha:QA X [a,b] tr) (hg:Gl X "min":=by rfl) (he:starEach [a,b] X.env=(false,eval a X.env) :: starEach [b] X.env:=by rfl) (hpl:(backTo pos (starEach [b] X.env)).any (·.1)=false:=by rfl):QE X (.Call (.Name "min" p2) [a,b] [] pos) (aF pK tr):=
 iL (ai8 hc) at9 hg B.min PyProof.Rows.boot_min ha (he:=he) (hpl:=hpl)
theorem ay3 (B:Bt X.mg) (hc:X.calm=true) (ha:QA X [a,b] tr) (hg:Gl X "max":=by rfl) (he:starEach [a,b] X.env=(false,eval a X.env) :: starEach [b] X.env:=by rfl) (hpl:(backTo pos (starEach [b] X.env)).any (·.1)=false:=by rfl):QE X (.Call (.Name "max" p2) [a,b] [] pos) (aF uQ tr):=
 iL (ai7 hc) au0 hg B.max PyProof.Rows.boot_max ha (he:=he) (hpl:=hpl)
theorem J7 (ha:QE X a ta):QE X (.UnaryOp .USub a pos) (nO ta):=c9 (ag9 ah7 ha) fun σ H Q' h=>by
 obtain ⟨W,ρ,Q,px,q,k⟩:=h
 refine⟨W,ρ,_,px,q,?_⟩
 rintro v H1 x g s r ⟨i,rfl,q⟩
 cases r
 exact⟨i,rfl,k _ _ _ .fr s (.int _) q⟩
theorem J8 (x:Int):∀ (xs:List Int),mX (.int x) (xs.map V.int)=decide (x ∈ xs)
 | []=>by simp [mX]
 | y :: r=>by
  have ih:=J8 x r
  unfold mX at ih ⊢
  rw [be9,bn0,ih]
  by_cases e:y=x
  ·subst e; simp [gA]
  ·have:gA (.int y) (.int x)=false:=by simpa [gA] using e
   rw [this,Bool.false_or,bg9]
   simp [Ne.symm e]
theorem K0:∀ (xs:List Int),(xs.map V.int).all i8=true
 | []=>rfl
 | _ :: r=>by rw [be9,bm9,K0 r]; rfl
theorem ay4 (neg:Bool):dO X (v8 neg) (zO X.K neg):=by
 rintro W Hs H u v x y g g' Q Q' s n r1 r2 ⟨i,ns,rfl,e,q⟩ k
 cases r1
 obtain ⟨a,us,rfl,hs,r⟩:=r2.seq e
 obtain rfl:=r.ofInts
 refine⟨a,_,rfl,hs,rfl,K0 ns,?_⟩
 have:=k _ _ _ .fr (a9.refl _) (.bl _) q
 rw [J8]
 cases neg <;> exact this
theorem ay5 (ha:QE X a ta) (hb:QE X b tb) (hm:behindInMarks .In b=false:=by rfl):QE X (.Compare a [.In] [b] pos) (q2 (v8 false) ta tb):=nX al9 (ay4 false) ha hb hm
theorem aE.kt_ {K:PySem.W.Frag}{M:Addr->Prop}{H:Hp}{v:V}{xs:List PV} (r:aE K M H v (.kt xs)):∃ a us,v = .ref a/\lB K a us/\Reps K M H us xs:=by
 cases r with
 | kt h r=>exact⟨_,_,rfl,h,r⟩
def K1 (K:PySem.W.Frag) (H:Hp) (x:V) (t:Value):Prop:=eO K H x t ∨ ∃ a us,x = .ref a/\aD K H a us/\t = .type "tuple"
theorem ay6:cK X (.builtin "isinstance") (fun xs H Q=>∃ x t n b,xs = [x,.ty n]/\K1 X.K H x t/\PySem.W.kitOne X.K t (.type n)=some b/\Q (.bl b) H):=by
 intro pins s σ H xs us Q I r h
 obtain ⟨x,t,n,b,rfl,ty,e,q⟩:=h
 rcases ty with ty | ⟨a,ws,rfl,hs,rfl⟩
 ·exact ap2 pins s σ H _ us Q I r ⟨x,t,n,b,rfl,ty,e,q⟩
 obtain ⟨u,u',rfl,ru,ru'⟩:=mS r
 cases ru'
 cases (show u=Value.ref a from ru)
 obtain ⟨its,_,⟨o,h1,h2,_⟩,_⟩:=I.tuple hs
 exact bf7 PySem.W.kitx_tuple I.kIn ⟨o,h1,h2⟩ e (fun z=>nomatch z) fun tk=>⟨.bl b,H,I.tok tk,rfl,q⟩
theorem ay7 {K:PySem.W.Frag}{M:Addr->Prop}{H:Hp}{v:V}{x:PV}{T:String} (r:aE K M H v x) (e:G4 x=some T):K1 K H v (.type T):=by
 cases r with
 | non=>cases e; exact .inl .non
 | bl b=>cases e; exact .inl (.bl b)
 | int i=>cases e; exact .inl (.int i)
 | str i=>cases e; exact .inl (.str i)
 | tup h _=>cases e; exact .inl (.tup h)
 | lst _ h _=>cases e; exact .inl (.lst h)
 | kt h _=>cases e; exact .inr ⟨_,_,rfl,.inr h,rfl⟩
 | _=>cases e
theorem vF {x:Str}{n:String} (B:Bt X.mg) (hn:bootBuiltins x=some (.type n)) (hm:X.mg x=none) (ha:QE X a ta) (hg:Gl X "isinstance":=by rfl) (hgx:Gl X x:=by rfl) (hx:x ≠ "__name__":=by decide) (hdx:(x == ("__debug__" : Str))=false:=by decide)
  (he:starEach [a,.Name x px] X.env=(false,eval a X.env) :: starEach [.Name x px] X.env:=by rfl) (he2:starEach [.Name x px] X.env=(false,eval (.Name x px) X.env) :: starEach [] X.env:=by rfl) (hpl:(backTo pos (starEach [.Name x px] X.env)).any (·.1)=false:=by rfl):QE X (.Call (.Name "isinstance" p2) [a,.Name x px] [] pos) (k6 X.K n ta):=
 c9 (mU ay6 hg B.isinst PyProof.Rows.boot_isinstance (cQ ha (cQ (xL (v:=.ty n) hgx hm hn rfl hx hdx) dD he2) he) (he:=he) (hpl:=hpl)) fun σ H Q' h=>by
  obtain ⟨W,ρ,Q,px,q,k⟩:=h
  refine⟨W,ρ,_,px,q,?_⟩
  rintro v H1 x g s r ⟨T,b,e,kt,q⟩
  exact⟨v,_,n,b,rfl,ay7 r e,kt,k _ _ _ .fr s (.bl _) q⟩
theorem ay8 (B:Bt X.mg) (ha:QE X a ta) (hg:Gl X "isinstance":=by rfl) (hgx:Gl X "int":=by rfl)
  (he:starEach [a,.Name "int" px] X.env=(false,eval a X.env) :: starEach [.Name "int" px] X.env:=by rfl) (he2:starEach [.Name "int" px] X.env=(false,eval (.Name "int" px) X.env) :: starEach [] X.env:=by rfl) (hpl:(backTo pos (starEach [.Name "int" px] X.env)).any (·.1)=false:=by rfl):QE X (.Call (.Name "isinstance" p2) [a,.Name "int" px] [] pos) (k6 X.K "int" ta):=vF B PyProof.Rows.boot_int B.int ha (hg:=hg) (hgx:=hgx) (he:=he) (he2:=he2) (hpl:=hpl)
theorem ay9 (B:Bt X.mg) (ha:QE X a ta) (hg:Gl X "isinstance":=by rfl) (hgx:Gl X "bool":=by rfl)
  (he:starEach [a,.Name "bool" px] X.env=(false,eval a X.env) :: starEach [.Name "bool" px] X.env:=by rfl) (he2:starEach [.Name "bool" px] X.env=(false,eval (.Name "bool" px) X.env) :: starEach [] X.env:=by rfl) (hpl:(backTo pos (starEach [.Name "bool" px] X.env)).any (·.1)=false:=by rfl):QE X (.Call (.Name "isinstance" p2) [a,.Name "bool" px] [] pos) (k6 X.K "bool" ta):=vF B PyProof.Rows.boot_bool B.bool ha (hg:=hg) (hgx:=hgx) (he:=he) (he2:=he2) (hpl:=hpl)
theorem az0 (B:Bt X.mg) (ha:QE X a ta) (hg:Gl X "isinstance":=by rfl) (hgx:Gl X "tuple":=by rfl)
  (he:starEach [a,.Name "tuple" px] X.env=(false,eval a X.env) :: starEach [.Name "tuple" px] X.env:=by rfl) (he2:starEach [.Name "tuple" px] X.env=(false,eval (.Name "tuple" px) X.env) :: starEach [] X.env:=by rfl) (hpl:(backTo pos (starEach [.Name "tuple" px] X.env)).any (·.1)=false:=by rfl):QE X (.Call (.Name "isinstance" p2) [a,.Name "tuple" px] [] pos) (k6 X.K "tuple" ta):=vF B PyProof.Rows.boot_tuple B.tuple ha (hg:=hg) (hgx:=hgx) (he:=he) (he2:=he2) (hpl:=hpl)
def vG (K:PySem.W.Frag) (n:Nat) (neg:Bool):R2:=fun v w H Q=>∃ x y,aE K (fun _=>True) H v x/\aE K (fun _=>True) H w y/\((∃ xs ys,x = .tup xs/\y = .tup ys) ∨ (∃ xs ys,x = .lst xs/\y = .lst ys) ∨ (∃ xs ys,x = .kt xs/\y = .kt ys))/\dP (n+1) x y=true/\Q (.bl (if neg=true then !bZ (n+1) x y else bZ (n+1) x y)) H
theorem lQ {pins:List (Addr × Obj)}{σ:St}{H:Hp}{s:Shared}{M M':Addr->Prop} (I:a6 X pins σ H s) {n:Nat}{A:Around} (hu:A.units+(n+1) < cLine) {us ws:List V}{xs ys:List PV}{its its2:List Value} (r1:Reps X.K M H us xs) (r2:Reps X.K M' H ws ys) (v1:aH us its) (v2:aH ws its2)
  (ok:((xs.zip ys).all fun p=>dP n p.1 p.2)=true):∀ j (h1:j < its.toArray.size) (h2:j < its2.toArray.size),SeqAt.EqAt A.in1 s its.toArray[j] its2.toArray[j] (bZ n (xs.getD j .non) (ys.getD j .non)):=by
 intro j h1 h2
 have l1:=v1.length
 have l2:=v2.length
 have m1:=r1.length
 have m2:=r2.length
 have k1:j < its.length:=by simpa using h1
 have k2:j < its2.length:=by simpa using h2
 have j1:j < us.length:=by omega
 have j2:j < ws.length:=by omega
 have i1:j < xs.length:=by omega
 have i2:j < ys.length:=by omega
 obtain ⟨u,hu',ru⟩:=v1.get (aZ0 j1)
 obtain ⟨u2,hu2',ru2⟩:=v2.get (aZ0 j2)
 obtain ⟨x,hx,rx⟩:=r1.get (aZ0 j1)
 obtain ⟨y,hy,ry⟩:=r2.get (aZ0 j2)
 have e1:its.toArray[j]=u:=by
  rw [aZ0 k1] at hu'
  simpa using hu'
 have e2:its2.toArray[j]=u2:=by
  rw [aZ0 k2] at hu2'
  simpa using hu2'
 have ok':dP n x y=true:=by
  rw [bi2] at ok
  have hz:j < (xs.zip ys).length:=by simp; omega
  have:=ok _ (bj1 hz)
  rw [List.getElem_zip] at this
  rw [aZ0 i1] at hx
  rw [aZ0 i2] at hy
  cases hx; cases hy
  exact this
 rw [e1,e2]
 have g1:xs.getD j .non=x:=by rw [aZ7,hx]; rfl
 have g2:ys.getD j .non=y:=by rw [aZ7,hy]; rfl
 rw [g1,g2]
 exact J5 I n (by show A.units+1+n < cLine; omega) rx ry ru ru2 ok'
theorem az1 (n:Nat) (hu:X.A.units+(n+1) < cLine):bP X (compareOp .Eq) (vG X.K n false):=by
 intro pins s σ H v w a b Q I ra rb h
 obtain ⟨x,y,rx,ry,kd,o,q⟩:=h
 have hu0:X.A.units < cLine:=by omega
 rcases kd with ⟨xs,ys,rfl,rfl⟩ | ⟨xs,ys,rfl,rfl⟩ | ⟨xs,ys,rfl,rfl⟩
 ·obtain ⟨p,us,rfl,h1,r1⟩:=rx.sqT
  obtain ⟨p2,ws,rfl,h2,r2⟩:=ry.sqT
  cases ra; cases rb
  obtain ⟨its,v1,p1,_⟩:=I.tuple (aD.of (K:=X.K) h1)
  obtain ⟨its2,v2,p2',_⟩:=I.tuple (aD.of (K:=X.K) h2)
  have l1:=v1.length
  have l2:=v2.length
  have m1:=r1.length
  have m2:=r2.length
  have:=SeqAt.RcAt.tuples p1 p2' hu0 (lQ I hu r1 r2 v1 v2 o)
  rw [aZ2,aZ2,<- l1,<- l2,m1,m2,iM] at this
  exact this _ _ _ _ ⟨.bl _,H,I,rfl,q⟩
 ·obtain ⟨p,us,rfl,_,h1,r1⟩:=rx.sqL
  obtain ⟨p2,ws,rfl,_,h2,r2⟩:=ry.sqL
  cases ra; cases rb
  obtain ⟨its,v1,p1,_⟩:=I.list (aG.of (K:=X.K) h1)
  obtain ⟨its2,v2,p2',_⟩:=I.list (aG.of (K:=X.K) h2)
  have l1:=v1.length
  have l2:=v2.length
  have m1:=r1.length
  have m2:=r2.length
  have q:Q (.bl ((xs.zip ys).all (fun p=>bZ n p.1 p.2) && xs.length == ys.length)) H:=q
  by_cases hl:xs.length=ys.length
  ·have:=SeqAt.RcAt.lists p1.isList p2'.isList (by rw [aZ2,aZ2]; omega) hu0 (lQ I hu r1 r2 v1 v2 o)
   have hm:min xs.length ys.length=its.length:=by omega
   rw [aZ2,<- hm,iM] at this
   rw [show (xs.length == ys.length)=true by simpa using hl,Bool.and_true] at q
   exact this _ _ _ _ ⟨.bl _,H,I,rfl,q⟩
  ·have:=SeqAt.RcAt.lists_lengths (A:=X.A) p1.isList p2'.isList (by rw [aZ2,aZ2]; simp; omega) hu0
   rw [show (xs.length == ys.length)=false by simpa using hl,Bool.and_false] at q
   exact this _ _ _ _ ⟨.bl _,H,I,rfl,q⟩
 ·obtain ⟨p,us,rfl,h1,r1⟩:=rx.kt_
  obtain ⟨p2,ws,rfl,h2,r2⟩:=ry.kt_
  cases ra; cases rb
  obtain ⟨its,v1,p1,_⟩:=I.tuple (.inr h1)
  obtain ⟨its2,v2,p2',_⟩:=I.tuple (.inr h2)
  have l1:=v1.length
  have l2:=v2.length
  have m1:=r1.length
  have m2:=r2.length
  have:=SeqAt.RcAt.tuples p1 p2' hu0 (lQ I hu r1 r2 v1 v2 o)
  rw [aZ2,aZ2,<- l1,<- l2,m1,m2,iM] at this
  exact this _ _ _ _ ⟨.bl _,H,I,rfl,q⟩
theorem az2 (n:Nat) (hu:X.A.units+(n+1) < cLine):bP X (compareOp .NotEq) (vG X.K n true):=by
 intro pins s σ H v w a b Q I ra rb h
 obtain ⟨x,y,rx,ry,kd,o,q⟩:=h
 have hu0:X.A.units < cLine:=by omega
 rcases kd with ⟨xs,ys,rfl,rfl⟩ | ⟨xs,ys,rfl,rfl⟩ | ⟨xs,ys,rfl,rfl⟩
 ·obtain ⟨p,us,rfl,h1,r1⟩:=rx.sqT
  obtain ⟨p2,ws,rfl,h2,r2⟩:=ry.sqT
  cases ra; cases rb
  obtain ⟨its,v1,p1,_⟩:=I.tuple (aD.of (K:=X.K) h1)
  obtain ⟨its2,v2,p2',_⟩:=I.tuple (aD.of (K:=X.K) h2)
  have l1:=v1.length
  have l2:=v2.length
  have m1:=r1.length
  have m2:=r2.length
  have:=SeqAt.RcNeAt.tuples p1 p2' hu0 (lQ I hu r1 r2 v1 v2 o)
  rw [aZ2,aZ2,<- l1,<- l2,m1,m2,iM] at this
  exact this _ _ _ _ ⟨.bl _,H,I,rfl,q⟩
 ·obtain ⟨p,us,rfl,_,h1,r1⟩:=rx.sqL
  obtain ⟨p2,ws,rfl,_,h2,r2⟩:=ry.sqL
  cases ra; cases rb
  obtain ⟨its,v1,p1,_⟩:=I.list (aG.of (K:=X.K) h1)
  obtain ⟨its2,v2,p2',_⟩:=I.list (aG.of (K:=X.K) h2)
  have l1:=v1.length
  have l2:=v2.length
  have m1:=r1.length
  have m2:=r2.length
  have q:Q (.bl (!((xs.zip ys).all (fun p=>bZ n p.1 p.2) && xs.length == ys.length))) H:=q
  by_cases hl:xs.length=ys.length
  ·have:=SeqAt.RcNeAt.lists p1.isList p2'.isList (by rw [aZ2,aZ2]; omega) hu0 (lQ I hu r1 r2 v1 v2 o)
   have hm:min xs.length ys.length=its.length:=by omega
   rw [aZ2,<- hm,iM] at this
   rw [show (xs.length == ys.length)=true by simpa using hl,Bool.and_true] at q
   exact this _ _ _ _ ⟨.bl _,H,I,rfl,q⟩
  ·have:=SeqAt.RcNeAt.lists_lengths (A:=X.A) p1.isList p2'.isList (by rw [aZ2,aZ2]; simp; omega) hu0
   rw [show (xs.length == ys.length)=false by simpa using hl,Bool.and_false] at q
   exact this _ _ _ _ ⟨.bl _,H,I,rfl,q⟩
 ·obtain ⟨p,us,rfl,h1,r1⟩:=rx.kt_
  obtain ⟨p2,ws,rfl,h2,r2⟩:=ry.kt_
  cases ra; cases rb
  obtain ⟨its,v1,p1,_⟩:=I.tuple (.inr h1)
  obtain ⟨its2,v2,p2',_⟩:=I.tuple (.inr h2)
  have l1:=v1.length
  have l2:=v2.length
  have m1:=r1.length
  have m2:=r2.length
  have:=SeqAt.RcNeAt.tuples p1 p2' hu0 (lQ I hu r1 r2 v1 v2 o)
  rw [aZ2,aZ2,<- l1,<- l2,m1,m2,iM] at this
  exact this _ _ _ _ ⟨.bl _,H,I,rfl,q⟩
theorem K2 {n:Nat}{neg:Bool}:dO X (jC n neg) (vG X.K n neg):=by
 rintro W Hs H u v x y g g' Q Q' s n r1 r2 ⟨kd,o,q⟩ k
 exact⟨x,y,r1.same (a9.refl _) fun _ _=>trivial,r2.same (a9.refl _) fun _ _=>trivial,kd.elim .inl fun z=>.inr (.inl z),o,k _ _ _ .fr (a9.refl _) (.bl _) q⟩
theorem vH (hu:X.A.units+3 < cLine) (ha:QE X a ta) (hb:QE X b tb):QT X (.Compare a [.NotEq] [b] pos) (aV (q2 (jC 2 true) ta tb)):=iH (az2 2 hu) K2 ha hb (e9 _)
theorem K3 (hu:X.A.units+3 < cLine) (ha:QE X a ta) (hb:QE X b tb):QE X (.Compare a [.Eq] [b] pos) (q2 (jC 2 false) ta tb):=nX (az1 2 hu) K2 ha hb (e9 _)
end
end PP
namespace PP
open PySem L2 PyProof.Rows
def LO (X:Cx) (t:lJ):TO:=fun σ H Q'=>∃ (W:Addr->Prop) (ρ:bA) (Q:Option Int->Prop),PX X.K X.H₀ W σ ρ H/\t ρ Q/\∀ o H',a9 H H'->Q o->Q' o H'
def QO (X:Cx) (e:Option Expr) (t:lJ):Prop:=PO X e (LO X t)
theorem Reps.cut {K:PySem.W.Frag}{M:Addr->Prop}{H:Hp}{us:List V}{xs:List PV} (r:Reps K M H us xs) (lo hi:Option Int):Reps K M H (dE us lo hi) (gV xs lo hi):=by
 unfold dE gV
 rw [r.length]
 exact (r.drop _).take _
section
variable {X : Cx} {a b c e o : Expr} {es bM : List Expr} {ta tb te to tk : aB} {tr : cH} {tA tB' tc : cC} {pos p2 px : Pos} {st : Stmt} {sts : List Stmt} {t u : aK}
theorem az3:QO X none G5:=fun pins s σ H Q I h=>tG pins s σ H Q I (by
 obtain ⟨W,ρ,Q1,px,q,k⟩:=h
 exact k _ _ (a9.refl _) q)
theorem vI (h:QE X e te):QO X (some e) (pR te):=fun pins s σ H Q I hq=>tH h pins s σ H Q I (by
 obtain ⟨W,ρ,Q1,px,q,k⟩:=hq
 refine⟨W,ρ,_,px,q,?_⟩
 rintro v H1 x g s r ⟨i,rfl,q⟩
 cases r
 exact⟨i,rfl,k _ _ s q⟩)
theorem K4 {lo hi:Option Expr}{tl th:lJ}{sp:Pos} (he:QE X e te) (hl:QO X lo tl) (hh:QO X hi th):QE X (.Subscript e (.Slice lo hi none sp) pos) (v9 te tl th):=c9 (tI (zM.or E3) he hl hh) fun σ H Q' h=>by
 obtain ⟨W,ρ,Q,px,q,k⟩:=h
 refine⟨W,ρ,_,px,q,fun v H1 x g s1 r1 q1=>⟨W,ρ,_,px.mono s1,q1,fun lo H2 s2 q2=>⟨W,ρ,_,px.mono (s1.trans s2),q2,?_⟩⟩⟩
 rintro hi H3 s3 ⟨xs,e,f,q3⟩
 have S:=(s1.trans s2).trans s3
 have r3:=r1.same (M':=Mg X.H₀ W H g) (s2.trans s3) fun _ z=>z
 cases r3 with
 | tup h r=>
  cases e
  refine .inr ⟨_,_,rfl,aD.of h,fun p hp=>k _ _ _ .fr (S.trans (b7 hp _)) (.tup b9 (((r.flat f).cut lo hi).same (b7 hp _) fun _ z=>z)) q3,fun ec=>k _ _ _ .fr S (.tup h ?_) q3⟩
  have:=(r.flat (M':=Mg X.H₀ W H .fr) f).cut lo hi
  rw [ec] at this
  exact this
 | lst m h r=>
  cases e
  exact .inl ⟨_,_,rfl,aG.of h,fun p hp=>k _ _ _ .fr (S.trans (b7 hp _)) (.lst (S.free hp) b9 (((r.flat f).cut lo hi).same (b7 hp _) fun _ z=>z)) q3⟩
 | scr h=>
  cases e
  exact .inl ⟨_,_,rfl,h.sqL,fun p hp=>k _ _ _ .fr (S.trans (b7 hp _)) (.lst (S.free hp) b9 (((Reps.intz _).cut lo hi).same (b7 hp _) fun _ z=>z)) q3⟩
 | _=>cases e
structure Df (P:Program) (w:World) (K:PySem.W.Frag) (mg:Str->Option Value) (base:Heap) (k:Nat) (x:Str) (ps:List Str) (p:bD):Prop where
 ex:∃ f fd,cG P w K mg base cY k f fd ps (nL K p)/\fZ K fd ps []/\PySem.W.keepIn K (.ref f)=true/\mg x=some (.ref f)
theorem bB {k j:Nat}{x:Str}{ps:List Str}{p:bD} (d:Df X.prog X.w X.K X.mg X.base k x ps p) (hr:bR j X.A) (ha:QA X (e :: es) tr) (hkj:k<=j:=by decide) (hg:Gl X x:=by rfl) (hdb:(x == ("__debug__" : Str))=false:=by decide)
  (he:starEach (e :: es) X.env=(false,eval e X.env) :: starEach es X.env:=by rfl) (hpl:(backTo pos (starEach es X.env)).any (·.1)=false:=by rfl):QE X (.Call (.Name x p2) (e :: es) [] pos) (aF p tr):=by
 obtain ⟨f,fd,F,b,kp,m⟩:=d.ex
 exact c9 (tE F (hr.mono hkj) hg m kp b .nil ao2 ha hdb he hpl) fun _ _ _=>au1
theorem vJ {K:PySem.W.Frag}{H:Hp}{N:List Str}{vs:List V}{xs:List PV} (r:Reps K (fun _=>True) H vs xs):PX K H (fun _=>False) (L2.fR N vs) (fA N xs) H:=by
 have lr:=r.length
 have own:∀ {i:Nat}{m:Slot},(fA N xs)[i]? = some (some m)->∃ x,xs[i]? = some x/\m = .sh (flat x) x:=fun {i m} h=>by
  unfold fA at h
  by_cases hi:i < xs.length
  ·rw [bd2 (by simpa using hi),ba1] at h
   rw [aZ0 hi] at h ⊢
   cases h
   exact⟨_,rfl,rfl⟩
  ·rw [be2 (by simpa using hi),List.getElem?_replicate] at h
   split at h <;> cases h
 refine⟨by unfold L2.fR fA; simp [lr],a9.refl _,fun a z=>z.elim,fun i m h=>?_,fun i j x y a h1=>?_⟩
 ·obtain ⟨x,hx,rfl⟩:=own h
  obtain ⟨v,hv,rx⟩:=r.at hx
  refine⟨v,?_,pM (g:=false) (rx.same (a9.refl _) fun _ _ z=>z)⟩
  have hi:i < vs.length:=(aZ9.mp hv).1
  unfold L2.fR
  rw [bd2 (by simpa using hi),ba1,hv]; rfl
 ·obtain ⟨x,_,e⟩:=own h1
  cases e
theorem Df.of {P:Program}{w:World}{K:PySem.W.Frag}{mg:Str->Option Value}{base:Heap}{k:Nat}{x:Str}{ps N:List Str}{p:bD}{st:Stmt}{f:Addr}{fd:FuncData} (F:dX K x x st f fd) (m:mg x=some (.ref f)) (S:FnScope N ps (aS st))
  (hb:∀ (kV doc pm:Value) (an:Option Addr) (cdv ct:Value) (us:List Value),us.length=ps.length->bindArgs (PySem.W.fnOf x x (iB st) (dW st) (aS st) .none kV doc pm an cdv ct) ⟨us,[]⟩=pure (ps.zip us))
  (len:∀ xs Q,p xs Q->xs.length=ps.length)
  (body:∀ (cdv:Value) (A:Around) (outer:List Env) (s:Shared) (H:Hp) (E:XK),bR k (A.deeper (envOfC x (aS st) s.heap.objs.size f cdv))->
   ∃ t,eD (cW cY P w K mg base N x (aS st) f cdv A outer s H E).nox (dW st) t/\∀ xs Q,p xs Q->t { nx:=fun _=>Q .non,rt:=Q } (fA N xs)):Df P w K mg base (k+1) x ps p:=by
 refine⟨f,fd,F.ok S (fun vs H Q E h=>?_) (fun cdv A outer s H vs Q E hr h=>?_),F.binds hb,F.kp,m⟩
 ·obtain ⟨xs,Qp,r,q,_⟩:=h
  rw [r.length]; exact len xs Qp q
 ·obtain ⟨xs,Qp,r,q,k⟩:=h
  obtain ⟨t,ht,hq⟩:=body cdv A outer s H E hr
  refine⟨_,ht,fun _=>False,fA N xs,_,vJ r,hq xs Qp q,?_,?_,?_,?_⟩
  ·exact fun W' σ' H' ρ' e px q=>k _ _ _ px.same .non q
  ·exact fun v H' x s r q=>k _ _ _ s r q
  ·exact fun W' σ' H' ρ' e px q=>q
  ·exact fun W' σ' H' ρ' e px q=>q
theorem gJ (i:Nat) {x:Str}{tp:Pos}{body:List Stmt}{ti:eW} (hN:X.N.Nodup) (hi:QI X (.Name x tp) e ti) (hb:eD X body t) (hx:X.N[i]? = some x:=by rfl) (hl:jN X.env.scope x:=by first | exact Or.inl rfl | exact Or.inr rfl) (hf:X.fn x=true ∨ X.env.scope.names.lookup x=some .local:=by first | exact .inl rfl | exact .inr rfl)
  (hp:PassesOwn (model X.prog X.w) X.A X.env X.xe:=by exact PassesOwn.never) (hc:X.calm=true:=by rfl) (hs:∀ x,foldedSetIterable e X.env x=pure x:=by intro _; rfl):QS X (.For (.Name x tp) e body [] pos) (eZ ti (bS i) t):=
 ay0 hp hc hi (eN hN hx hl hf) (pN _ i) hb hs
abbrev cT:Value->Shared->Prop:=fun _ _=>False
section
variable {scope : Scope} {N : List Str} {fr : List (Option Nat)} {x y : Str} {tp xp yp : Pos} {kt : Nat} {iter elt : Expr} {ti : eW}
theorem vK {ifs:List Expr}{tcs:cC} (he:∀ (s:Shared) (H:Hp) (C:Addr) (fp:List Addr),QE (bN X scope N s H C fp cT) elt te) (hi:∀ (s:Shared) (H:Hp) (C:Addr) (fp:List Addr),j4 (bN X scope N s H C fp cT) ifs (LT (bN X scope N s H C fp cT) tcs))
  (hN:N.Nodup) (h0:N[0]? = some x) (hl:∀ (s:Shared) (H:Hp) (C:Addr) (fp:List Addr),(bN X scope N s H C fp cT).env.scope.names.lookup x=some .local) (s:Shared) (H:Hp) :
  kZ X scope N (.Name x tp) ifs elt s H (cV 0) (LT (X.frm H) tcs) (LE (X.frm H) te):=
 ⟨fun C fp=>eN (X:=bN X scope N s H C fp cT) hN h0 (.inl (hl s H C fp)) (.inr (hl s H C fp)),fun C fp=>hi s H C fp,fun C fp=>he s H C fp⟩
theorem K5 {Y:Cx}:j4 Y [] (LT Y dZ):=fun pins s σ H Q I h=>nA pins s σ H Q I (av2 h)
theorem iN (hi:QI X (.Name x tp) iter ti) (he:∀ (s:Shared) (H:Hp) (C:Addr) (fp:List Addr),QE (bN X scope N s H C fp cT) elt te)
  (hc:X.calm=true:=by rfl) (S:cR X scope N fr:=by exact cR.of rfl rfl) (hN:N.Nodup:=by decide +kernel) (h0:N[0]? = some x:=by rfl) (hl:∀ (s:Shared) (H:Hp) (C:Addr) (fp:List Addr),(bN X scope N s H C fp cT).env.scope.names.lookup x=some .local:=by intro _ _ _ _; rfl) (hf:fr[0]? = some none:=by rfl)
  (hs:∀ x,foldedSetIterable iter X.env x=pure x:=by intro _; rfl):QE X (.ListComp elt [⟨.Name x tp,iter,[],0⟩] scope pos) (dA ti fr (bS 0) dZ te):=
 c9 (u0 (gh:=fun _=>cV 0) (tch:=fun H=>LT (X.frm H) dZ) (teh:=fun H=>LE (X.frm H) te) hc S hi (vK he (fun _ _ _ _=>K5) hN h0 hl) hs) fun _ _ _=>pO (pN _ 0) (fun i e=>by subst e; exact hf)
theorem pZ {c:Expr}{tcs:cC} (hi:QI X (.Name x tp) iter ti) (ht:∀ (s:Shared) (H:Hp) (C:Addr) (fp:List Addr),QT (bN X scope N s H C fp cT) c tcs) (he:∀ (s:Shared) (H:Hp) (C:Addr) (fp:List Addr),QE (bN X scope N s H C fp cT) elt te)
  (hc:X.calm=true:=by rfl) (S:cR X scope N fr:=by exact cR.of rfl rfl) (hN:N.Nodup:=by decide +kernel) (h0:N[0]? = some x:=by rfl) (hl:∀ (s:Shared) (H:Hp) (C:Addr) (fp:List Addr),(bN X scope N s H C fp cT).env.scope.names.lookup x=some .local:=by intro _ _ _ _; rfl) (hf:fr[0]? = some none:=by rfl)
  (hs:∀ x,foldedSetIterable iter X.env x=pure x:=by intro _; rfl):QE X (.ListComp elt [⟨.Name x tp,iter,[c],0⟩] scope pos) (dA ti fr (bS 0) tcs te):=
 c9 (u0 (gh:=fun _=>cV 0) (tch:=fun H=>LT (X.frm H) tcs) (teh:=fun H=>LE (X.frm H) te) hc S hi (vK he (fun s H C fp=>B0 (ht s H C fp)) hN h0 hl) hs) fun _ _ _=>pO (pN _ 0) (fun i e=>by subst e; exact hf)
theorem az4 {i:Nat}{z:Str}{zp:Pos} (nd:X.N.Nodup) (hi:QI X (.Name x tp) iter ti) (he:∀ (s:Shared) (H:Hp) (C:Addr) (fp:List Addr),QE (bN X scope N s H C fp cT) elt te)
  (hz:X.N[i]? = some z:=by rfl) (hzl:X.env.scope.names.lookup z=some .local:=by rfl) (hsw:swapsWith (.ListComp elt [⟨.Name x tp,iter,[],0⟩] scope p2) (some (.Name z zp)) pos.line X.env=pure true:=by rfl)
  (hc:X.calm=true:=by rfl) (S:cR X scope N fr:=by exact cR.of rfl rfl) (hN:N.Nodup:=by decide +kernel) (h0:N[0]? = some x:=by rfl) (hl:∀ (s:Shared) (H:Hp) (C:Addr) (fp:List Addr),(bN X scope N s H C fp cT).env.scope.names.lookup x=some .local:=by intro _ _ _ _; rfl) (hf:fr[0]? = some none:=by rfl)
  (hs:∀ x,foldedSetIterable iter X.env x=pure x:=by intro _; rfl):QS X (.Assign [.Name z zp] (.ListComp elt [⟨.Name x tp,iter,[],0⟩] scope p2) pos) (aX i (dA ti fr (bS 0) dZ te)):=
 fH (ap0 (gh:=fun _=>cV 0) (tch:=fun H=>LT (X.frm H) dZ) (teh:=fun H=>LE (X.frm H) te) hc S hi (vK he (fun _ _ _ _=>K5) hN h0 hl) nd hz hzl hsw hs) fun D σ H h=>pO (pN _ 0) (fun i e=>by subst e; exact hf) (F3 h)
end
theorem qA {i:Nat}{x:Str}{xpos tpos:Pos} (hk:QE X a tk) (he:QE X e te) (hN:X.N[i]? = some x:=by rfl) (hv:hV X.env.scope x:=by first | exact Or.inl rfl | exact Or.inr (Or.inl rfl) | exact Or.inr (Or.inr rfl)) (hd:(x == ("__debug__" : Str))=false:=by decide) (hcd:(x == ("__classdict__" : Str))=false:=by decide)
  (hp:∀ (tx:TE) (tg:TE),PE X (.Name x xpos) tx->PE X a tg->PG X (.Subscript (.Name x xpos) a tpos) (sT tx tg tK):=by intro _ _ h1 h2; exact af8 h1 h2 al4)
  (hs:swapsWithSole [.Subscript (.Name x xpos) a tpos] e pos.line X.env=pure false:=by rfl) (hw:swappedStores [.Subscript (.Name x xpos) a tpos] e X.env=pure none:=by rfl) :
  QS X (.Assign [.Subscript (.Name x xpos) a tpos] e pos) (jA i tk te):=fH (af9 he (hp _ _ (kO hN hv hd hcd) hk) hs hw) fun _ _ _=>at2
end
end PP
namespace SO
open PySem PyProof.Rows
section
variable (rk : Keyed → Int)
def Kr (xs:Array Keyed) (i:Nat):Int:=((xs[i]?).map rk).getD 0
def Up (xs:Array Keyed) (lo hi:Nat):Prop:=∀ i j,lo<=i->i<=j->j < hi->Kr rk xs i<=Kr rk xs j
def Dn (xs:Array Keyed) (lo hi:Nat):Prop:=∀ i j,lo<=i->i<=j->j < hi->Kr rk xs j<=Kr rk xs i
end
variable {rk : Keyed → Int}
theorem kA {xs ys:Array Keyed}{i j:Nat} (h:xs[i]? = ys[j]?):Kr rk xs i=Kr rk ys j:=by unfold Kr; rw [h]
theorem qB {xs:Array Keyed}{i j:Nat} (hj:j<=xs.size) (k:Nat):Kr rk (mirror xs i j ((j - i) / 2)) k=Kr rk xs (if i<=k/\k < j then i+j - 1 - k else k):=by
 refine kA ?_
 rw [getElem?_mirror_all hj]
 split <;> rfl
theorem vL {xs:Array Keyed}{i j:Nat} (hj:j<=xs.size) (e:∀ k,i<=k->k < j->Kr rk xs k=Kr rk xs (j - 1)) (k:Nat):Kr rk (mirror xs i j ((j - i) / 2)) k=Kr rk xs k:=by
 rw [qB hj]
 split
 ·rename_i h; rw [e k h.1 h.2,e _ (by omega) (by omega)]
 ·rfl
theorem az5 {xs:Array Keyed}{src d:Nat} (hs:src < xs.size) (hd:d<=src) (k:Nat):Kr rk (bubble xs src d) k=Kr rk xs (if k=src - d then src else if src - d < k/\k<=src then k - 1 else k):=by
 refine kA ?_
 rw [getElem?_bubble hs d hd]
 repeat' split
 all_goals rfl
structure SB (κ:SortKind) (a0:Array Keyed) (pd:Array (Nat × Nat × Nat)) (st:SortSt):Prop where
 pm:(arrOf st).Perm a0
 kd:kindOf st=κ
 ok:failedOf st=none
 pd:pendingOf st=pd
section
variable {κ : SortKind} {a0 : Array Keyed} {pd : Array (Nat × Nat × Nat)} {st : SortSt} {prog : Program} {w : World} {A : Around} {E : Value → Shared → Prop} {s : Shared} {Ok : Keyed → Prop}
theorem SB.sz (h:SB κ a0 pd st):(arrOf st).size=a0.size:=h.pm.size_eq
theorem SB.put (h:SB κ a0 pd st) {xs:Array Keyed} (hp:xs.Perm (arrOf st)):SB κ a0 pd (setArr st xs):=⟨hp.trans h.pm,h.kd,h.ok,h.pd⟩
def bT (prog:Program) (w:World) (A:Around) (E:Value->Shared->Prop) (s:Shared) (κ:SortKind) (Ok:Keyed->Prop) (rk:Keyed->Int):Prop:=
 ∀ (x y:Keyed),Ok x->Ok y->∀ (st:SortSt) (Q:Option Bool->SortSt->Prop),kindOf st=κ->Q (some (decide (rk x < rk y))) st->wpS (model prog w) A E s (lt' x y) Q st
def bE (Ok:Keyed->Prop) (xs:Array Keyed):Prop:=∀ x ∈ xs,Ok x
theorem SB.all (h:SB κ a0 pd st) (o:bE Ok a0):bE Ok (arrOf st):=fun x hx=>o x (h.pm.mem_iff.mp hx)
theorem cN {xs:Array Keyed}{i:Nat}{Q:Keyed->SortSt->Prop} (hi:i < xs.size) (h:Q xs[i] st):wpS (model prog w) A E s (elem' xs i) Q st:=by
 rw [elem'_eq,getElem?_pos xs i hi]; exact ba9 h
theorem bX {xs:Array Keyed}{i:Nat} (hi:i < xs.size):Kr rk xs i=rk xs[i]:=by unfold Kr; rw [getElem?_pos xs i hi]; rfl
theorem o0 (c:bT prog w A E s κ Ok rk) (o:bE Ok a0) (b:SB κ a0 pd st) {i j:Nat}{Q:Option Bool->SortSt->Prop} (hi:i < a0.size) (hj:j < a0.size)
  (h:Q (some (decide (Kr rk (arrOf st) i < Kr rk (arrOf st) j))) st):wpS (model prog w) A E s (ltAt' i j) Q st:=by
 have hi':i < (arrOf st).size:=by rw [b.sz]; exact hi
 have hj':j < (arrOf st).size:=by rw [b.sz]; exact hj
 rw [ltAt'_eq]
 refine ba0 (wpS_get (ba0 (cN hi' (ba0 (cN hj' ?_)))))
 refine c _ _ (b.all o _ (be4 hi')) (b.all o _ (be4 hj')) st Q b.kd ?_
 rw [<- bX (rk:=rk) hi',<- bX (rk:=rk) hj']; exact h
theorem qD {i j:Nat}{Q:Unit->SortSt->Prop} (h:Q () (setArr st (mirror (arrOf st) i j ((j - i) / 2)))):wpS (model prog w) A E s (reverseSlice' i j) Q st:=by
 rw [reverseSlice'_eq]; exact wpS_modify h
abbrev CS:=Option (Option Nat) × Nat
abbrev DS:=Option (Option Nat) × Nat × Nat
def o3 (lo b nrem:Nat):StateT SortSt Sem CS:=forIn [b:nrem] ((none,b):CS) fun _ r=>do
 match <- ltAt' (lo+r.2) (lo+r.2 - 1) with
 | some q=>if q=true then pure (ForInStep.done (none,r.2)) else pure (ForInStep.yield (none,r.2+1))
 | _=>pure (ForInStep.done (some none,r.2))
def vM (lo b nrem:Nat):StateT SortSt Sem DS:=forIn [b:nrem] ((none,b,0):DS) fun _ r=>do
 match <- ltAt' (lo+r.2.1) (lo+r.2.1 - 1) with
 | some q=>
  if q=true then (if r.2.2 > 0 then do reverseSlice' (lo+r.2.1 - (r.2.2+1)) (lo+r.2.1); pure (ForInStep.yield (none,r.2.1+1,0)) else pure (ForInStep.yield (none,r.2.1+1,0)))
  else do
   match <- ltAt' (lo+r.2.1 - 1) (lo+r.2.1) with
   | some q=>if q=true then pure (ForInStep.done (none,r.2.1,r.2.2)) else pure (ForInStep.yield (none,r.2.1+1,r.2.2+1))
   | _=>pure (ForInStep.done (some none,r.2.1,r.2.2))
 | _=>pure (ForInStep.done (some none,r.2.1,r.2.2))
theorem K6 (c:bT prog w A E s κ Ok rk) (o:bE Ok a0) (b:SB κ a0 pd st) {lo n nrem:Nat}{Q:CS->SortSt->Prop} (hz:lo+nrem<=a0.size) (h1:1<=n) (hn:n<=nrem) (u:Up rk (arrOf st) lo (lo+n))
  (h:∀ m,n<=m->m<=nrem->Up rk (arrOf st) lo (lo+m)->(m=nrem ∨ Kr rk (arrOf st) (lo+m) < Kr rk (arrOf st) (lo+m - 1))->Q (none,m) st):wpS (model prog w) A E s (o3 lo n nrem) Q st:=by
 unfold o3
 refine bi0 (I:=fun x r st'=>st'=st/\r=(none,x)/\Up rk (arrOf st) lo (lo+x)) ?_ ?_ ⟨rfl,rfl,u⟩
 ·rintro x r st' hx hx' ⟨rfl,rfl,u'⟩
  refine ba0 (o0 c o b (by omega) (by omega) ?_)
  by_cases hq:Kr rk (arrOf st') (lo+x) < Kr rk (arrOf st') (lo+x - 1)
  ·rw [ba2 hq]
   exact ba9 (h x hx (by omega) u' (.inr hq))
  ·rw [aZ8 hq]
   refine ba9 ⟨rfl,rfl,fun i j hi hij hj=>?_⟩
   rcases bd1 j (lo+x) with z | z
   ·exact u' i j hi hij z
   ·have ej:j=lo+x:=by omega
    subst ej
    rcases bn4 hij with z | z
    ·rw [z]; exact bm1 _
    ·have:=u' i (lo+x - 1) hi (by omega) (by omega)
     omega
 ·rintro r st' ⟨rfl,rfl,u'⟩
  have em:max n nrem=nrem:=by omega
  rw [em] at u' ⊢
  exact h nrem hn (aZ3 _) u' (.inl rfl)
structure o4 (rk:Keyed->Int) (xs ys:Array Keyed) (lo m q:Nat):Prop where
 dn:Dn rk ys lo (lo+m)
 le:q+1<=m
 eq:∀ i,lo+m - (q+1)<=i->i < lo+m->Kr rk ys i=Kr rk ys (lo+m - 1)
 low:∀ i,i < lo->Kr rk ys i=Kr rk xs i
theorem az6 (c:bT prog w A E s κ Ok rk) (o:bE Ok a0) (b:SB κ a0 pd st) {lo n nrem:Nat}{xs:Array Keyed}{Q:DS->SortSt->Prop} (hz:lo+nrem<=a0.size) (h1:1<=n) (hn:n<=nrem) (u:o4 rk xs (arrOf st) lo n 0)
  (h:∀ m q st',SB κ a0 pd st'->n<=m->m<=nrem->o4 rk xs (arrOf st') lo m q->Q (none,m,q) st'):wpS (model prog w) A E s (vM lo n nrem) Q st:=by
 unfold vM
 refine bi0 (I:=fun x r st'=>∃ q,r=(none,x,q)/\SB κ a0 pd st'/\o4 rk xs (arrOf st') lo x q) ?_ ?_ ⟨0,rfl,b,u⟩
 ·rintro x r st' hx hx' ⟨q,rfl,b',f⟩
  have sz:=b'.sz
  dsimp only
  refine ba0 (o0 c o b' (by omega) (by omega) ?_)
  by_cases hq:Kr rk (arrOf st') (lo+x) < Kr rk (arrOf st') (lo+x - 1)
  ·rw [ba2 hq]
   have nx:∀ ys:Array Keyed,(∀ k,Kr rk ys k=Kr rk (arrOf st') k)->o4 rk xs ys lo (x+1) 0:=fun ys e=>by
    refine⟨fun i j hi hij hj=>?_,by omega,fun i h1 h2=>by rw [show i=lo+(x+1) - 1 by omega],fun i hi=>(e i).trans (f.low i hi)⟩
    rw [e,e]
    rcases bd1 j (lo+x) with z | z
    ·exact f.dn i j hi hij z
    ·have ej:j=lo+x:=by omega
     subst ej
     rcases bn4 hij with z | z
     ·rw [z]; exact bm1 _
     ·have:=f.dn i (lo+x - 1) hi (by omega) (by omega)
      omega
   dsimp only
   rw [if_pos rfl]
   by_cases hp:q > 0
   ·rw [if_pos hp]
    exact ba0 (qD (ba9 ⟨0,rfl,b'.put (mirror_perm _ _ _ _),nx _ (vL (by omega) f.eq)⟩))
   ·rw [if_neg hp]
    exact ba9 ⟨0,rfl,b',nx _ fun _=>rfl⟩
  ·rw [aZ8 hq]
   dsimp only
   rw [if_neg ba7]
   refine ba0 (o0 c o b' (by omega) (by omega) ?_)
   by_cases hl:Kr rk (arrOf st') (lo+x - 1) < Kr rk (arrOf st') (lo+x)
   ·rw [ba2 hl]
    exact ba9 (h x q st' b' hx (by omega) f)
   ·rw [aZ8 hl]
    have ex:Kr rk (arrOf st') (lo+x)=Kr rk (arrOf st') (lo+x - 1):=by omega
    refine ba9 ⟨q+1,rfl,b',fun i j hi hij hj=>?_,by have:=f.le; omega,fun i h1 h2=>?_,f.low⟩
    ·rcases bd1 j (lo+x) with z | z
     ·exact f.dn i j hi hij z
     ·have ej:j=lo+x:=by omega
      subst ej
      rcases bn4 hij with z | z
      ·rw [z]; exact bm1 _
      ·rw [ex]; exact f.dn i (lo+x - 1) hi (by omega) (by omega)
    ·rw [show lo+(x+1) - 1=lo+x by omega]
     rcases bd1 i (lo+x) with z | z
     ·rw [ex]; exact f.eq i (by omega) z
     ·rw [show i=lo+x by omega]
 ·rintro r st' ⟨q,rfl,b',f⟩
  have em:max n nrem=nrem:=by omega
  rw [em] at f ⊢
  exact h nrem q st' b' hn (aZ3 _) f
theorem K7 (c:bT prog w A E s κ Ok rk) (o:bE Ok a0) (b:SB κ a0 pd st) {lo nrem:Nat} (n:Nat) {xs:Array Keyed}{Q:Option Nat->SortSt->Prop}{K:DS->StateT SortSt Sem (Option Nat)}{k:CS->StateT SortSt Sem (Option Nat)} (hz:lo+nrem<=a0.size) (hn:n+1<=nrem)
  (hK:∀ m q,K (none,m,q)=if q > 0 then reverseSlice' (lo+m - (q+1)) (lo+m) >>= fun _=>reverseSlice' lo (lo+m) >>= fun _=>o3 lo m nrem >>= k else reverseSlice' lo (lo+m) >>= fun _=>o3 lo m nrem >>= k)
  (hk:∀ m,k (none,m)=pure (some m)) (u:o4 rk xs (arrOf st) lo (n+1) 0)
  (h:∀ m st',SB κ a0 pd st'->1<=m->m<=nrem->Up rk (arrOf st') lo (lo+m)->(∀ i,i < lo->Kr rk (arrOf st') i=Kr rk xs i)->Q (some m) st'):wpS (model prog w) A E s (liftM (rule "list.sort.descending-run") >>= fun _=>vM lo (n+1) nrem >>= K) Q st:=by
 refine ba0 (wpS_lift (bm5 ⟨rfl,?_⟩))
 refine ba0 (az6 c o b hz (by omega) hn u fun m q st1 b1 m1 m2 f=>?_)
 have fin:∀ st2:SortSt,SB κ a0 pd st2->(∀ k,Kr rk (arrOf st2) k=Kr rk (arrOf st1) k)->
   wpS (model prog w) A E s (reverseSlice' lo (lo+m) >>= fun _=>o3 lo m nrem >>= k) Q st2:=fun st2 b2 e=>by
  have sz:=b2.sz
  have low:∀ i,i < lo->Kr rk (mirror (arrOf st2) lo (lo+m) ((lo+m - lo) / 2)) i=Kr rk xs i:=fun i hi=>by
   rw [qB (by omega),if_neg (by omega),e]
   exact f.low i hi
  refine ba0 (qD (ba0 (K6 (κ:=κ) c o (b2.put (mirror_perm _ _ _ _)) hz (by omega) m2 ?_ fun m' h1 h2 up _=>by rw [hk]; exact ba9 (h m' _ (b2.put (mirror_perm _ _ _ _)) (by omega) h2 up low))))
  ·intro i j hi hij hj
   show Kr rk (mirror (arrOf st2) lo (lo+m) _) i<=Kr rk (mirror (arrOf st2) lo (lo+m) _) j
   rw [qB (by omega),qB (by omega),if_pos (by omega),if_pos (by omega),e,e]
   exact f.dn _ _ (by omega) (by omega) (by omega)
 rw [hK]
 by_cases hp:q > 0
 ·rw [if_pos hp]
  have sz:=b1.sz
  exact ba0 (qD (fin _ (b1.put (mirror_perm _ _ _ _)) (vL (by omega) f.eq)))
 ·rw [if_neg hp]
  exact fin st1 b1 fun _=>rfl
theorem az7 (c:bT prog w A E s κ Ok rk) (o:bE Ok a0) (b:SB κ a0 pd st) {lo nrem:Nat}{Q:Option Nat->SortSt->Prop} (hz:lo+nrem<=a0.size) (h1:1<=nrem)
  (h:∀ m st',SB κ a0 pd st'->1<=m->m<=nrem->Up rk (arrOf st') lo (lo+m)->(∀ i,i < lo->Kr rk (arrOf st') i=Kr rk (arrOf st) i)->Q (some m) st'):wpS (model prog w) A E s (countRun' lo nrem) Q st:=by
 rw [countRun'_eq]
 refine ba0 (K6 (n:=1) c o b hz (aZ3 _) h1 (fun i j hi hij hj=>by rw [show i=j by omega]; exact bm1 _) fun n n1 n2 un on=>?_)
 dsimp only
 by_cases en:(n == nrem)=true
 ·rw [if_pos en]
  exact ba9 (h n st b n1 n2 un fun _ _=>rfl)
 ·rw [if_neg en]
  have en':n ≠ nrem:=by simpa using en
  have lt:=on.resolve_left en'
  have sz:=b.sz
  by_cases g:n > 1
  ·rw [if_pos g]
   refine ba0 (o0 c o b (by omega) (by omega) ?_)
   by_cases hq:Kr rk (arrOf st) lo < Kr rk (arrOf st) (lo+n - 1)
   ·rw [ba2 hq]
    exact ba9 (h n st b n1 n2 un fun _ _=>rfl)
   ·rw [aZ8 hq]
    dsimp only
    rw [if_neg ba7]
    have all:∀ k,lo<=k->k < lo+n->Kr rk (arrOf st) k=Kr rk (arrOf st) (lo+n - 1):=fun k k1 k2=>by
     have a1:=un lo k (aZ3 _) k1 k2
     have a2:=un k (lo+n - 1) k1 (by omega) (by omega)
     omega
    have sm:=vL (rk:=rk) (xs:=arrOf st) (i:=lo) (j:=lo+n) (by omega) all
    refine ba0 (qD (K7 (xs:=arrOf st) (κ:=κ) c o (b.put (mirror_perm _ _ _ _)) n hz (by omega) (fun _ _=>rfl) (fun _=>rfl) ⟨fun i j hi hij hj=>?_,by omega,fun i h1 h2=>by rw [show i=lo+(n+1) - 1 by omega],fun i _=>sm i⟩ h))
    show Kr rk (mirror (arrOf st) lo (lo+n) _) j<=Kr rk (mirror (arrOf st) lo (lo+n) _) i
    rw [sm,sm]
    rcases bd1 j (lo+n) with z | z
    ·rw [all i hi (by omega),all j (by omega) z]; exact bm1 _
    ·have ej:j=lo+n:=by omega
     subst ej
     rcases bn4 hij with z | z
     ·rw [z]; exact bm1 _
     ·rw [all i hi (by omega)]; exact Int.le_of_lt lt
  ·rw [if_neg g]
   have e1:n=1:=by omega
   subst e1
   refine K7 (xs:=arrOf st) c o b 1 hz (by omega) (fun _ _=>rfl) (fun _=>rfl) ⟨fun i j hi hij hj=>?_,by omega,fun i h1 h2=>by rw [show i=lo+(1+1) - 1 by omega],fun i _=>rfl⟩ h
   rcases bn4 hij with z | z
   ·rw [z]; exact bm1 _
   ·have ei:i=lo+1 - 1:=by omega
    have ej:j=lo+1:=by omega
    rw [ei,ej]; exact Int.le_of_lt lt
theorem az8 (c:bT prog w A E s κ Ok rk) (o:bE Ok a0) (b:SB κ a0 pd st) {lo n q:Nat}{Q:Bool->SortSt->Prop} (hz:lo+n<=a0.size) (hq:q<=n) (u:Up rk (arrOf st) lo (lo+q))
  (h:∀ st',SB κ a0 pd st'->Up rk (arrOf st') lo (lo+n)->(∀ i,i < lo->Kr rk (arrOf st') i=Kr rk (arrOf st) i)->Q true st'):wpS (model prog w) A E s (binarySort' lo n q) Q st:=by
 rw [binarySort'_eq]
 refine ba0 (bo2 (bi0 (I:=fun k r st'=>r=(none,())/\SB κ a0 pd st'/\Up rk (arrOf st') lo (lo+min k n)/\∀ i,i < lo->Kr rk (arrOf st') i=Kr rk (arrOf st) i)
  (Q:=fun r st'=>r=(none,())/\SB κ a0 pd st'/\Up rk (arrOf st') lo (lo+n)/\∀ i,i < lo->Kr rk (arrOf st') i=Kr rk (arrOf st) i) ?_ ?_ ?_) ?_)
 ·rintro k r st1 hk hkn ⟨rfl,b1,u1,l1⟩
  rw [show min k n=k by omega] at u1
  have hk0:lo+k < a0.size:=by omega
  have sz:=b1.sz
  refine ba0 (bo2 (bi0 (I:=fun x r st'=>st'=st1/\∃ l g,r=(none,l,g)/\l<=g/\g<=k/\g - l<=k - x/\(∀ i,i < l->Kr rk (arrOf st1) (lo+i)<=Kr rk (arrOf st1) (lo+k))/\∀ i,g<=i->i < k->Kr rk (arrOf st1) (lo+k) < Kr rk (arrOf st1) (lo+i))
   (Q:=fun r st'=>st'=st1/\∃ l g,r=(none,l,g)/\l<=k/\(∀ i,i < l->Kr rk (arrOf st1) (lo+i)<=Kr rk (arrOf st1) (lo+k))/\∀ i,l<=i->i < k->Kr rk (arrOf st1) (lo+k) < Kr rk (arrOf st1) (lo+i)) ?_ ?_ ?_) ?_)
  ·rintro x r st2 _ hx ⟨rfl,l,g,rfl,d1,d2,d3,f1,f2⟩
   dsimp only
   by_cases hlg:l >= g
   ·rw [if_pos hlg]
    have e:g=l:=by omega
    subst e
    exact ba9 ⟨rfl,g,g,rfl,d2,f1,f2⟩
   ·rw [if_neg hlg]
    refine ba0 (o0 c o b1 hk0 (by omega) ?_)
    by_cases hc:Kr rk (arrOf st2) (lo+k) < Kr rk (arrOf st2) (lo+(l+g) / 2)
    ·rw [ba2 hc]
     refine ba9 ⟨rfl,l,(l+g) / 2,rfl,by omega,by omega,by omega,f1,fun i i1 i2=>?_⟩
     have:=u1 (lo+(l+g) / 2) (lo+i) (by omega) (by omega) (by omega)
     omega
    ·rw [aZ8 hc]
     refine ba9 ⟨rfl,(l+g) / 2+1,g,rfl,by omega,d2,by omega,fun i i1=>?_,f2⟩
     have:=u1 (lo+i) (lo+(l+g) / 2) (by omega) (by omega) (by omega)
     omega
  ·rintro r st2 ⟨rfl,l,g,rfl,d1,d2,d3,f1,f2⟩
   have e:g=l:=by omega
   subst e
   exact⟨rfl,g,g,rfl,d2,f1,f2⟩
  ·exact⟨rfl,0,k,rfl,by omega,by omega,by omega,fun i hi=>absurd hi (by omega),fun i i1 i2=>absurd i1 (by omega)⟩
  ·rintro r st2 ⟨rfl,l,g,rfl,d,f1,f2⟩
   dsimp only
   rw [moveDown'_eq]
   have kb:∀ i,Kr rk (bubble (arrOf st2) (lo+k) (lo+k - (lo+l))) i=Kr rk (arrOf st2) (if i=lo+l then lo+k else if lo+l < i/\i<=lo+k then i - 1 else i):=fun i=>by
    rw [az5 (by omega) (by omega),show lo+k - (lo+k - (lo+l))=lo+l by omega]
   refine ba0 (wpS_modify (ba9 ⟨rfl,b1.put (bubble_perm _ _ _),fun i j hi hij hj=>?_,fun i hi=>?_⟩))
   ·show Kr rk (bubble (arrOf st2) (lo+k) (lo+k - (lo+l))) i<=Kr rk (bubble (arrOf st2) (lo+k) (lo+k - (lo+l))) j
    rw [kb,kb]
    rw [show min (k+1) n=k+1 by omega] at hj
    have v1:∀ p,lo<=p->p < lo+l->Kr rk (arrOf st2) p<=Kr rk (arrOf st2) (lo+k):=fun p p1 p2=>by have:=f1 (p - lo) (by omega); rwa [show lo+(p - lo)=p by omega] at this
    have v2:∀ p,lo+l<=p->p < lo+k->Kr rk (arrOf st2) (lo+k) < Kr rk (arrOf st2) p:=fun p p1 p2=>by have:=f2 (p - lo) (by omega) (by omega); rwa [show lo+(p - lo)=p by omega] at this
    repeat' split
    all_goals first
     | (exfalso; omega)
     | exact bm1 _
     | exact v1 _ (by omega) (by omega)
     | exact Int.le_of_lt (v2 _ (by omega) (by omega))
     | exact u1 _ _ (by omega) (by omega) (by omega)
   ·show Kr rk (bubble (arrOf st2) (lo+k) (lo+k - (lo+l))) i=_
    rw [kb,if_neg (by omega),if_neg (by omega)]
    exact l1 i hi
 ·rintro r st1 ⟨rfl,b1,u1,l1⟩
  rw [show min (max (max q 1) n) n=n by omega] at u1
  exact⟨rfl,b1,u1,l1⟩
 ·refine⟨rfl,b,fun i j hi hij hj=>?_,fun _ _=>rfl⟩
  rcases bd1 j (lo+q) with z | z
  ·exact u i j hi hij z
  ·rw [show i=j by omega]; exact bm1 _
 ·rintro r st1 ⟨rfl,b1,u1,l1⟩
  exact ba9 (h st1 b1 u1 l1)
end
def jF:Bool->Keyed->Array Keyed->Nat->Nat->Nat->StateT SortSt Sem (Option Nat):=sortPriv% PySem.Builtin.gallop
def kB (lf:Bool) (key:Keyed) (xs:Array Keyed) (bs i:Nat):StateT SortSt Sem (Option Bool):=do
 let z <- elem' xs (bs+i)
 if lf then lt' z key else return (<- lt' key z).map (!·)
theorem az9 (lf:Bool) (key:Keyed) (xs:Array Keyed) (bs n h:Nat):jF lf key xs bs n h=(do
 let mut la:=0
 let mut of:=1
 let mut l:=0
 let mut g:=0
 let some rt <- kB lf key xs bs h | return none
 if rt then
  let mx:=n - h
  for _ in [0:n] do
   if of >= mx then break
   let some mr <- kB lf key xs bs (h+of) | return none
   if !mr then break
   la:=of
   of:=2 * of+1
  l:=h+la+1
  g:=h+min of mx
 else
  let mx:=h+1
  for _ in [0:n] do
   if of >= mx then break
   let some fd <- kB lf key xs bs (h - of) | return none
   if fd then break
   la:=of
   of:=2 * of+1
  l:=h+1 - min of mx
  g:=h - la
 for _ in [0:n] do
  if l >= g then break
  let m:=l+(g - l) / 2
  let some mr <- kB lf key xs bs m | return none
  if mr then l:=m+1 else g:=m
 return some g):=rfl
section
variable {rk : Keyed → Int} {κ : SortKind} {st : SortSt} {prog : Program} {w : World} {A : Around} {E : Value → Shared → Prop} {s : Shared} {Ok : Keyed → Prop}
def bU (rk:Keyed->Int) (lf:Bool) (key:Keyed) (xs:Array Keyed) (bs i:Nat):Bool:=if lf then decide (Kr rk xs (bs+i) < rk key) else decide (Kr rk xs (bs+i)<=rk key)
theorem qE (c:bT prog w A E s κ Ok rk) (hk:kindOf st=κ) {lf:Bool}{key:Keyed}{xs:Array Keyed}{bs i:Nat}{Q:Option Bool->SortSt->Prop} (ok:Ok key) (o:bE Ok xs) (hi:bs+i < xs.size)
  (h:Q (some (bU rk lf key xs bs i)) st):wpS (model prog w) A E s (kB lf key xs bs i) Q st:=by
 unfold kB
 refine ba0 (cN hi ?_)
 unfold bU at h
 rw [bX hi] at h
 cases lf with
 | true=>
  simp only [if_true] at h ⊢
  exact c _ _ (o _ (be4 hi)) ok st Q hk h
 | false=>
  simp only [bc4,bi7] at h ⊢
  refine ba0 (c _ _ ok (o _ (be4 hi)) st _ hk (ba9 ?_))
  have e:(!decide (rk key < rk xs[bs+i]))=decide (rk xs[bs+i]<=rk key):=by
   by_cases z:rk xs[bs+i]<=rk key
   ·rw [ba2 z,aZ8 (by omega)]; rfl
   ·rw [aZ8 z,ba2 (by omega)]; rfl
  show Q (some (!decide (rk key < rk xs[bs+i]))) st
  rw [e]; exact h
abbrev GS:=Option (Option Nat) × Nat × Nat
def K8 (lf:Bool) (key:Keyed) (xs:Array Keyed) (bs n l g:Nat):StateT SortSt Sem GS:=forIn [0:n] ((none,l,g):GS) fun _ r=>
 if r.2.1 >= r.2.2 then pure (ForInStep.done (none,r.2.1,r.2.2)) else do
  match <- kB lf key xs bs (r.2.1+(r.2.2 - r.2.1) / 2) with
  | some q=>if q=true then pure (ForInStep.yield (none,r.2.1+(r.2.2 - r.2.1) / 2+1,r.2.2)) else pure (ForInStep.yield (none,r.2.1,r.2.1+(r.2.2 - r.2.1) / 2))
  | _=>pure (ForInStep.done (some none,r.2.1,r.2.2))
theorem K9 (c:bT prog w A E s κ Ok rk) (hk:kindOf st=κ) {lf:Bool}{key:Keyed}{xs:Array Keyed}{bs n l g:Nat}{Q:GS->SortSt->Prop} (ok:Ok key) (o:bE Ok xs) (hz:bs+n<=xs.size)
  (mono:∀ i j,i<=j->j < n->bU rk lf key xs bs j=true->bU rk lf key xs bs i=true) (hlg:l<=g) (hg:g<=n) (h1:∀ i,i < l->bU rk lf key xs bs i=true) (h2:∀ i,g<=i->i < n->bU rk lf key xs bs i=false)
  (hq:∀ k,k<=n->(∀ i,i < k->bU rk lf key xs bs i=true)->(∀ i,k<=i->i < n->bU rk lf key xs bs i=false)->Q (none,k,k) st):wpS (model prog w) A E s (K8 lf key xs bs n l g) Q st:=by
 unfold K8
 refine bi0 (I:=fun x r st'=>st'=st/\∃ l g,r=(none,l,g)/\l<=g/\g<=n/\g - l<=n - x/\(∀ i,i < l->bU rk lf key xs bs i=true)/\∀ i,g<=i->i < n->bU rk lf key xs bs i=false) ?_ ?_ ⟨rfl,l,g,rfl,hlg,hg,by omega,h1,h2⟩
 ·rintro x r st' _ hx ⟨rfl,l,g,rfl,d1,d2,d3,f1,f2⟩
  dsimp only
  by_cases hc:l >= g
  ·rw [if_pos hc]
   have e:g=l:=by omega
   subst e
   exact ba9 (hq g d2 f1 f2)
  ·rw [if_neg hc]
   refine ba0 (qE c hk ok o (by omega) ?_)
   cases z:bU rk lf key xs bs (l+(g - l) / 2) with
   | true=>exact ba9 ⟨rfl,_,_,rfl,by omega,d2,by omega,fun i hi=>mono i (l+(g - l) / 2) (by omega) (by omega) z,f2⟩
   | false=>
    refine ba9 ⟨rfl,_,_,rfl,by omega,by omega,by omega,f1,fun i i1 i2=>?_⟩
    cases y:bU rk lf key xs bs i with
    | false=>rfl
    | true=>rw [mono _ i i1 i2 y] at z; cases z
 ·rintro r st' ⟨rfl,l,g,rfl,d1,d2,d3,f1,f2⟩
  have e:g=l:=by omega
  subst e
  exact hq g d2 f1 f2
theorem lR (c:bT prog w A E s κ Ok rk) (hk:kindOf st=κ) {lf:Bool}{key:Keyed}{xs:Array Keyed}{bs n h:Nat}{Q:Option Nat->SortSt->Prop} (ok:Ok key) (o:bE Ok xs) (hh:h < n) (hz:bs+n<=xs.size) (u:Up rk xs bs (bs+n))
  (hq:∀ k,k<=n->(∀ i,i < k->bU rk lf key xs bs i=true)->(∀ i,k<=i->i < n->bU rk lf key xs bs i=false)->Q (some k) st):wpS (model prog w) A E s (jF lf key xs bs n h) Q st:=by
 have mono:∀ i j,i<=j->j < n->bU rk lf key xs bs j=true->bU rk lf key xs bs i=true:=fun i j hij hj e=>by
  have:=u (bs+i) (bs+j) (by omega) (by omega) (by omega)
  unfold bU at e ⊢
  cases lf with
  | true=>simp only [if_true,bc0] at e ⊢; omega
  | false=>simp only [bc4,bi7,bc0] at e ⊢; omega
 have monf:∀ i j,i<=j->j < n->bU rk lf key xs bs i=false->bU rk lf key xs bs j=false:=fun i j hij hj e=>by
  cases z:bU rk lf key xs bs j with
  | false=>rfl
  | true=>rw [mono i j hij hj z] at e; cases e
 rw [az9]
 refine ba0 (qE c hk ok o (by omega) ?_)
 dsimp only
 cases z:bU rk lf key xs bs h with
 | true=>
  rw [if_pos rfl]
  refine ba0 (bo2 (bi0 (I:=fun x r st'=>st'=st/\∃ la of,r=(none,la,of)/\la < of/\x < of/\h+la < n/\bU rk lf key xs bs (h+la)=true)
   (Q:=fun r st'=>st'=st/\∃ la of,r=(none,la,of)/\la < of/\h+la < n/\bU rk lf key xs bs (h+la)=true/\(of < n - h->bU rk lf key xs bs (h+of)=false)) ?_ ?_ ⟨rfl,0,1,rfl,by omega,by omega,by omega,z⟩) ?_)
  ·rintro x r st' _ hx ⟨rfl,la,of,rfl,d1,d2,d3,f⟩
   dsimp only
   by_cases hc:of >= n - h
   ·rw [if_pos hc]
    exact ba9 ⟨rfl,la,of,rfl,d1,d3,f,fun y=>absurd y (by omega)⟩
   ·rw [if_neg hc]
    refine ba0 (qE c hk ok o (by omega) ?_)
    cases y:bU rk lf key xs bs (h+of) with
    | true=>exact ba9 ⟨rfl,of,2 * of+1,rfl,by omega,by omega,by omega,y⟩
    | false=>exact ba9 ⟨rfl,la,of,rfl,d1,d3,f,fun _=>y⟩
  ·rintro r st' ⟨rfl,la,of,rfl,d1,d2,d3,f⟩
   exact⟨rfl,la,of,rfl,d1,d3,f,fun y=>absurd y (by omega)⟩
  ·rintro r st' ⟨rfl,la,of,rfl,d1,d3,f,ft⟩
   dsimp only
   refine ba0 (K9 (l:=h+la+1) (g:=h+min of (n - h)) c hk ok o hz mono (by omega) (by omega) (fun i hi=>mono i (h+la) (by omega) d3 f) (fun i i1 i2=>?_) fun k k1 k2 k3=>ba9 (hq k k1 k2 k3))
   rcases bd1 of (n - h) with y | y
   ·exact monf (h+of) i (by omega) i2 (ft y)
   ·exact absurd i1 (by omega)
 | false=>
  rw [if_neg ba7]
  refine ba0 (bo2 (bi0 (I:=fun x r st'=>st'=st/\∃ la of,r=(none,la,of)/\la < of/\x < of/\la<=h/\bU rk lf key xs bs (h - la)=false)
   (Q:=fun r st'=>st'=st/\∃ la of,r=(none,la,of)/\la < of/\la<=h/\bU rk lf key xs bs (h - la)=false/\(of < h+1->bU rk lf key xs bs (h - of)=true)) ?_ ?_ ⟨rfl,0,1,rfl,by omega,by omega,by omega,z⟩) ?_)
  ·rintro x r st' _ hx ⟨rfl,la,of,rfl,d1,d2,d3,f⟩
   dsimp only
   by_cases hc:of >= h+1
   ·rw [if_pos hc]
    exact ba9 ⟨rfl,la,of,rfl,d1,d3,f,fun y=>absurd y (by omega)⟩
   ·rw [if_neg hc]
    refine ba0 (qE c hk ok o (by omega) ?_)
    cases y:bU rk lf key xs bs (h - of) with
    | false=>exact ba9 ⟨rfl,of,2 * of+1,rfl,by omega,by omega,by omega,y⟩
    | true=>exact ba9 ⟨rfl,la,of,rfl,d1,d3,f,fun _=>y⟩
  ·rintro r st' ⟨rfl,la,of,rfl,d1,d2,d3,f⟩
   exact⟨rfl,la,of,rfl,d1,d3,f,fun y=>absurd y (by omega)⟩
  ·rintro r st' ⟨rfl,la,of,rfl,d1,d3,f,ft⟩
   dsimp only
   refine ba0 (K9 (l:=h+1 - min of (h+1)) (g:=h - la) c hk ok o hz mono (by omega) (by omega) (fun i hi=>?_) (fun i i1 i2=>monf (h - la) i i1 i2 f) fun k k1 k2 k3=>ba9 (hq k k1 k2 k3))
   rcases bd1 of (h+1) with y | y
   ·exact mono i (h - of) (by omega) (by omega) (ft y)
   ·exact absurd hi (by omega)
end
def lS:Nat->StateT SortSt Sem Unit:=sortPriv% PySem.Builtin.setMinGallop
def vN:Array Keyed->Array Keyed->StateT SortSt Sem (Array Keyed):=sortPriv% PySem.Builtin.mergeLo
theorem aA0 (g:Nat):lS g=modify (fun st=>SortSt.mk' (kindOf st) (arrOf st) (pendingOf st) g (failedOf st)):=rfl
abbrev LS:=Option (Array Keyed) × Array Keyed × Nat × Nat × Nat × Nat × Nat
abbrev vO:=Option (Array Keyed) × Array Keyed × Nat × Nat × Nat × Nat
abbrev LO:=Option (Array Keyed) × Array Keyed × Nat × Nat × Nat
def qF (x y o:Array Keyed) (i j mg p q:Nat):StateT SortSt Sem (ForInStep LS):=do
 let v <- elem' x i
 if (i+1+1 == x.size)=true then pure (.done (some (o.push v ++ y.extract j y.size ++ x.extract (i+1) x.size),o.push v,i+1,j,mg,p,q))
 else if (decide (p < 7) && decide (q < 7))=true then pure (.done (none,o.push v,i+1,j,mg,p,q)) else pure (.yield (none,o.push v,i+1,j,mg,p,q))
def qG (x y o:Array Keyed) (i j mg p q:Nat):StateT SortSt Sem (ForInStep LS):=do
 let v <- elem' y j
 if (j+1 == y.size)=true then pure (.done (some (o.push v ++ x.extract i x.size ++ y.extract (j+1) y.size),o.push v,i,j+1,mg,p,q)) else do
  let u <- elem' x i
  match <- jF true u y (j+1) (y.size - (j+1)) 0 with
  | some k=>
   if k > 0 then
    if (j+1+k == y.size)=true then pure (.done (some (o.push v ++ y.extract (j+1) (j+1+k) ++ x.extract i x.size ++ y.extract (j+1+k) y.size),o.push v ++ y.extract (j+1) (j+1+k),i,j+1+k,mg,p,k))
    else qF x y (o.push v ++ y.extract (j+1) (j+1+k)) i (j+1+k) mg p k
   else qF x y (o.push v) i (j+1) mg p k
  | _=>pure (.done (some (o.push v ++ x.extract i x.size ++ y.extract (j+1) y.size),o.push v,i,j+1,mg,p,q))
def qH (x y o:Array Keyed) (i j mg p q:Nat):StateT SortSt Sem (ForInStep LS):=do
 lS mg
 let v <- elem' y j
 match <- jF false v x i (x.size - i) 0 with
 | some k=>
  if k > 0 then
   if (i+k+1 == x.size)=true then pure (.done (some (o ++ x.extract i (i+k) ++ y.extract j y.size ++ x.extract (i+k) x.size),o ++ x.extract i (i+k),i+k,j,mg,k,q))
   else if (i+k == x.size)=true then pure (.done (some (o ++ x.extract i (i+k) ++ x.extract (i+k) x.size ++ y.extract j y.size),o ++ x.extract i (i+k),i+k,j,mg,k,q))
   else qG x y (o ++ x.extract i (i+k)) (i+k) j mg k q
  else qG x y o i j mg k q
 | _=>pure (.done (some (o ++ x.extract i x.size ++ y.extract j y.size),o,i,j,mg,p,q))
def vP (x y o:Array Keyed) (i j mg p q:Nat):StateT SortSt Sem LS:=forIn [0:x.size+y.size] ((none,o,i,j,mg,p,q):LS) fun _ r=>
 if r.2.2.2.2.1 > 1 then qH x y r.2.1 r.2.2.1 r.2.2.2.1 (r.2.2.2.2.1 - 1) r.2.2.2.2.2.1 r.2.2.2.2.2.2 else qH x y r.2.1 r.2.2.1 r.2.2.2.1 r.2.2.2.2.1 r.2.2.2.2.2.1 r.2.2.2.2.2.2
def vQ (x y o:Array Keyed) (i j mg:Nat):StateT SortSt Sem vO:=forIn [0:x.size+y.size] ((none,o,i,j,0,0):vO) fun _ r=>do
 let v <- elem' y r.2.2.2.1
 let u <- elem' x r.2.2.1
 match <- lt' v u with
 | some q=>
  if q=true then do
   let v <- elem' y r.2.2.2.1
   if (r.2.2.2.1+1 == y.size)=true then pure (.done (some (r.2.1.push v ++ x.extract r.2.2.1 x.size ++ y.extract (r.2.2.2.1+1) y.size),r.2.1.push v,r.2.2.1,r.2.2.2.1+1,0,r.2.2.2.2.2+1))
   else if r.2.2.2.2.2+1 >= mg then pure (.done (none,r.2.1.push v,r.2.2.1,r.2.2.2.1+1,0,r.2.2.2.2.2+1)) else pure (.yield (none,r.2.1.push v,r.2.2.1,r.2.2.2.1+1,0,r.2.2.2.2.2+1))
  else do
   let u <- elem' x r.2.2.1
   if (r.2.2.1+1+1 == x.size)=true then pure (.done (some (r.2.1.push u ++ y.extract r.2.2.2.1 y.size ++ x.extract (r.2.2.1+1) x.size),r.2.1.push u,r.2.2.1+1,r.2.2.2.1,r.2.2.2.2.1+1,0))
   else if r.2.2.2.2.1+1 >= mg then pure (.done (none,r.2.1.push u,r.2.2.1+1,r.2.2.2.1,r.2.2.2.2.1+1,0)) else pure (.yield (none,r.2.1.push u,r.2.2.1+1,r.2.2.2.1,r.2.2.2.2.1+1,0))
 | _=>pure (.done (some (r.2.1 ++ x.extract r.2.2.1 x.size ++ y.extract r.2.2.2.1 y.size),r.2.1,r.2.2.1,r.2.2.2.1,r.2.2.2.2.1,r.2.2.2.2.2))
def L4 (x y o:Array Keyed) (i j mg:Nat):StateT SortSt Sem LO:=forIn [0:x.size+y.size] ((none,o,i,j,mg):LO) fun _ r=>do
 let u <- vQ x y r.2.1 r.2.2.1 r.2.2.2.1 r.2.2.2.2
 match u.1 with
 | some z=>pure (.done (some z,u.2.1,u.2.2.1,u.2.2.2.1,r.2.2.2.2))
 | none=>do
  liftM (rule "list.sort.gallop")
  let v <- vP x y u.2.1 u.2.2.1 u.2.2.2.1 (r.2.2.2.2+1) u.2.2.2.2.1 u.2.2.2.2.2
  match v.1 with
  | some z=>pure (.done (some z,v.2.1,v.2.2.1,v.2.2.2.1,v.2.2.2.2.1))
  | none=>do
   lS (v.2.2.2.2.1+1)
   pure (.yield (none,v.2.1,v.2.2.1,v.2.2.2.1,v.2.2.2.2.1+1))
theorem aA1 (x y:Array Keyed):vN x y=(do
 liftM (rule "list.sort.merge-lo")
 let v <- elem' y 0
 if (1 == y.size)=true then pure (#[v] ++ x.extract 0 x.size ++ y.extract 1 y.size)
 else if (0+1 == x.size)=true then pure (#[v] ++ y.extract 1 y.size ++ x.extract 0 x.size)
 else do
  let z <- get
  let r <- L4 x y #[v] 0 1 (gallopOf z)
  match r.1 with
  | some z=>pure z
  | none=>unsupported "internal:list.sort.merge-bound"):=by kernel_rfl
section
variable (rk : Keyed → Int)
def Sd (l:List Keyed):Prop:=l.Pairwise fun a b=>rk a<=rk b
structure MI (xs ys o:List Keyed) (i j:Nat):Prop where
 pm:o.Perm (xs.take i ++ ys.take j)
 sx:Sd rk (o ++ xs.drop i)
 sy:Sd rk (o ++ ys.drop j)
end
variable {rk : Keyed → Int} {xs ys o : List Keyed} {i j : Nat}
theorem Sd.ins {o a b d:List Keyed} (h1:Sd rk (o ++ a)) (h2:Sd rk (o ++ (b ++ d))) (h:∀ u ∈ b,∀ t ∈ a,rk u<=rk t):Sd rk ((o ++ b) ++ a):=by
 unfold Sd at *
 rw [bb9]
 obtain ⟨p1,p2,p3⟩:=bf1.mp h1
 obtain ⟨q1,q2,q3⟩:=bf1.mp h2
 obtain ⟨r1,r2,r3⟩:=bf1.mp q2
 refine bf1.mpr ⟨p1,bf1.mpr ⟨r1,p2,h⟩,fun u hu t ht=>?_⟩
 rcases bb3.mp ht with z | z
 ·exact q3 u hu t (be7 _ z)
 ·exact p3 u hu t z
theorem MI.ofy (m:MI rk xs ys o i j) (k:Nat) (h:∀ u ∈ (ys.drop j).take k,∀ t ∈ xs.drop i,rk u<=rk t):MI rk xs ys (o ++ (ys.drop j).take k) i (j+k):=by
 have e:(ys.drop j).take k ++ ys.drop (j+k)=ys.drop j:=by rw [<- List.drop_drop]; exact be5 k _
 refine⟨?_,Sd.ins m.sx (d:=ys.drop (j+k)) (by rw [e]; exact m.sy) h,by rw [bb9,e]; exact m.sy⟩
 rw [List.take_add,<- bb9]
 exact m.pm.append_right _
theorem MI.ofx (m:MI rk xs ys o i j) (k:Nat) (h:∀ u ∈ (xs.drop i).take k,∀ t ∈ ys.drop j,rk u<=rk t):MI rk xs ys (o ++ (xs.drop i).take k) (i+k) j:=by
 have e:(xs.drop i).take k ++ xs.drop (i+k)=xs.drop i:=by rw [<- List.drop_drop]; exact be5 k _
 refine⟨?_,by rw [bb9,e]; exact m.sx,Sd.ins m.sy (d:=xs.drop (i+k)) (by rw [e]; exact m.sx) h⟩
 rw [List.take_add]
 refine (m.pm.append_right _).trans ?_
 rw [bb9,bb9]
 exact (List.perm_append_comm).append_left _
theorem MI.fin (m:MI rk xs ys o i j) (h:xs.length<=i ∨ ys.length<=j):(o ++ xs.drop i ++ ys.drop j).Perm (xs ++ ys)/\Sd rk (o ++ xs.drop i ++ ys.drop j):=by
 refine⟨?_,?_⟩
 ·rw [bb9]
  refine (m.pm.append_right _).trans ?_
  have e1:xs=xs.take i ++ xs.drop i:=(be5 i xs).symm
  have e2:ys=ys.take j ++ ys.drop j:=(be5 j ys).symm
  conv=>rhs; rw [e1,e2]
  rw [bb9,bb9]
  refine List.Perm.append_left _ ?_
  rw [<- bb9,<- bb9]
  exact (List.perm_append_comm).append_right _
 ·rcases h with h | h
  ·rw [List.drop_eq_nil_of_le h,bd0]; exact m.sy
  ·rw [List.drop_eq_nil_of_le h,bd0]; exact m.sx
theorem MI.lst (m:MI rk xs ys o i j) (h:∀ u ∈ ys,∀ t ∈ xs.drop i,rk u<=rk t):(o ++ ys.drop j ++ xs.drop i).Perm (xs ++ ys)/\Sd rk (o ++ ys.drop j ++ xs.drop i):=by
 have m2:=m.ofy ys.length fun u hu t ht=>h u (List.mem_of_mem_drop (List.mem_of_mem_take hu)) t ht
 have e:(ys.drop j).take ys.length=ys.drop j:=bd9 (by simp)
 rw [e] at m2
 have f:=m2.fin (.inr (by omega))
 rw [List.drop_eq_nil_of_le (as:=ys) (i:=j+ys.length) (by omega),bd0] at f
 exact f
theorem L5 {x:Array Keyed}{i k:Nat}{u:Keyed} (h:u ∈ (x.toList.drop i).take k):∃ t,t < k/\i+t < x.size/\rk u=Kr rk x (i+t):=by
 obtain ⟨t,ht,e⟩:=bj3 h
 have h1:t < k/\i+t < x.size:=by simp at ht; omega
 refine⟨t,h1.1,h1.2,?_⟩
 rw [bX h1.2,<- e]
 simp
theorem o7 {x:Array Keyed}{i:Nat}{u:Keyed} (h:u ∈ x.toList.drop i):∃ t,i+t < x.size/\rk u=Kr rk x (i+t):=by
 obtain ⟨t,ht,e⟩:=bj3 h
 have h1:i+t < x.size:=by simp at ht; omega
 refine⟨t,h1,?_⟩
 rw [bX h1,<- e]
 simp
theorem Sd.up {x:Array Keyed} (h:Sd rk x.toList) (lo hi:Nat) (hh:hi<=x.size):Up rk x lo hi:=fun i j _ hij hj=>by
 rw [bX (by omega:i < x.size),bX (by omega:j < x.size)]
 rcases bn4 hij with z | z
 ·subst z; exact bm1 _
 ·have:=bd3.mp h i j (by simp; omega) (by simp; omega) z
  simpa using this
theorem L6 (x:Array Keyed) (i k:Nat):(x.extract i (i+k)).toList=(x.toList.drop i).take k:=by
 simp [List.extract]
theorem qI (x:Array Keyed) (i:Nat):(x.extract i x.size).toList=x.toList.drop i:=by
 simp [List.extract]
 exact bd9 (by simp)
theorem kC {x:Array Keyed}{i:Nat} (h:i < x.size) : [x[i]]=(x.toList.drop i).take 1:=by
 rw [List.drop_eq_getElem_cons (by simpa using h)]; simp
structure Gq (st st':SortSt):Prop where
 kd:kindOf st'=kindOf st
 ar:arrOf st'=arrOf st
 pd:pendingOf st'=pendingOf st
 ok:failedOf st'=failedOf st
theorem Gq.refl (st:SortSt):Gq st st:=⟨rfl,rfl,rfl,rfl⟩
section
variable {κ : SortKind} {st : SortSt} {prog : Program} {w : World} {A : Around} {E : Value → Shared → Prop} {s : Shared} {Ok : Keyed → Prop}
theorem qJ {st0:SortSt}{g:Nat}{Q:Unit->SortSt->Prop} (q:Gq st0 st) (h:∀ st',Gq st0 st'->Q () st'):wpS (model prog w) A E s (lS g) Q st:=by
 rw [aA0]; exact wpS_modify (h _ ⟨q.kd,q.ar,q.pd,q.ok⟩)
def dI (rk:Keyed->Int) (x y r:Array Keyed):Prop:=r.toList.Perm (x.toList ++ y.toList)/\Sd rk r.toList
theorem MI.y1 {x y o:Array Keyed} (m:MI rk x.toList y.toList o.toList i j) (hj:j < y.size) (h:∀ t,i+t < x.size->rk y[j]<=Kr rk x (i+t)):MI rk x.toList y.toList (o.push y[j]).toList i (j+1):=by
 have:=m.ofy 1 fun u hu t ht=>?_
 ·rw [<- kC hj] at this; simpa using this
 ·rw [<- kC hj,aZ4] at hu
  subst hu
  obtain ⟨q,q1,q2⟩:=o7 (rk:=rk) ht
  rw [q2]; exact h q q1
theorem MI.x1 {x y o:Array Keyed} (m:MI rk x.toList y.toList o.toList i j) (hi:i < x.size) (h:∀ t,j+t < y.size->rk x[i]<=Kr rk y (j+t)):MI rk x.toList y.toList (o.push x[i]).toList (i+1) j:=by
 have:=m.ofx 1 fun u hu t ht=>?_
 ·rw [<- kC hi] at this; simpa using this
 ·rw [<- kC hi,aZ4] at hu
  subst hu
  obtain ⟨q,q1,q2⟩:=o7 (rk:=rk) ht
  rw [q2]; exact h q q1
theorem MI.yk {x y o:Array Keyed} (m:MI rk x.toList y.toList o.toList i j) (k:Nat) (h:∀ p t,p < k->j+p < y.size->i+t < x.size->Kr rk y (j+p)<=Kr rk x (i+t)):MI rk x.toList y.toList (o ++ y.extract j (j+k)).toList i (j+k):=by
 have:=m.ofy k fun u hu t ht=>?_
 ·rw [<- L6] at this; rw [bg8]; exact this
 ·obtain ⟨p,p1,p2,p3⟩:=L5 (rk:=rk) hu
  obtain ⟨q,q1,q2⟩:=o7 (rk:=rk) ht
  rw [q2,p3]; exact h p q p1 p2 q1
theorem MI.xk {x y o:Array Keyed} (m:MI rk x.toList y.toList o.toList i j) (k:Nat) (h:∀ p t,p < k->i+p < x.size->j+t < y.size->Kr rk x (i+p)<=Kr rk y (j+t)):MI rk x.toList y.toList (o ++ x.extract i (i+k)).toList (i+k) j:=by
 have:=m.ofx k fun u hu t ht=>?_
 ·rw [<- L6] at this; rw [bg8]; exact this
 ·obtain ⟨p,p1,p2,p3⟩:=L5 (rk:=rk) hu
  obtain ⟨q,q1,q2⟩:=o7 (rk:=rk) ht
  rw [q2,p3]; exact h p q p1 p2 q1
theorem lT {key:Keyed}{xs:Array Keyed}{bs i:Nat}:bU rk false key xs bs i=decide (Kr rk xs (bs+i)<=rk key):=rfl
theorem lU {key:Keyed}{xs:Array Keyed}{bs i:Nat}:bU rk true key xs bs i=decide (Kr rk xs (bs+i) < rk key):=rfl
def GI (rk:Keyed->Int) (x y:Array Keyed) (lb:Nat) (st:SortSt) (c:LS) (st':SortSt):Prop:=Gq st st'/\∃ o i j mg p q,c=(none,o,i,j,mg,p,q)/\MI rk x.toList y.toList o.toList i j/\i+1 < x.size/\j < y.size/\lb<=i+j
def GQ (rk:Keyed->Int) (x y:Array Keyed) (lb:Nat) (st:SortSt) (c:LS) (st':SortSt):Prop:=Gq st st'/\((∃ r o i j mg p q,c=(some r,o,i,j,mg,p,q)/\dI rk x y r) ∨ ∃ o i j mg p q,c=(none,o,i,j,mg,p,q)/\MI rk x.toList y.toList o.toList i j/\i+1 < x.size/\j < y.size/\lb<=i+j)
def GR (rk:Keyed->Int) (x y:Array Keyed) (lb:Nat) (st:SortSt) (r:ForInStep LS) (st':SortSt):Prop:=match r with | .done c=>GQ rk x y lb st c st' | .yield c=>GI rk x y lb st c st'
theorem MI.done {x y o:Array Keyed} (m:MI rk x.toList y.toList o.toList i j) (hh:x.size<=i ∨ y.size<=j):dI rk x y (o ++ x.extract i x.size ++ y.extract j y.size):=by
 unfold dI
 rw [bg8,bg8,qI,qI]
 exact m.fin (by simpa using hh)
theorem MI.last {x y o:Array Keyed} (m:MI rk x.toList y.toList o.toList i j) (x0:0 < x.size) (hl:∀ u ∈ y.toList,rk u<=rk x[x.size - 1]) (hh:i+1=x.size):dI rk x y (o ++ y.extract j y.size ++ x.extract i x.size):=by
 unfold dI
 rw [bg8,bg8,qI,qI]
 refine m.lst fun u hu t ht=>?_
 obtain ⟨q,q1,q2⟩:=o7 (rk:=rk) ht
 have e:i+q=x.size - 1:=by omega
 rw [q2,e,bX (by omega)]
 exact hl u hu
theorem L7 {st0:SortSt}{x y o:Array Keyed}{mg p q lb:Nat} (x0:0 < x.size) (hl:∀ u ∈ y.toList,rk u<=rk x[x.size - 1]) (g:Gq st0 st) (m:MI rk x.toList y.toList o.toList i j) (hi:i+1 < x.size) (hj:j < y.size) (hb:lb<=i+j)
  (hm:∀ t,j+t < y.size->rk x[i]<=Kr rk y (j+t)):wpS (model prog w) A E s (qF x y o i j mg p q) (GR rk x y lb st0) st:=by
 unfold qF
 have hi':i < x.size:=by omega
 have m':=m.x1 hi' hm
 refine ba0 (cN hi' ?_)
 by_cases he:(i+1+1 == x.size)=true
 ·rw [if_pos he]
  have he:i+1+1=x.size:=by simpa using he
  exact ba9 ⟨g,.inl ⟨_,_,_,_,_,_,_,rfl,m'.last x0 hl he⟩⟩
 ·rw [if_neg he]
  have he:i+1+1 ≠ x.size:=by simpa using he
  split
  ·exact ba9 ⟨g,.inr ⟨_,_,_,_,_,_,rfl,m',by omega,hj,by omega⟩⟩
  ·exact ba9 ⟨g,_,_,_,_,_,_,rfl,m',by omega,hj,by omega⟩
theorem L8 (c:bT prog w A E s κ Ok rk) {st0:SortSt} (hk:kindOf st0=κ) {x y o:Array Keyed}{mg p q lb:Nat} (ox:bE Ok x) (oy:bE Ok y) (sx:Sd rk x.toList) (sy:Sd rk y.toList) (x0:0 < x.size) (hl:∀ u ∈ y.toList,rk u<=rk x[x.size - 1]) (g:Gq st0 st) (m:MI rk x.toList y.toList o.toList i j) (hi:i+1 < x.size) (hj:j < y.size) (hb:lb<=i+j)
  (hm:∀ t,i+t < x.size->rk y[j]<=Kr rk x (i+t)):wpS (model prog w) A E s (qG x y o i j mg p q) (GR rk x y lb st0) st:=by
 unfold qG
 have hi':i < x.size:=by omega
 have m':=m.y1 hj hm
 refine ba0 (cN hj ?_)
 by_cases he:(j+1 == y.size)=true
 ·rw [if_pos he]
  have he:j+1=y.size:=by simpa using he
  exact ba9 ⟨g,.inl ⟨_,_,_,_,_,_,_,rfl,m'.done (.inr (by omega))⟩⟩
 ·rw [if_neg he]
  have he:j+1 ≠ y.size:=by simpa using he
  refine ba0 (cN hi' (ba0 (lR c (g.kd.trans hk) (ox _ (be4 hi')) oy (by omega) (by omega) (sy.up _ _ (by omega)) fun k k1 k2 k3=>?_)))
  dsimp only
  have ux:=sx.up 0 _ (aZ3 x.size)
  have mk:=m'.yk k fun p t hp _ ht=>by
   have a1:=k2 p hp
   rw [lU,bc0] at a1
   have a2:=ux i (i+t) (by omega) (by omega) ht
   rw [bX hi'] at a2
   omega
  have km:∀ t,j+1+k+t < y.size->rk x[i]<=Kr rk y (j+1+k+t):=fun t ht=>by
   have a1:=k3 (k+t) (by omega) (by omega)
   rw [lU,bk6,<- Nat.add_assoc] at a1
   omega
  by_cases hk0:k > 0
  ·rw [if_pos hk0]
   by_cases hf:(j+1+k == y.size)=true
   ·rw [if_pos hf]
    have hf:j+1+k=y.size:=by simpa using hf
    exact ba9 ⟨g,.inl ⟨_,_,_,_,_,_,_,rfl,mk.done (.inr (by omega))⟩⟩
   ·rw [if_neg hf]
    have hf:j+1+k ≠ y.size:=by simpa using hf
    exact L7 x0 hl g mk hi (by omega) (by omega) km
  ·rw [if_neg hk0]
   have e0:k=0:=by omega
   subst e0
   exact L7 x0 hl g m' hi (by omega) (by omega) km
theorem L9 (c:bT prog w A E s κ Ok rk) {st0:SortSt} (hk:kindOf st0=κ) {x y o:Array Keyed}{mg p q lb:Nat} (ox:bE Ok x) (oy:bE Ok y) (sx:Sd rk x.toList) (sy:Sd rk y.toList) (x0:0 < x.size) (hl:∀ u ∈ y.toList,rk u<=rk x[x.size - 1]) (g:Gq st0 st) (m:MI rk x.toList y.toList o.toList i j) (hi:i+1 < x.size) (hj:j < y.size) (hb:lb<=i+j) :
  wpS (model prog w) A E s (qH x y o i j mg p q) (GR rk x y lb st0) st:=by
 unfold qH
 refine ba0 (qJ g fun st4 q4=>ba0 (cN hj (ba0 (lR c (q4.kd.trans hk) (oy _ (be4 hj)) ox (by omega) (by omega) (sx.up _ _ (by omega)) fun k k1 k2 k3=>?_))))
 dsimp only
 have uy:=sy.up 0 _ (aZ3 y.size)
 have mk:=m.xk k fun p t hp _ ht=>by
  have a1:=k2 p hp
  rw [lT,bc0] at a1
  have a2:=uy j (j+t) (by omega) (by omega) ht
  rw [bX hj] at a2
  omega
 have km:∀ t,i+k+t < x.size->rk y[j]<=Kr rk x (i+k+t):=fun t ht=>by
  have a1:=k3 (k+t) (by omega) (by omega)
  rw [lT,bk6,<- Nat.add_assoc] at a1
  omega
 by_cases hk0:k > 0
 ·rw [if_pos hk0]
  by_cases he:(i+k+1 == x.size)=true
  ·rw [if_pos he]
   exact ba9 ⟨q4,.inl ⟨_,_,_,_,_,_,_,rfl,mk.last x0 hl (by simpa using he)⟩⟩
  ·rw [if_neg he]
   have he:i+k+1 ≠ x.size:=by simpa using he
   by_cases hf:(i+k == x.size)=true
   ·rw [if_pos hf]
    have hf:i+k=x.size:=by simpa using hf
    exact ba9 ⟨q4,.inl ⟨_,_,_,_,_,_,_,rfl,mk.done (.inl (by omega))⟩⟩
   ·rw [if_neg hf]
    have hf:i+k ≠ x.size:=by simpa using hf
    exact L8 c hk ox oy sx sy x0 hl q4 mk (by omega) hj (by omega) km
 ·rw [if_neg hk0]
  have e0:k=0:=by omega
  subst e0
  exact L8 c hk ox oy sx sy x0 hl q4 m hi hj hb km
theorem aA2 (c:bT prog w A E s κ Ok rk) {st0:SortSt} (hk:kindOf st0=κ) {x y o:Array Keyed}{mg p q lb:Nat} (ox:bE Ok x) (oy:bE Ok y) (sx:Sd rk x.toList) (sy:Sd rk y.toList) (x0:0 < x.size) (hl:∀ u ∈ y.toList,rk u<=rk x[x.size - 1]) (g:Gq st0 st) (m:MI rk x.toList y.toList o.toList i j) (hi:i+1 < x.size) (hj:j < y.size) (hb:lb<=i+j) :
  wpS (model prog w) A E s (vP x y o i j mg p q) (GQ rk x y lb st0) st:=by
 unfold vP
 refine bi0 (I:=fun _=>GI rk x y lb st0) ?_ ?_ ⟨g,o,i,j,_,p,q,rfl,m,hi,hj,hb⟩
 ·rintro t c3 st3 _ _ ⟨q3,o,i,j,mg,p,q,rfl,m,hi,hj,pr3⟩
  dsimp only
  split
  ·exact bo2 (L9 c hk ox oy sx sy x0 hl q3 m hi hj pr3) fun r _ hr=>by cases r <;> exact hr
  ·exact bo2 (L9 c hk ox oy sx sy x0 hl q3 m hi hj pr3) fun r _ hr=>by cases r <;> exact hr
 ·rintro c3 st3 ⟨q3,o,i,j,mg,p,q,rfl,m,hi,hj,pr3⟩
  exact⟨q3,.inr ⟨_,_,_,_,_,_,rfl,m,hi,hj,pr3⟩⟩
theorem aA3 (c:bT prog w A E s κ Ok rk) {st0:SortSt} (hk:kindOf st0=κ) {x y o:Array Keyed}{mg:Nat}{Q:vO->SortSt->Prop} (ox:bE Ok x) (oy:bE Ok y) (sx:Sd rk x.toList) (sy:Sd rk y.toList) (x0:0 < x.size) (hl:∀ u ∈ y.toList,rk u<=rk x[x.size - 1]) (g:Gq st0 st) (m:MI rk x.toList y.toList o.toList i j) (hi:i+1 < x.size) (hj:j < y.size)
  (h1:∀ r o' i' j' p q st',Gq st0 st'->dI rk x y r->Q (some r,o',i',j',p,q) st')
  (h2:∀ o' i' j' p q st',Gq st0 st'->MI rk x.toList y.toList o'.toList i' j'->i'+1 < x.size->j' < y.size->i+j+1<=i'+j'->Q (none,o',i',j',p,q) st') :
  wpS (model prog w) A E s (vQ x y o i j mg) Q st:=by
 have ux:Up rk x 0 x.size:=sx.up 0 _ (aZ3 _)
 have uy:Up rk y 0 y.size:=sy.up 0 _ (aZ3 _)
 unfold vQ
 refine bi0 (I:=fun t c st'=>Gq st0 st'/\∃ o i' j' p q,c=(none,o,i',j',p,q)/\MI rk x.toList y.toList o.toList i' j'/\i'+1 < x.size/\j' < y.size/\i+j+t<=i'+j') ?_ ?_ ⟨g,o,i,j,0,0,rfl,m,hi,hj,by omega⟩
 ·rintro t c2 st2 _ ht ⟨q2,o,i',j',p,q,rfl,m,hi,hj,pr2⟩
  dsimp only
  have hi':i' < x.size:=by omega
  refine ba0 (cN hj (ba0 (cN hi' (ba0 (c _ _ (oy _ (be4 hj)) (ox _ (be4 hi')) st2 _ (q2.kd.trans hk) ?_)))))
  by_cases hc:rk y[j'] < rk x[i']
  ·rw [ba2 hc]
   dsimp only
   rw [if_pos rfl]
   have m':=m.y1 hj fun t ht=>by
    have:=ux i' (i'+t) (by omega) (by omega) ht
    rw [bX hi'] at this
    omega
   refine ba0 (cN hj ?_)
   by_cases he:(j'+1 == y.size)=true
   ·rw [if_pos he]
    have he:j'+1=y.size:=by simpa using he
    exact ba9 (h1 _ _ _ _ _ _ _ q2 (m'.done (.inr (by omega))))
   ·rw [if_neg he]
    have he:j'+1 ≠ y.size:=by simpa using he
    split
    ·exact ba9 (h2 _ _ _ _ _ _ q2 m' hi (by omega) (by omega))
    ·exact ba9 ⟨q2,_,_,_,_,_,rfl,m',hi,by omega,by omega⟩
  ·rw [aZ8 hc]
   dsimp only
   rw [if_neg ba7]
   have m':=m.x1 hi' fun t ht=>by
    have:=uy j' (j'+t) (by omega) (by omega) ht
    rw [bX hj] at this
    omega
   refine ba0 (cN hi' ?_)
   by_cases he:(i'+1+1 == x.size)=true
   ·rw [if_pos he]
    exact ba9 (h1 _ _ _ _ _ _ _ q2 (m'.last x0 hl (by simpa using he)))
   ·rw [if_neg he]
    have he:i'+1+1 ≠ x.size:=by simpa using he
    split
    ·exact ba9 (h2 _ _ _ _ _ _ q2 m' (by omega) hj (by omega))
    ·exact ba9 ⟨q2,_,_,_,_,_,rfl,m',by omega,hj,by omega⟩
 ·rintro c2 st2 ⟨q2,o,i',j',p,q,rfl,m,hi,hj,pr2⟩
  exact h2 _ _ _ _ _ _ q2 m hi hj (by omega)
theorem aA4 (c:bT prog w A E s κ Ok rk) (hk:kindOf st=κ) {x y:Array Keyed}{Q:Array Keyed->SortSt->Prop} (ox:bE Ok x) (oy:bE Ok y) (sx:Sd rk x.toList) (sy:Sd rk y.toList) (x0:0 < x.size) (y0:0 < y.size)
  (hf:∀ t ∈ x.toList,rk y[0]<=rk t) (hl:∀ u ∈ y.toList,rk u<=rk x[x.size - 1])
  (h:∀ r st',Gq st st'->dI rk x y r->Q r st'):wpS (model prog w) A E s (vN x y) Q st:=by
 rw [aA1]
 refine ba0 (wpS_lift (bm5 ⟨rfl,ba0 (cN y0 ?_)⟩))
 have m0:MI rk x.toList y.toList (#[y[0]]:Array Keyed).toList 0 1:=by
  have mm:MI rk x.toList y.toList [] 0 0:=⟨by simp,sx,sy⟩
  have:=mm.ofy 1 fun u hu t ht=>?_
  ·rw [<- kC y0] at this; exact this
  ·rw [<- kC y0,aZ4] at hu
   subst hu
   exact hf t ht
 by_cases e1:(1 == y.size)=true
 ·rw [if_pos e1]
  have e1:1=y.size:=by simpa using e1
  exact ba9 (h _ st (Gq.refl st) (m0.done (.inr (by omega))))
 ·rw [if_neg e1]
  have e1:1 ≠ y.size:=by simpa using e1
  by_cases e2:(0+1 == x.size)=true
  ·rw [if_pos e2]
   exact ba9 (h _ st (Gq.refl st) (m0.last x0 hl (by simpa using e2)))
  ·rw [if_neg e2]
   have e2:0+1 ≠ x.size:=by simpa using e2
   refine ba0 (wpS_get ?_)
   unfold L4
   refine ba0 (bo2 (bi0
    (I:=fun n c st'=>Gq st st'/\∃ o i j mg,c=(none,o,i,j,mg)/\MI rk x.toList y.toList o.toList i j/\i+1 < x.size/\j < y.size/\n+1<=i+j)
    (Q:=fun c st'=>Gq st st'/\∃ r o i j mg,c=(some r,o,i,j,mg)/\dI rk x y r) ?_ ?_ ⟨Gq.refl st,_,0,1,_,rfl,m0,by omega,by omega,by omega⟩) ?_)
   ·rintro n c1 st1 _ hn ⟨q1,o,i,j,mg,rfl,m,hi,hj,pr⟩
    dsimp only
    refine ba0 (aA3 c hk ox oy sx sy x0 hl q1 m hi hj (fun r o' i' j' p q st' g md=>ba9 ⟨g,r,_,_,_,_,rfl,md⟩) fun o' i' j' p q st' g m' hi' hj' pr'=>?_)
    refine ba0 (wpS_lift (bm5 ⟨rfl,?_⟩))
    refine ba0 (bo2 (aA2 c hk ox oy sx sy x0 hl g m' hi' hj' pr') ?_)
    rintro c3 st3 ⟨q3,⟨r,o,i3,j3,mg,p,q,rfl,md⟩ | ⟨o,i3,j3,mg,p,q,rfl,m,hi,hj,pr3⟩⟩
    ·exact ba9 ⟨q3,r,_,_,_,_,rfl,md⟩
    ·exact ba0 (qJ q3 fun st4 q4=>ba9 ⟨q4,o,i3,j3,_,rfl,m,hi,hj,by omega⟩)
   ·rintro c1 st1 ⟨q1,o,i,j,mg,rfl,m,hi,hj,pr⟩
    exact absurd pr (by omega)
   ·rintro c1 st1 ⟨q1,r,o,i,j,mg,rfl,md⟩
    exact ba9 (h r _ q1 md)
end
def vR:Array Keyed->Array Keyed->StateT SortSt Sem (Array Keyed):=sortPriv% PySem.Builtin.mergeHi
abbrev LH:=Option (Array Keyed) × Nat × Nat × Array Keyed × Nat × Nat × Nat
abbrev vS:=Option (Array Keyed) × Nat × Nat × Array Keyed × Nat × Nat
abbrev LP:=Option (Array Keyed) × Nat × Nat × Array Keyed × Nat
def qK (x y o:Array Keyed) (i j mg p q:Nat):StateT SortSt Sem (ForInStep LH):=do
 let v <- elem' x (i - 1)
 if (i - 1 == 0)=true then pure (.done (some (x.extract 0 (i - 1) ++ y.extract 0 j ++ (o.push v).reverse),i - 1,j,o.push v,mg,p,q))
 else if (decide (p < 7) && decide (q < 7))=true then pure (.done (none,i - 1,j,o.push v,mg,p,q)) else pure (.yield (none,i - 1,j,o.push v,mg,p,q))
def qL (x y o:Array Keyed) (i j mg p q:Nat):StateT SortSt Sem (ForInStep LH):=do
 let v <- elem' y (j - 1)
 if (j - 1 == 1)=true then pure (.done (some (y.extract 0 (j - 1) ++ x.extract 0 i ++ (o.push v).reverse),i,j - 1,o.push v,mg,p,q)) else do
  let u <- elem' x (i - 1)
  match <- jF true u y 0 (j - 1) (j - 1 - 1) with
  | some z=>
   if j - 1 - z > 0 then
    if (z == 1)=true then pure (.done (some (y.extract 0 z ++ x.extract 0 i ++ (o.push v ++ (y.extract z (j - 1)).reverse).reverse),i,z,o.push v ++ (y.extract z (j - 1)).reverse,mg,p,j - 1 - z))
    else if (z == 0)=true then pure (.done (some (x.extract 0 i ++ y.extract 0 z ++ (o.push v ++ (y.extract z (j - 1)).reverse).reverse),i,z,o.push v ++ (y.extract z (j - 1)).reverse,mg,p,j - 1 - z))
    else qK x y (o.push v ++ (y.extract z (j - 1)).reverse) i z mg p (j - 1 - z)
   else qK x y (o.push v) i (j - 1) mg p (j - 1 - z)
  | _=>pure (.done (some (x.extract 0 i ++ y.extract 0 (j - 1) ++ (o.push v).reverse),i,j - 1,o.push v,mg,p,q))
def qM (x y o:Array Keyed) (i j mg p q:Nat):StateT SortSt Sem (ForInStep LH):=do
 lS mg
 let v <- elem' y (j - 1)
 match <- jF false v x 0 i (i - 1) with
 | some z=>
  if i - z > 0 then
   if (z == 0)=true then pure (.done (some (x.extract 0 z ++ y.extract 0 j ++ (o ++ (x.extract z i).reverse).reverse),z,j,o ++ (x.extract z i).reverse,mg,i - z,q))
   else qL x y (o ++ (x.extract z i).reverse) z j mg (i - z) q
  else qL x y o i j mg (i - z) q
 | _=>pure (.done (some (x.extract 0 i ++ y.extract 0 j ++ o.reverse),i,j,o,mg,p,q))
def vT (x y o:Array Keyed) (i j mg p q:Nat):StateT SortSt Sem LH:=forIn [0:x.size+y.size] ((none,i,j,o,mg,p,q):LH) fun _ r=>
 if r.2.2.2.2.1 > 1 then qM x y r.2.2.2.1 r.2.1 r.2.2.1 (r.2.2.2.2.1 - 1) r.2.2.2.2.2.1 r.2.2.2.2.2.2 else qM x y r.2.2.2.1 r.2.1 r.2.2.1 r.2.2.2.2.1 r.2.2.2.2.2.1 r.2.2.2.2.2.2
def vU (x y o:Array Keyed) (i j mg:Nat):StateT SortSt Sem vS:=forIn [0:x.size+y.size] ((none,i,j,o,0,0):vS) fun _ r=>do
 let v <- elem' y (r.2.2.1 - 1)
 let u <- elem' x (r.2.1 - 1)
 match <- lt' v u with
 | some q=>
  if q=true then do
   let u <- elem' x (r.2.1 - 1)
   if (r.2.1 - 1 == 0)=true then pure (.done (some (x.extract 0 (r.2.1 - 1) ++ y.extract 0 r.2.2.1 ++ (r.2.2.2.1.push u).reverse),r.2.1 - 1,r.2.2.1,r.2.2.2.1.push u,r.2.2.2.2.1+1,0))
   else if r.2.2.2.2.1+1 >= mg then pure (.done (none,r.2.1 - 1,r.2.2.1,r.2.2.2.1.push u,r.2.2.2.2.1+1,0)) else pure (.yield (none,r.2.1 - 1,r.2.2.1,r.2.2.2.1.push u,r.2.2.2.2.1+1,0))
  else do
   let v <- elem' y (r.2.2.1 - 1)
   if (r.2.2.1 - 1 == 1)=true then pure (.done (some (y.extract 0 (r.2.2.1 - 1) ++ x.extract 0 r.2.1 ++ (r.2.2.2.1.push v).reverse),r.2.1,r.2.2.1 - 1,r.2.2.2.1.push v,0,r.2.2.2.2.2+1))
   else if r.2.2.2.2.2+1 >= mg then pure (.done (none,r.2.1,r.2.2.1 - 1,r.2.2.2.1.push v,0,r.2.2.2.2.2+1)) else pure (.yield (none,r.2.1,r.2.2.1 - 1,r.2.2.2.1.push v,0,r.2.2.2.2.2+1))
 | _=>pure (.done (some (x.extract 0 r.2.1 ++ y.extract 0 r.2.2.1 ++ r.2.2.2.1.reverse),r.2.1,r.2.2.1,r.2.2.2.1,r.2.2.2.2.1,r.2.2.2.2.2))
def M0 (x y o:Array Keyed) (i j mg:Nat):StateT SortSt Sem LP:=forIn [0:x.size+y.size] ((none,i,j,o,mg):LP) fun _ r=>do
 let u <- vU x y r.2.2.2.1 r.2.1 r.2.2.1 r.2.2.2.2
 match u.1 with
 | some z=>pure (.done (some z,u.2.1,u.2.2.1,u.2.2.2.1,r.2.2.2.2))
 | none=>do
  liftM (rule "list.sort.gallop")
  let v <- vT x y u.2.2.2.1 u.2.1 u.2.2.1 (r.2.2.2.2+1) u.2.2.2.2.1 u.2.2.2.2.2
  match v.1 with
  | some z=>pure (.done (some z,v.2.1,v.2.2.1,v.2.2.2.1,v.2.2.2.2.1))
  | none=>do
   lS (v.2.2.2.2.1+1)
   pure (.yield (none,v.2.1,v.2.2.1,v.2.2.2.1,v.2.2.2.2.1+1))
theorem aA5 (x y:Array Keyed):vR x y=(do
 liftM (rule "list.sort.merge-hi")
 let v <- elem' x (x.size - 1)
 if (x.size - 1 == 0)=true then pure (x.extract 0 (x.size - 1) ++ y.extract 0 y.size ++ (#[v]:Array Keyed).reverse)
 else if (y.size == 1)=true then pure (y.extract 0 y.size ++ x.extract 0 (x.size - 1) ++ (#[v]:Array Keyed).reverse)
 else do
  let z <- get
  let r <- M0 x y #[v] (x.size - 1) y.size (gallopOf z)
  match r.1 with
  | some z=>pure z
  | none=>unsupported "internal:list.sort.merge-bound"):=by kernel_rfl
structure MH (rk:Keyed->Int) (xs ys o:List Keyed) (i j:Nat):Prop where
 pm:o.Perm (xs.drop i ++ ys.drop j)
 sx:Sd rk (xs.take i ++ o)
 sy:Sd rk (ys.take j ++ o)
variable {rk : Keyed → Int} {xs ys o : List Keyed} {i j : Nat}
theorem Sd.insR {o a b d:List Keyed} (h1:Sd rk (a ++ o)) (h2:Sd rk ((d ++ b) ++ o)) (h:∀ t ∈ a,∀ u ∈ b,rk t<=rk u):Sd rk (a ++ (b ++ o)):=by
 unfold Sd at *
 obtain ⟨p1,p2,p3⟩:=bf1.mp h1
 obtain ⟨q1,q2,q3⟩:=bf1.mp h2
 obtain ⟨r1,r2,r3⟩:=bf1.mp q1
 refine bf1.mpr ⟨p1,bf1.mpr ⟨r2,p2,fun u hu t ht=>q3 u (bc3 _ hu) t ht⟩,fun u hu t ht=>?_⟩
 rcases bb3.mp ht with z | z
 ·exact h u hu t z
 ·exact p3 u hu t z
theorem qN (l:List Keyed) {z j:Nat} (h:z<=j):l.take z ++ (l.take j).drop z=l.take j:=by
 have e:l.take z=(l.take j).take z:=by rw [List.take_take,Nat.min_eq_left h]
 rw [e]; exact be5 z _
theorem vV (l:List Keyed) {z j:Nat} (h:z<=j):(l.take j).drop z ++ l.drop j=l.drop z:=by
 rw [bo6,show l.drop j=(l.drop z).drop (j - z) by rw [List.drop_drop,Nat.add_sub_cancel' h]]
 exact be5 _ _
theorem MH.ofy (m:MH rk xs ys o i j) {z:Nat} (hz:z<=j) (h:∀ t ∈ xs.take i,∀ u ∈ (ys.take j).drop z,rk t<=rk u):MH rk xs ys ((ys.take j).drop z ++ o) i z:=by
 refine⟨?_,Sd.insR m.sx (d:=ys.take z) (by rw [qN _ hz]; exact m.sy) h,by rw [<- bb9,qN _ hz]; exact m.sy⟩
 rw [<- vV ys hz]
 refine (m.pm.append_left _).trans ?_
 rw [<- bb9,<- bb9]
 exact (List.perm_append_comm).append_right _
theorem MH.ofx (m:MH rk xs ys o i j) {z:Nat} (hz:z<=i) (h:∀ t ∈ ys.take j,∀ u ∈ (xs.take i).drop z,rk t<=rk u):MH rk xs ys ((xs.take i).drop z ++ o) z j:=by
 refine⟨?_,by rw [<- bb9,qN _ hz]; exact m.sx,Sd.insR m.sy (d:=xs.take z) (by rw [qN _ hz]; exact m.sx) h⟩
 rw [<- vV xs hz,bb9]
 exact m.pm.append_left _
theorem MH.fin (m:MH rk xs ys o i j) (h:i=0 ∨ j=0):(xs.take i ++ ys.take j ++ o).Perm (xs ++ ys)/\Sd rk (xs.take i ++ ys.take j ++ o):=by
 refine⟨?_,?_⟩
 ·have e1:xs=xs.take i ++ xs.drop i:=(be5 i xs).symm
  have e2:ys=ys.take j ++ ys.drop j:=(be5 j ys).symm
  conv=>rhs; rw [e1,e2]
  rw [bb9,bb9]
  refine List.Perm.append_left _ ((m.pm.append_left _).trans ?_)
  rw [<- bb9,<- bb9]
  exact (List.perm_append_comm).append_right _
 ·rcases h with h | h
  ·subst h; simpa using m.sy
  ·subst h; simpa using m.sx
theorem MH.fst (m:MH rk xs ys o i j) (h:∀ t ∈ ys.take j,∀ u ∈ xs,rk t<=rk u):(ys.take j ++ xs.take i ++ o).Perm (xs ++ ys)/\Sd rk (ys.take j ++ xs.take i ++ o):=by
 have m2:=m.ofx (be8 i) fun t ht u hu=>h t ht u (List.mem_of_mem_take (List.mem_of_mem_drop hu))
 have f:=m2.fin (.inl rfl)
 simpa using f
theorem o8 {x:Array Keyed}{i:Nat}{u:Keyed} (h:u ∈ x.toList.take i):∃ t,t < i/\t < x.size/\rk u=Kr rk x t:=by
 obtain ⟨t,ht,e⟩:=bj3 h
 have h1:t < i/\t < x.size:=by simp at ht; omega
 refine⟨t,h1.1,h1.2,?_⟩
 rw [bX h1.2,<- e]
 simp
theorem o9 {x:Array Keyed}{z i:Nat}{u:Keyed} (h:u ∈ (x.toList.take i).drop z):∃ t,z<=t/\t < i/\t < x.size/\rk u=Kr rk x t:=by
 obtain ⟨t,ht,e⟩:=bj3 h
 have h1:z+t < i/\z+t < x.size:=by simp at ht; omega
 refine⟨z+t,by omega,h1.1,h1.2,?_⟩
 rw [bX h1.2,<- e]
 simp
theorem kD (x:Array Keyed) (z i:Nat):(x.extract z i).toList=(x.toList.take i).drop z:=by
 rw [bo6]; simp [List.extract]
theorem qO (x:Array Keyed) (i:Nat):(x.extract 0 i).toList=x.toList.take i:=by
 simp [List.extract]
theorem oA {x:Array Keyed}{i:Nat} (h:i < x.size) : [x[i]]=(x.toList.take (i+1)).drop i:=by
 rw [bo6,kC h,show i+1 - i=1 by omega]
section
variable {κ : SortKind} {st : SortSt} {prog : Program} {w : World} {A : Around} {E : Value → Shared → Prop} {s : Shared} {Ok : Keyed → Prop}
theorem MH.y1 {x y o:Array Keyed} (m:MH rk x.toList y.toList o.toList.reverse i (j+1)) (hj:j < y.size) (h:∀ t,t < i->t < x.size->Kr rk x t<=rk y[j]):MH rk x.toList y.toList (o.push y[j]).toList.reverse i j:=by
 have:=m.ofy (Nat.le_succ j) fun t ht u hu=>?_
 ·rw [<- oA hj] at this; simpa using this
 ·rw [<- oA hj,aZ4] at hu
  subst hu
  obtain ⟨q,q1,q2,q3⟩:=o8 (rk:=rk) ht
  rw [q3]; exact h q q1 q2
theorem MH.x1 {x y o:Array Keyed} (m:MH rk x.toList y.toList o.toList.reverse (i+1) j) (hi:i < x.size) (h:∀ t,t < j->t < y.size->Kr rk y t<=rk x[i]):MH rk x.toList y.toList (o.push x[i]).toList.reverse i j:=by
 have:=m.ofx (Nat.le_succ i) fun t ht u hu=>?_
 ·rw [<- oA hi] at this; simpa using this
 ·rw [<- oA hi,aZ4] at hu
  subst hu
  obtain ⟨q,q1,q2,q3⟩:=o8 (rk:=rk) ht
  rw [q3]; exact h q q1 q2
theorem MH.yk {x y o:Array Keyed} (m:MH rk x.toList y.toList o.toList.reverse i j) {z:Nat} (hz:z<=j) (h:∀ t p,t < i->t < x.size->z<=p->p < j->p < y.size->Kr rk x t<=Kr rk y p):MH rk x.toList y.toList (o ++ (y.extract z j).reverse).toList.reverse i z:=by
 have:=m.ofy hz fun t ht u hu=>?_
 ·rw [<- kD] at this; simpa using this
 ·obtain ⟨q,q1,q2,q3⟩:=o8 (rk:=rk) ht
  obtain ⟨p,p1,p2,p3,p4⟩:=o9 (rk:=rk) hu
  rw [q3,p4]; exact h q p q1 q2 p1 p2 p3
theorem MH.xk {x y o:Array Keyed} (m:MH rk x.toList y.toList o.toList.reverse i j) {z:Nat} (hz:z<=i) (h:∀ t p,t < j->t < y.size->z<=p->p < i->p < x.size->Kr rk y t<=Kr rk x p):MH rk x.toList y.toList (o ++ (x.extract z i).reverse).toList.reverse z j:=by
 have:=m.ofx hz fun t ht u hu=>?_
 ·rw [<- kD] at this; simpa using this
 ·obtain ⟨q,q1,q2,q3⟩:=o8 (rk:=rk) ht
  obtain ⟨p,p1,p2,p3,p4⟩:=o9 (rk:=rk) hu
  rw [q3,p4]; exact h q p q1 q2 p1 p2 p3
theorem MH.done {x y o:Array Keyed} (m:MH rk x.toList y.toList o.toList.reverse i j) (hh:i=0 ∨ j=0):dI rk x y (x.extract 0 i ++ y.extract 0 j ++ o.reverse):=by
 unfold dI
 rw [bg8,bg8,qO,qO,Array.toList_reverse]
 exact m.fin hh
theorem MH.frst {x y o:Array Keyed} (m:MH rk x.toList y.toList o.toList.reverse i j) (y0:0 < y.size) (hf:∀ t ∈ x.toList,rk y[0]<=rk t) (hh:j=1):dI rk x y (y.extract 0 j ++ x.extract 0 i ++ o.reverse):=by
 unfold dI
 rw [bg8,bg8,qO,qO,Array.toList_reverse]
 refine m.fst fun t ht u hu=>?_
 subst hh
 obtain ⟨q,q1,q2,q3⟩:=o8 (rk:=rk) ht
 have e:q=0:=by omega
 subst e
 rw [q3,bX y0]
 exact hf u hu
structure HB (rk:Keyed->Int) (x y:Array Keyed) (lb i j:Nat) (o:Array Keyed):Prop where
 m:MH rk x.toList y.toList o.toList.reverse i j
 i0:0 < i
 i1:i < x.size
 j0:1 < j
 j1:j<=y.size
 pr:i+j+lb<=x.size+y.size
def HI (rk:Keyed->Int) (x y:Array Keyed) (lb:Nat) (st:SortSt) (c:LH) (st':SortSt):Prop:=Gq st st'/\∃ i j o mg p q,c=(none,i,j,o,mg,p,q)/\HB rk x y lb i j o
def HQ (rk:Keyed->Int) (x y:Array Keyed) (lb:Nat) (st:SortSt) (c:LH) (st':SortSt):Prop:=Gq st st'/\((∃ r i j o mg p q,c=(some r,i,j,o,mg,p,q)/\dI rk x y r) ∨ ∃ i j o mg p q,c=(none,i,j,o,mg,p,q)/\HB rk x y lb i j o)
def HR (rk:Keyed->Int) (x y:Array Keyed) (lb:Nat) (st:SortSt) (r:ForInStep LH) (st':SortSt):Prop:=match r with | .done c=>HQ rk x y lb st c st' | .yield c=>HI rk x y lb st c st'
theorem M1 {st0:SortSt}{x y o:Array Keyed}{i j mg p q lb:Nat} (g:Gq st0 st) (b:HB rk x y lb (i+1) j o) (hm:∀ (hi:i < x.size) t,t < j->t < y.size->Kr rk y t<=rk x[i]):wpS (model prog w) A E s (qK x y o (i+1) j mg p q) (HR rk x y lb st0) st:=by
 unfold qK
 obtain ⟨m,i0,i1,j0,j1,pr⟩:=b
 have hi':i < x.size:=by omega
 have m':=m.x1 hi' (hm hi')
 simp only [Nat.add_sub_cancel]
 refine ba0 (cN hi' ?_)
 by_cases he:(i == 0)=true
 ·rw [if_pos he]
  have he:i=0:=by simpa using he
  exact ba9 ⟨g,.inl ⟨_,_,_,_,_,_,_,rfl,m'.done (.inl he)⟩⟩
 ·rw [if_neg he]
  have he:i ≠ 0:=by simpa using he
  split
  ·exact ba9 ⟨g,.inr ⟨_,_,_,_,_,_,rfl,m',by omega,by omega,j0,j1,by omega⟩⟩
  ·exact ba9 ⟨g,_,_,_,_,_,_,rfl,m',by omega,by omega,j0,j1,by omega⟩
theorem M3 (c:bT prog w A E s κ Ok rk) {st0:SortSt} (hk:kindOf st0=κ) {x y o:Array Keyed}{i j mg p q lb:Nat} (ox:bE Ok x) (oy:bE Ok y) (sx:Sd rk x.toList) (sy:Sd rk y.toList) (y0:0 < y.size) (hf:∀ t ∈ x.toList,rk y[0]<=rk t) (g:Gq st0 st) (b:HB rk x y lb (i+1) (j+1) o)
  (hm:∀ (hj:j < y.size) t,t < i+1->t < x.size->Kr rk x t<=rk y[j]):wpS (model prog w) A E s (qL x y o (i+1) (j+1) mg p q) (HR rk x y lb st0) st:=by
 unfold qL
 obtain ⟨m,i0,i1,j0,j1,pr⟩:=b
 have hi':i < x.size:=by omega
 have hj:j < y.size:=by omega
 have m':=m.y1 hj (hm hj)
 simp only [Nat.add_sub_cancel]
 refine ba0 (cN hj ?_)
 by_cases he:(j == 1)=true
 ·rw [if_pos he]
  have he:j=1:=by simpa using he
  exact ba9 ⟨g,.inl ⟨_,_,_,_,_,_,_,rfl,m'.frst y0 hf he⟩⟩
 ·rw [if_neg he]
  have he:j ≠ 1:=by simpa using he
  refine ba0 (cN hi' (ba0 (lR c (g.kd.trans hk) (ox _ (be4 hi')) oy (by omega) (by omega) (sy.up _ _ (by omega)) fun z k1 k2 k3=>?_)))
  dsimp only
  have ux:=sx.up 0 _ (aZ3 x.size)
  have mk:=m'.yk k1 fun t p ht ht' hp hp' _=>by
   have a1:=k3 p hp hp'
   rw [lU,bk6,Nat.zero_add] at a1
   have a2:=ux t i (by omega) (by omega) hi'
   rw [bX (i:=i) hi'] at a2
   omega
  have km:∀ (hi:i < x.size) t,t < z->t < y.size->Kr rk y t<=rk x[i]:=fun _ t ht _=>by
   have a1:=k2 t ht
   rw [lU,bc0,Nat.zero_add] at a1
   omega
  by_cases hk0:j - z > 0
  ·rw [if_pos hk0]
   by_cases h1:(z == 1)=true
   ·rw [if_pos h1]
    have h1:z=1:=by simpa using h1
    exact ba9 ⟨g,.inl ⟨_,_,_,_,_,_,_,rfl,mk.frst y0 hf h1⟩⟩
   ·rw [if_neg h1]
    have h1:z ≠ 1:=by simpa using h1
    by_cases h0:(z == 0)=true
    ·rw [if_pos h0]
     have h0:z=0:=by simpa using h0
     exact ba9 ⟨g,.inl ⟨_,_,_,_,_,_,_,rfl,mk.done (.inr h0)⟩⟩
    ·rw [if_neg h0]
     have h0:z ≠ 0:=by simpa using h0
     exact M1 g ⟨mk,by omega,i1,by omega,by omega,by omega⟩ km
  ·rw [if_neg hk0]
   have e0:z=j:=by omega
   subst e0
   exact M1 g ⟨m',by omega,i1,by omega,by omega,by omega⟩ km
theorem M4 (c:bT prog w A E s κ Ok rk) {st0:SortSt} (hk:kindOf st0=κ) {x y o:Array Keyed}{i j mg p q lb:Nat} (ox:bE Ok x) (oy:bE Ok y) (sx:Sd rk x.toList) (sy:Sd rk y.toList) (y0:0 < y.size) (hf:∀ t ∈ x.toList,rk y[0]<=rk t) (g:Gq st0 st) (b:HB rk x y lb i (j+1) o) :
  wpS (model prog w) A E s (qM x y o i (j+1) mg p q) (HR rk x y lb st0) st:=by
 unfold qM
 obtain ⟨m,i0,i1,j0,j1,pr⟩:=b
 have hj:j < y.size:=by omega
 simp only [Nat.add_sub_cancel]
 refine ba0 (qJ g fun st4 q4=>ba0 (cN hj (ba0 (lR c (q4.kd.trans hk) (oy _ (be4 hj)) ox (by omega) (by omega) (sx.up _ _ (by omega)) fun z k1 k2 k3=>?_))))
 dsimp only
 have uy:=sy.up 0 _ (aZ3 y.size)
 have mk:=m.xk k1 fun t p ht ht' hp hp' _=>by
  have a1:=k3 p hp hp'
  rw [lT,bk6,Nat.zero_add] at a1
  have a2:=uy t j (by omega) (by omega) hj
  rw [bX (i:=j) hj] at a2
  omega
 have km:∀ (hj:j < y.size) t,t < z->t < x.size->Kr rk x t<=rk y[j]:=fun _ t ht _=>by
  have a1:=k2 t ht
  rw [lT,bc0,Nat.zero_add] at a1
  exact a1
 by_cases hk0:i - z > 0
 ·rw [if_pos hk0]
  by_cases he:(z == 0)=true
  ·rw [if_pos he]
   exact ba9 ⟨q4,.inl ⟨_,_,_,_,_,_,_,rfl,mk.done (.inl (by simpa using he))⟩⟩
  ·rw [if_neg he]
   have he:z ≠ 0:=by simpa using he
   obtain ⟨z2,rfl⟩:∃ z2,z=z2+1:=⟨z - 1,by omega⟩
   exact M3 c hk ox oy sx sy y0 hf q4 ⟨mk,by omega,by omega,j0,j1,by omega⟩ km
 ·rw [if_neg hk0]
  have e0:z=i:=by omega
  subst e0
  obtain ⟨z2,rfl⟩:∃ z2,z=z2+1:=⟨z - 1,by omega⟩
  exact M3 c hk ox oy sx sy y0 hf q4 ⟨m,i0,i1,j0,j1,pr⟩ km
theorem aA6 (c:bT prog w A E s κ Ok rk) {st0:SortSt} (hk:kindOf st0=κ) {x y o:Array Keyed}{i j mg p q lb:Nat} (ox:bE Ok x) (oy:bE Ok y) (sx:Sd rk x.toList) (sy:Sd rk y.toList) (y0:0 < y.size) (hf:∀ t ∈ x.toList,rk y[0]<=rk t) (g:Gq st0 st) (b:HB rk x y lb i j o) :
  wpS (model prog w) A E s (vT x y o i j mg p q) (HQ rk x y lb st0) st:=by
 unfold vT
 refine bi0 (I:=fun _=>HI rk x y lb st0) ?_ ?_ ⟨g,i,j,o,_,p,q,rfl,b⟩
 ·rintro t c3 st3 _ _ ⟨q3,i,j,o,mg,p,q,rfl,b3⟩
  obtain ⟨j3,rfl⟩:∃ j3,j=j3+1:=⟨j - 1,by have:=b3.j0; omega⟩
  dsimp only
  split
  ·exact bo2 (M4 c hk ox oy sx sy y0 hf q3 b3) fun r _ hr=>by cases r <;> exact hr
  ·exact bo2 (M4 c hk ox oy sx sy y0 hf q3 b3) fun r _ hr=>by cases r <;> exact hr
 ·rintro c3 st3 ⟨q3,i,j,o,mg,p,q,rfl,b3⟩
  exact⟨q3,.inr ⟨_,_,_,_,_,_,rfl,b3⟩⟩
theorem aA7 (c:bT prog w A E s κ Ok rk) {st0:SortSt} (hk:kindOf st0=κ) {x y o:Array Keyed}{i j mg n:Nat}{Q:vS->SortSt->Prop} (ox:bE Ok x) (oy:bE Ok y) (sx:Sd rk x.toList) (sy:Sd rk y.toList) (y0:0 < y.size) (hf:∀ t ∈ x.toList,rk y[0]<=rk t) (g:Gq st0 st) (b:HB rk x y n i j o)
  (h1:∀ r i' j' o' p q st',Gq st0 st'->dI rk x y r->Q (some r,i',j',o',p,q) st') (h2:∀ i' j' o' p q st',Gq st0 st'->HB rk x y (n+1) i' j' o'->Q (none,i',j',o',p,q) st') :
  wpS (model prog w) A E s (vU x y o i j mg) Q st:=by
 have ux:Up rk x 0 x.size:=sx.up 0 _ (aZ3 _)
 have uy:Up rk y 0 y.size:=sy.up 0 _ (aZ3 _)
 unfold vU
 refine bi0 (I:=fun t c st'=>Gq st0 st'/\∃ i j o p q,c=(none,i,j,o,p,q)/\HB rk x y (n+t) i j o) ?_ ?_ ⟨g,i,j,o,0,0,rfl,b⟩
 ·rintro t c2 st2 _ ht ⟨q2,i',j',o,p,q,rfl,m,i0,i1,j0,j1,pr⟩
  obtain ⟨i2,rfl⟩:∃ i2,i'=i2+1:=⟨i' - 1,by omega⟩
  obtain ⟨j2,rfl⟩:∃ j2,j'=j2+1:=⟨j' - 1,by omega⟩
  simp only [Nat.add_sub_cancel]
  have hi:i2 < x.size:=by omega
  have hj:j2 < y.size:=by omega
  refine ba0 (cN hj (ba0 (cN hi (ba0 (c _ _ (oy _ (be4 hj)) (ox _ (be4 hi)) st2 _ (q2.kd.trans hk) ?_)))))
  by_cases hc:rk y[j2] < rk x[i2]
  ·rw [ba2 hc]
   dsimp only
   rw [if_pos rfl]
   have m':=m.x1 hi fun t ht _=>by
    have:=uy t j2 (by omega) (by omega) hj
    rw [bX hj] at this
    omega
   refine ba0 (cN hi ?_)
   by_cases he:(i2 == 0)=true
   ·rw [if_pos he]
    exact ba9 (h1 _ _ _ _ _ _ _ q2 (m'.done (.inl (by simpa using he))))
   ·rw [if_neg he]
    have he:i2 ≠ 0:=by simpa using he
    split
    ·exact ba9 (h2 _ _ _ _ _ _ q2 ⟨m',by omega,by omega,j0,j1,by omega⟩)
    ·exact ba9 ⟨q2,_,_,_,_,_,rfl,m',by omega,by omega,j0,j1,by omega⟩
  ·rw [aZ8 hc]
   dsimp only
   rw [if_neg ba7]
   have m':=m.y1 hj fun t ht _=>by
    have:=ux t i2 (by omega) (by omega) hi
    rw [bX hi] at this
    omega
   refine ba0 (cN hj ?_)
   by_cases he:(j2 == 1)=true
   ·rw [if_pos he]
    exact ba9 (h1 _ _ _ _ _ _ _ q2 (m'.frst y0 hf (by simpa using he)))
   ·rw [if_neg he]
    have he:j2 ≠ 1:=by simpa using he
    split
    ·exact ba9 (h2 _ _ _ _ _ _ q2 ⟨m',i0,i1,by omega,by omega,by omega⟩)
    ·exact ba9 ⟨q2,_,_,_,_,_,rfl,m',i0,i1,by omega,by omega,by omega⟩
 ·rintro c2 st2 ⟨q2,i',j',o,p,q,rfl,m,i0,i1,j0,j1,pr⟩
  exact h2 _ _ _ _ _ _ q2 ⟨m,i0,i1,j0,j1,by omega⟩
theorem aA8 (c:bT prog w A E s κ Ok rk) (hk:kindOf st=κ) {x y:Array Keyed}{Q:Array Keyed->SortSt->Prop} (ox:bE Ok x) (oy:bE Ok y) (sx:Sd rk x.toList) (sy:Sd rk y.toList) (x0:0 < x.size) (y0:0 < y.size)
  (hf:∀ t ∈ x.toList,rk y[0]<=rk t) (hl:∀ u ∈ y.toList,rk u<=rk x[x.size - 1])
  (h:∀ r st',Gq st st'->dI rk x y r->Q r st'):wpS (model prog w) A E s (vR x y) Q st:=by
 rw [aA5]
 refine ba0 (wpS_lift (bm5 ⟨rfl,ba0 (cN (by omega:x.size - 1 < x.size) ?_)⟩))
 have m0:MH rk x.toList y.toList (#[x[x.size - 1]]:Array Keyed).toList.reverse (x.size - 1) y.size:=by
  have mm:MH rk x.toList y.toList [] x.size y.size:=⟨by simp,by rw [bd9 (by simp),bd0]; exact sx,by rw [bd9 (by simp),bd0]; exact sy⟩
  have e:=oA (x:=x) (i:=x.size - 1) (by omega)
  rw [show x.size - 1+1=x.size by omega] at e
  have:=mm.ofx (Nat.sub_le x.size 1) fun t ht u hu=>?_
  ·rw [<- e] at this; simpa using this
  ·rw [<- e,aZ4] at hu
   subst hu
   exact hl t (List.mem_of_mem_take ht)
 by_cases e1:(x.size - 1 == 0)=true
 ·rw [if_pos e1]
  exact ba9 (h _ st (Gq.refl st) (m0.done (.inl (by simpa using e1))))
 ·rw [if_neg e1]
  have e1:x.size - 1 ≠ 0:=by simpa using e1
  by_cases e2:(y.size == 1)=true
  ·rw [if_pos e2]
   exact ba9 (h _ st (Gq.refl st) (m0.frst y0 hf (by simpa using e2)))
  ·rw [if_neg e2]
   have e2:y.size ≠ 1:=by simpa using e2
   refine ba0 (wpS_get ?_)
   unfold M0
   refine ba0 (bo2 (bi0
    (I:=fun n c st'=>Gq st st'/\∃ i j o mg,c=(none,i,j,o,mg)/\HB rk x y (n+1) i j o)
    (Q:=fun c st'=>Gq st st'/\∃ r i j o mg,c=(some r,i,j,o,mg)/\dI rk x y r) ?_ ?_ ⟨Gq.refl st,_,_,_,_,rfl,m0,by omega,by omega,by omega,by omega,by omega⟩) ?_)
   ·rintro n c1 st1 _ hn ⟨q1,i,j,o,mg,rfl,b⟩
    dsimp only
    refine ba0 (aA7 c hk ox oy sx sy y0 hf q1 b (fun r o' i' j' p q st' g md=>ba9 ⟨g,r,_,_,_,_,rfl,md⟩) fun i' j' o' p q st' g b'=>?_)
    refine ba0 (wpS_lift (bm5 ⟨rfl,?_⟩))
    refine ba0 (bo2 (aA6 c hk ox oy sx sy y0 hf g b') ?_)
    rintro c3 st3 ⟨q3,⟨r,i3,j3,o,mg,p,q,rfl,md⟩ | ⟨i3,j3,o,mg,p,q,rfl,b3⟩⟩
    ·exact ba9 ⟨q3,r,_,_,_,_,rfl,md⟩
    ·exact ba0 (qJ q3 fun st4 q4=>ba9 ⟨q4,i3,j3,o,_,rfl,b3⟩)
   ·rintro c1 st1 ⟨q1,i,j,o,mg,rfl,b⟩
    have:=b.pr
    exact absurd this (by omega)
   ·rintro c1 st1 ⟨q1,r,i,j,o,mg,rfl,md⟩
    exact ba9 (h r _ q1 md)
end
theorem aA9 (i:Nat):mergeAt' i=(do
 let z <- get
 let (some (sa,na,pw),some (sb,nb,_)):=((pendingOf z)[i]?,(pendingOf z)[i+1]?) | unsupported "internal:list.sort.pending"
 set (SortSt.mk' (kindOf z) (arrOf z) (((pendingOf z).setIfInBounds i (sa,na+nb,pw)).eraseIdxIfInBounds (i+1)) (gallopOf z) (failedOf z))
 let some k <- jF false (<- elem' (arrOf z) sb) (arrOf z) sa na 0 | return false
 let (sa,na):=(sa+k,na - k)
 if na == 0 then return true
 let some nb <- jF true (<- elem' (arrOf z) (sa+na - 1)) (arrOf z) sb nb (nb - 1) | return false
 if nb == 0 then return true
 let x:=(arrOf z).extract sa sb
 let y:=(arrOf z).extract sb (sb+nb)
 let m <- if na<=nb then vN x y else vR x y
 modify fun z=>setArr z (m.toList.zipIdx.foldl (fun a (p,j)=>a.setIfInBounds (sa+j) p) (arrOf z))
 return (failedOf (<- get)).isNone):=rfl
variable {rk : Keyed → Int}
theorem aB0 {σ:Type}{M:Model}{A:Around}{E:Value->Shared->Prop}{s:Shared}{a b:σ}{Q:PUnit->σ->Prop} (h:Q ⟨⟩ a):wpS M A E s (set a:StateT σ Sem PUnit) Q b:=by
 unfold wpS; rw [StateT.run_set]; exact aZ5 ⟨rfl,h⟩
theorem M5 (o:Nat):∀ (m:List Keyed) (n:Nat) (a:Array Keyed) (t:Nat),o+n+m.length<=a.size->
  ((m.zipIdx n).foldl (fun a (p,j)=>a.setIfInBounds (o+j) p) a)[t]? = if o+n<=t/\t < o+n+m.length then m[t - (o+n)]? else a[t]?
 | [],n,a,t,_=>by
  show a[t]? = _
  rw [if_neg (fun z=>Nat.not_lt_of_ge z.1 z.2)]
 | p :: m,n,a,t,h=>by
  rw [List.zipIdx_cons,List.foldl_cons]
  have h':o+(n+1)+m.length<=(a.setIfInBounds (o+n) p).size:=by rw [Array.size_setIfInBounds]; simp at h; omega
  have ih:=M5 o m (n+1) (a.setIfInBounds (o+n) p) t h'
  refine ih.trans ?_
  have hs:o+n < a.size:=by simp at h; omega
  rw [Array.getElem?_setIfInBounds]
  by_cases e:o+n=t
  ·subst e
   rw [if_neg (by omega),if_pos rfl,if_pos hs,if_pos (by simp),Nat.sub_self]; rfl
  ·rw [if_neg e]
   by_cases c:o+n<=t/\t < o+n+(p :: m).length
   ·rw [if_pos c,if_pos (by simp at c; omega)]
    rw [show t - (o+n)=(t - (o+(n+1)))+1 by omega]; rfl
   ·rw [if_neg c,if_neg (by simp at c ⊢; omega)]
theorem M6 {a:Array Keyed}{lo hi:Nat} (u:Up rk a lo hi) (hh:hi<=a.size):Sd rk (a.extract lo hi).toList:=by
 unfold Sd
 rw [bd3]
 intro i j hi' hj hij
 have h2:lo+j < hi:=by simp at hj; omega
 have:=u (lo+i) (lo+j) (by omega) (by omega) h2
 rw [bX (by omega:lo+i < a.size),bX (by omega:lo+j < a.size)] at this
 simpa using this
theorem M7 {a:Array Keyed}{lo mid hi:Nat} (u:Up rk a lo mid) (v:Up rk a mid hi) (h0:lo < mid) (h1:mid < hi) (h:Kr rk a (mid - 1)<=Kr rk a mid):Up rk a lo hi:=fun i j hi' hij hj=>by
 rcases bd1 j mid with z | z
 ·exact u i j hi' hij z
 ·rcases bd1 i mid with y | y
  ·have a1:=u i (mid - 1) hi' (by omega) (by omega)
   have a2:=v mid j (aZ3 _) z hj
   omega
  ·exact v i j y hij hj
theorem M8 {a:Array Keyed}{lo hi t:Nat} (h:t < hi - lo) (hh:hi<=a.size):Kr rk (a.extract lo hi) t=Kr rk a (lo+t):=by
 refine kA ?_
 rw [Array.getElem?_extract_of_lt (by omega)]
 exact (getElem?_pos a (lo+t) (by omega)).symm
section
variable {κ : SortKind} {a0 : Array Keyed} {pd : Array (Nat × Nat × Nat)} {st : SortSt} {prog : Program} {w : World} {A : Around} {E : Value → Shared → Prop} {s : Shared} {Ok : Keyed → Prop}
theorem aB1 {a m:Array Keyed}{p x e:Nat} (hpx:p<=x) (hxe:x<=e) (he:e<=a.size) (md:dI rk (a.extract p x) (a.extract x e) m) :
  let r:=m.toList.zipIdx.foldl (fun a (q,j)=>a.setIfInBounds (p+j) q) a
  r.Perm a/\(∀ t,(t < p ∨ e<=t)->Kr rk r t=Kr rk a t)/\(∀ t t',p<=t->t<=t'->t' < e->Kr rk r t<=Kr rk r t')/\∀ t,p<=t->t < e->∃ t',p<=t'/\t' < e/\Kr rk r t=Kr rk a t':=by
 intro r
 have ml:m.toList.length=e - p:=by
  rw [md.1.length_eq]; simp; omega
 have g:∀ t,r[t]? = if p<=t/\t < e then m[t - p]? else a[t]?:=fun t=>by
  have:=M5 p m.toList 0 a t (by omega)
  rw [show r=(m.toList.zipIdx 0).foldl (fun a (q,j)=>a.setIfInBounds (p+j) q) a from rfl,this]
  simp only [Nat.add_zero,ml,show p+(e - p)=e by omega,bi5]
 have ex:(a.extract p x).toList ++ (a.extract x e).toList=(a.toList.take e).drop p:=by
  rw [kD,kD,bo6,bo6,bo6]
  rw [show x=p+(x - p) by omega,<- List.drop_drop,show p+(x - p) - p=x - p by omega,show e - (p+(x - p))=(e - p) - (x - p) by omega]
  have:=be5 (x - p) ((a.toList.drop p).take (e - p))
  rw [List.take_take,bo6,Nat.min_eq_left (by omega)] at this
  exact this
 have rl:r.toList=a.toList.take p ++ (m.toList ++ a.toList.drop e):=by
  apply List.ext_getElem?
  intro t
  rw [bi5,g]
  rcases bd1 t p with z | z
  ·rw [if_neg (by omega),bd2 (by simp; omega),List.getElem?_take_of_lt z,bi5]
  ·rw [be2 (by simp; omega)]
   have lp:(a.toList.take p).length=p:=by simp; omega
   rw [lp]
   rcases bd1 t e with y | y
   ·rw [if_pos ⟨z,y⟩,bd2 (by omega),bi5]
   ·rw [if_neg (by omega),be2 (by omega),ml,List.getElem?_drop,bi5]
    congr 1; omega
 have mp:m.toList.Perm ((a.toList.take e).drop p):=ex ▸ md.1
 refine⟨?_,fun t ht=>kA (by rw [g,if_neg (by omega)]),fun t t' h1 h2 h3=>?_,fun t h1 h2=>?_⟩
 ·refine Array.perm_iff_toList_perm.mpr ?_
  rw [rl]
  have:a.toList=a.toList.take p ++ ((a.toList.take e).drop p ++ a.toList.drop e):=by
   rw [vV _ (by omega:p<=e)]; exact (be5 p _).symm
  conv=>rhs; rw [this]
  exact (mp.append_right _).append_left _
 ·have e1:Kr rk r t=Kr rk m (t - p):=kA (by rw [g,if_pos (by omega)])
  have e2:Kr rk r t'=Kr rk m (t' - p):=kA (by rw [g,if_pos (by omega)])
  rw [e1,e2]
  have ms:m.size=e - p:=by rw [<- ml]; simp
  exact md.2.up 0 m.size (aZ3 _) (t - p) (t' - p) (by omega) (by omega) (by omega)
 ·have e1:Kr rk r t=Kr rk m (t - p):=kA (by rw [g,if_pos (by omega)])
  have ms:m.size=e - p:=by rw [<- ml]; simp
  have hm:t - p < m.size:=by omega
  have mm:m[t - p] ∈ (a.toList.take e).drop p:=mp.mem_iff.mp (by simp)
  obtain ⟨t',q1,q2,q3,q4⟩:=o9 (rk:=rk) mm
  exact⟨t',q1,q2,by rw [e1,bX hm]; exact q4⟩
theorem aB2 (c:bT prog w A E s κ Ok rk) (o:bE Ok a0) (b:SB κ a0 pd st) {i sa na pw sb nb pw':Nat}{Q:Bool->SortSt->Prop} (e1:pd[i]? = some (sa,na,pw)) (e2:pd[i+1]? = some (sb,nb,pw')) (hs:sb=sa+na) (n0:0 < na) (m0:0 < nb) (hz:sb+nb<=a0.size)
  (u:Up rk (arrOf st) sa sb) (v:Up rk (arrOf st) sb (sb+nb))
  (h:∀ st',SB κ a0 ((pd.setIfInBounds i (sa,na+nb,pw)).eraseIdxIfInBounds (i+1)) st'->Up rk (arrOf st') sa (sb+nb)->(∀ t,(t < sa ∨ sb+nb<=t)->Kr rk (arrOf st') t=Kr rk (arrOf st) t)->Q true st'):wpS (model prog w) A E s (mergeAt' i) Q st:=by
 have sz:=b.sz
 rw [aA9]
 refine ba0 (wpS_get ?_)
 rw [b.pd,e1,e2]
 dsimp only
 refine ba0 (aB0 ?_)
 generalize hst:SortSt.mk' (kindOf st) (arrOf st) ((pd.setIfInBounds i (sa,na+nb,pw)).eraseIdxIfInBounds (i+1)) (gallopOf st) (failedOf st)=st1
 have b1:SB κ a0 ((pd.setIfInBounds i (sa,na+nb,pw)).eraseIdxIfInBounds (i+1)) st1:=by rw [<- hst]; exact⟨b.pm,b.kd,b.ok,rfl⟩
 have ar:arrOf st1=arrOf st:=by rw [<- hst]
 have oa:=b.all o
 have hsb:sb < (arrOf st).size:=by omega
 refine ba0 (cN hsb (ba0 (lR c b1.kd (oa _ (be4 hsb)) oa n0 (by omega) (hs ▸ u) fun k k1 k2 k3=>?_)))
 dsimp only
 have k2':∀ t,sa<=t->t < sa+k->Kr rk (arrOf st) t<=Kr rk (arrOf st) sb:=fun t t1 t2=>by
  have:=k2 (t - sa) (by omega)
  rw [lT,bc0,show sa+(t - sa)=t by omega] at this
  rw [bX hsb]; exact this
 have k3':∀ t,sa+k<=t->t < sb->Kr rk (arrOf st) sb < Kr rk (arrOf st) t:=fun t t1 t2=>by
  have:=k3 (t - sa) (by omega) (by omega)
  rw [lT,bk6,show sa+(t - sa)=t by omega] at this
  rw [bX hsb]; omega
 by_cases ek:(na - k == 0)=true
 ·rw [if_pos ek]
  have ek:na - k=0:=by simpa using ek
  refine ba9 (h st1 b1 ?_ fun t _=>by rw [ar])
  rw [ar]
  exact M7 u v (by omega) (by omega) (k2' (sb - 1) (by omega) (by omega))
 ·rw [if_neg ek]
  have ek:na - k ≠ 0:=by simpa using ek
  have el:sa+k+(na - k) - 1=sb - 1:=by omega
  rw [el]
  have hsl:sb - 1 < (arrOf st).size:=by omega
  refine ba0 (cN hsl (ba0 (lR c b1.kd (oa _ (be4 hsl)) oa (by omega) (by omega) v fun l l1 l2 l3=>?_)))
  dsimp only
  have l2':∀ t,sb<=t->t < sb+l->Kr rk (arrOf st) t < Kr rk (arrOf st) (sb - 1):=fun t t1 t2=>by
   have:=l2 (t - sb) (by omega)
   rw [lU,bc0,show sb+(t - sb)=t by omega] at this
   rw [bX hsl]; exact this
  have l3':∀ t,sb+l<=t->t < sb+nb->Kr rk (arrOf st) (sb - 1)<=Kr rk (arrOf st) t:=fun t t1 t2=>by
   have:=l3 (t - sb) (by omega) (by omega)
   rw [lU,bk6,show sb+(t - sb)=t by omega] at this
   rw [bX hsl]; omega
  by_cases en:(l == 0)=true
  ·rw [if_pos en]
   have en:l=0:=by simpa using en
   subst en
   refine ba9 (h st1 b1 ?_ fun t _=>by rw [ar])
   rw [ar]
   exact M7 u v (by omega) (by omega) (l3' sb (by omega) (by omega))
  ·rw [if_neg en]
   have en:l ≠ 0:=by simpa using en
   have sub:∀ p e,bE Ok ((arrOf st).extract p e):=fun p e z hz=>oa z (by
    have:z ∈ ((arrOf st).extract p e).toList:=Array.mem_toList_iff.mpr hz
    rw [kD] at this
    exact Array.mem_toList_iff.mp (List.mem_of_mem_take (List.mem_of_mem_drop this)))
   have sx:Sd rk ((arrOf st).extract (sa+k) sb).toList:=M6 (fun i j h1 h2 h3=>u i j (by omega) h2 h3) (by omega)
   have sy:Sd rk ((arrOf st).extract sb (sb+l)).toList:=M6 (fun i j h1 h2 h3=>v i j h1 h2 (by omega)) (by omega)
   have x0:0 < ((arrOf st).extract (sa+k) sb).size:=by simp; omega
   have y0:0 < ((arrOf st).extract sb (sb+l)).size:=by simp; omega
   have hf:∀ t ∈ ((arrOf st).extract (sa+k) sb).toList,rk ((arrOf st).extract sb (sb+l))[0]<=rk t:=fun t ht=>by
    rw [kD] at ht
    obtain ⟨t',q1,q2,q3,q4⟩:=o9 (rk:=rk) ht
    rw [q4,<- bX (rk:=rk) y0,M8 (by omega) (by omega)]
    exact Int.le_of_lt (k3' t' q1 q2)
   have hl:∀ t ∈ ((arrOf st).extract sb (sb+l)).toList,rk t<=rk ((arrOf st).extract (sa+k) sb)[((arrOf st).extract (sa+k) sb).size - 1]:=fun t ht=>by
    rw [kD] at ht
    obtain ⟨t',q1,q2,q3,q4⟩:=o9 (rk:=rk) ht
    have e:((arrOf st).extract (sa+k) sb).size=sb - (sa+k):=by simp; omega
    rw [q4,<- bX (rk:=rk) (by omega),M8 (by omega) (by omega),e,show sa+k+(sb - (sa+k) - 1)=sb - 1 by omega]
    exact Int.le_of_lt (l2' t' q1 q2)
   have fin:∀ (m:Array Keyed) (st2:SortSt),Gq st1 st2->dI rk ((arrOf st).extract (sa+k) sb) ((arrOf st).extract sb (sb+l)) m->
     wpS (model prog w) A E s (do modify (fun z=>setArr z (m.toList.zipIdx.foldl (fun a (p,j)=>a.setIfInBounds (sa+k+j) p) (arrOf z))); return (failedOf (<- get)).isNone) Q st2:=fun m st2 g md=>by
    have b2:SB κ a0 ((pd.setIfInBounds i (sa,na+nb,pw)).eraseIdxIfInBounds (i+1)) st2:=⟨by rw [g.ar]; exact b1.pm,g.kd.trans b1.kd,g.ok.trans b1.ok,g.pd.trans b1.pd⟩
    have a2:arrOf st2=arrOf st:=g.ar.trans ar
    obtain ⟨r1,r2,r3,r4⟩:=aB1 (by omega) (by omega) (by omega) md
    generalize hr:m.toList.zipIdx.foldl (fun a (q,j)=>a.setIfInBounds (sa+k+j) q) (arrOf st)=r at r1 r2 r3 r4
    refine ba0 (wpS_modify (ba0 (wpS_get (ba9 ?_))))
    have b3:=b2.put (xs:=m.toList.zipIdx.foldl (fun a (q,j)=>a.setIfInBounds (sa+k+j) q) (arrOf st2)) (by rw [a2,hr]; exact r1)
    have er:arrOf (setArr st2 (m.toList.zipIdx.foldl (fun a (q,j)=>a.setIfInBounds (sa+k+j) q) (arrOf st2)))=r:=by rw [<- hr,a2]
    have tr:(failedOf (setArr st2 (m.toList.zipIdx.foldl (fun a (q,j)=>a.setIfInBounds (sa+k+j) q) (arrOf st2)))).isNone=true:=by rw [b3.ok]; rfl
    rw [tr]
    refine h _ b3 (fun i j hi hij hj=>?_) fun t ht=>?_
    ·rw [er]
     have bl:∀ t,sa<=t->t < sa+k->∀ t',sa+k<=t'->t' < sb+l->Kr rk (arrOf st) t<=Kr rk (arrOf st) t':=fun t t1 t2 t' t3 t4=>by
      rcases bd1 t' sb with z | z
      ·exact u t t' t1 (by omega) z
      ·have a1:=k2' t t1 t2
       have a2:=v sb t' (aZ3 _) z (by omega)
       omega
     have br:∀ t,sb+l<=t->t < sb+nb->∀ t',sa+k<=t'->t' < sb+l->Kr rk (arrOf st) t'<=Kr rk (arrOf st) t:=fun t t1 t2 t' t3 t4=>by
      rcases bd1 t' sb with z | z
      ·have a1:=u t' (sb - 1) (by omega) (by omega) (by omega)
       have a2:=l3' t t1 t2
       omega
      ·exact v t' t z (by omega) t2
     have blr:∀ t,sa<=t->t < sa+k->∀ t',sb+l<=t'->t' < sb+nb->Kr rk (arrOf st) t<=Kr rk (arrOf st) t':=fun t t1 t2 t' t3 t4=>by
      have a1:=bl t t1 t2 (sb - 1) (by omega) (by omega)
      have a2:=l3' t' t3 t4
      omega
     rcases bd1 i (sa+k) with z | z
     ·rw [r2 i (.inl z)]
      rcases bd1 j (sa+k) with y | y
      ·rw [r2 j (.inl y)]; exact u i j hi hij (by omega)
      ·rcases bd1 j (sb+l) with x | x
       ·obtain ⟨t',q1,q2,q3⟩:=r4 j y x
        rw [q3]; exact bl i hi z t' q1 q2
       ·rw [r2 j (.inr x)]; exact blr i hi z j x hj
     ·rcases bd1 j (sb+l) with x | x
      ·exact r3 i j z hij x
      ·rw [r2 j (.inr x)]
       rcases bd1 i (sb+l) with y | y
       ·obtain ⟨t',q1,q2,q3⟩:=r4 i z y
        rw [q3]; exact br j x hj t' q1 q2
       ·rw [r2 i (.inr y)]; exact v i j (by omega) hij hj
    ·rw [er]; exact r2 t (by omega)
   by_cases hle:na - k<=l
   ·rw [if_pos hle]
    exact ba0 (aA4 c b1.kd (sub _ _) (sub _ _) sx sy x0 y0 hf hl fun m st2 g md=>fin m st2 g md)
   ·rw [if_neg hle]
    exact ba0 (aA8 c b1.kd (sub _ _) (sub _ _) sx sy x0 y0 hf hl fun m st2 g md=>fin m st2 g md)
end
def Ch:Nat->List (Nat × Nat)->Nat->Prop
 | a,[],b=>a=b
 | a,(p,n) :: r,b=>p=a/\0 < n/\Ch (a+n) r b
theorem Ch.split:∀ {l l':List (Nat × Nat)}{a b:Nat},Ch a (l ++ l') b->∃ m,Ch a l m/\Ch m l' b
 | [],_,a,_,h=>⟨a,rfl,h⟩
 | (p,n) :: l,l',a,b,h=>by
  obtain ⟨h1,h2,h3⟩:=h
  obtain ⟨m,q1,q2⟩:=Ch.split h3
  exact⟨m,⟨h1,h2,q1⟩,q2⟩
theorem Ch.join:∀ {l l':List (Nat × Nat)}{a m b:Nat},Ch a l m->Ch m l' b->Ch a (l ++ l') b
 | [],_,a,m,_,h,h'=>by cases (show a=m from h); exact h'
 | (p,n) :: l,l',a,m,b,h,h'=>⟨h.1,h.2.1,Ch.join h.2.2 h'⟩
theorem Ch.len:∀ {l:List (Nat × Nat)}{a b:Nat},Ch a l b->a+l.length<=b
 | [],a,b,h=>by cases (show a=b from h); simp
 | (p,n) :: l,a,b,h=>by
  have:=Ch.len h.2.2
  have:=h.2.1
  simp; omega
theorem Ch.mem:∀ {l:List (Nat × Nat)}{a b:Nat}{r:Nat × Nat},Ch a l b->r ∈ l->a<=r.1/\r.1+r.2<=b/\0 < r.2
 | (p,n) :: l,a,b,r,h,hr=>by
  obtain ⟨h1,h2,h3⟩:=h
  have hb:=Ch.len h3
  rcases aZ6.mp hr with e | e
  ·subst e
   have h1:p=a:=h1
   refine⟨?_,?_,h2⟩
   ·show a<=p; omega
   ·show p+n<=b; omega
  ·have:=Ch.mem h3 e
   exact⟨by omega,this.2.1,this.2.2⟩
def sk (pd:Array (Nat × Nat × Nat)):List (Nat × Nat):=pd.toList.map fun r=>(r.1,r.2.1)
theorem qP (pd:Array (Nat × Nat × Nat)):(sk pd).length=pd.size:=by simp [sk]
structure Rn (rk:Keyed->Int) (a:Array Keyed) (l:List (Nat × Nat)) (lo:Nat):Prop where
 ch:Ch 0 l lo
 up:∀ r ∈ l,Up rk a r.1 (r.1+r.2)
variable {rk : Keyed → Int} {κ : SortKind} {a0 : Array Keyed} {pd : Array (Nat × Nat × Nat)} {st : SortSt} {prog : Program} {w : World} {A : Around} {E : Value → Shared → Prop} {s : Shared} {Ok : Keyed → Prop}
theorem Rn.same {a b:Array Keyed}{l:List (Nat × Nat)}{lo:Nat} (h:Rn rk a l lo) (e:∀ t,t < lo->Kr rk b t=Kr rk a t):Rn rk b l lo:=⟨h.ch,fun r hr i j hi hij hj=>by
 have:=(h.ch.mem hr).2.1
 rw [e i (by omega),e j (by omega)]
 exact h.up r hr i j hi hij hj⟩
theorem M9 (c:bT prog w A E s κ Ok rk) (o:bE Ok a0) (b:SB κ a0 pd st) {i lo:Nat}{Q:Bool->SortSt->Prop} (hi:i+1 < pd.size) (hz:lo<=a0.size) (rn:Rn rk (arrOf st) (sk pd) lo)
  (h:∀ pd' st',SB κ a0 pd' st'->pd'.size+1=pd.size->Rn rk (arrOf st') (sk pd') lo->(∀ t,lo<=t->Kr rk (arrOf st') t=Kr rk (arrOf st) t)->Q true st'):wpS (model prog w) A E s (mergeAt' i) Q st:=by
 obtain ⟨⟨sa,na,pw⟩,e1⟩:∃ r,pd[i]? = some r:=⟨pd[i],getElem?_pos pd i (by omega)⟩
 obtain ⟨⟨sb,nb,pw'⟩,e2⟩:∃ r,pd[i+1]? = some r:=⟨pd[i+1],getElem?_pos pd (i+1) hi⟩
 have d1:pd.toList=pd.toList.take i ++ (sa,na,pw) :: (sb,nb,pw') :: pd.toList.drop (i+2):=by
  have hl:i < pd.toList.length:=by simp; omega
  have hl2:i+1 < pd.toList.length:=by simpa using hi
  have g1:pd.toList[i]=(sa,na,pw):=by rw [getElem?_pos pd i (by omega)] at e1; simpa using e1
  have g2:pd.toList[i+1]=(sb,nb,pw'):=by rw [getElem?_pos pd (i+1) hi] at e2; simpa using e2
  have:=be5 i pd.toList
  rw [List.drop_eq_getElem_cons hl,List.drop_eq_getElem_cons hl2,g1,g2] at this
  exact this.symm
 have li:(pd.toList.take i).length=i:=by simp; omega
 have d2:((pd.setIfInBounds i (sa,na+nb,pw)).eraseIdxIfInBounds (i+1)).toList=pd.toList.take i ++ (sa,na+nb,pw) :: pd.toList.drop (i+2):=by
  have e:((pd.setIfInBounds i (sa,na+nb,pw)).eraseIdxIfInBounds (i+1)).toList=(pd.toList.set i (sa,na+nb,pw)).eraseIdx (i+1):=by
   unfold Array.eraseIdxIfInBounds
   rw [dif_pos (by rw [Array.size_setIfInBounds]; exact hi),Array.toList_eraseIdx,Array.toList_setIfInBounds]
  rw [e]
  conv=>lhs; rw [d1]
  rw [List.set_append_right _ _ (by omega),li,Nat.sub_self,List.set_cons_zero,List.eraseIdx_append_of_length_le (by omega),li,show i+1 - i=1 by omega]
  rfl
 have k1:sk pd=(pd.toList.take i).map (fun r=>(r.1,r.2.1)) ++ (sa,na) :: (sb,nb) :: (pd.toList.drop (i+2)).map (fun r=>(r.1,r.2.1)):=by
  unfold sk; conv=>lhs; rw [d1]
  simp
 have k2:sk ((pd.setIfInBounds i (sa,na+nb,pw)).eraseIdxIfInBounds (i+1))=(pd.toList.take i).map (fun r=>(r.1,r.2.1)) ++ (sa,na+nb) :: (pd.toList.drop (i+2)).map (fun r=>(r.1,r.2.1)):=by
  unfold sk; rw [d2]
  simp
 have ch:=rn.ch
 rw [k1] at ch
 obtain ⟨m,c1,c2⟩:=ch.split
 obtain ⟨f1,f2,f3,f4,f5⟩:=c2
 have f1:sa=m:=f1
 have f3:sb=m+na:=f3
 have up:=rn.up
 rw [k1] at up
 have lo2:=f5.len
 refine aB2 c o b e1 e2 (by omega) f2 f4 (by omega) (by have:=up (sa,na) (by simp); rw [f3,<- f1]; exact this) (up (sb,nb) (by simp)) fun st' b' u' fr=>h _ st' b' ?_ ⟨?_,?_⟩ fun t ht=>fr t (by omega)
 ·rw [<- qP,<- qP,k1,k2]; simp; omega
 ·rw [k2]
  refine c1.join ⟨f1,by omega,?_⟩
  rw [<- Nat.add_assoc]; exact f5
 ·intro r hr
  rw [k2] at hr
  rcases bb3.mp hr with z | z
  ·intro p q h1 h2 h3
   have:=(c1.mem z).2.1
   rw [fr p (by omega),fr q (by omega)]
   exact up r (be7 _ z) p q h1 h2 h3
  ·rcases aZ6.mp z with z | z
   ·subst z
    show Up rk (arrOf st') sa (sa+(na+nb))
    rw [show sa+(na+nb)=sb+nb by omega]; exact u'
   ·intro p q h1 h2 h3
    have:=(f5.mem z).1
    rw [fr p (by omega),fr q (by omega)]
    exact up r (bc3 _ (bb0 _ (bb0 _ z))) p q h1 h2 h3
abbrev RS:=Option Unit × Nat
def N0 (sz pw:Nat):StateT SortSt Sem (Option Unit × Unit):=forIn [0:sz] ((none,()):Option Unit × Unit) fun _ _=>do
 let z <- get
 match (if (pendingOf z).size > 1 then (pendingOf z)[(pendingOf z).size - 2]? else none) with
 | some (_,_,o)=>if o<=pw then pure (.done (none,())) else do
   let q <- mergeAt' ((pendingOf z).size - 2)
   if (!q)=true then pure (.done (some (),())) else pure (.yield (none,()))
 | _=>pure (.done (none,()))
def jn (sz lo n:Nat):StateT SortSt Sem (ForInStep RS):=do
 let z <- get
 match (pendingOf z).back? with
 | some (s1,n1,_)=>do
  let r <- N0 sz (power' sz (2 * s1+n1) (2 * s1+n1+n1+n) sz)
  match r.1 with
  | some u=>pure (.done (some u,lo))
  | none=>do
   modify fun s=>setPending s ((pendingOf s).modify ((pendingOf s).size - 1) fun x=>(x.1,x.2.1,power' sz (2 * s1+n1) (2 * s1+n1+n1+n) sz))
   modify fun s=>setPending s ((pendingOf s).push (lo,n,0))
   pure (.yield (none,lo+n))
 | _=>do
  modify fun s=>setPending s ((pendingOf s).push (lo,n,0))
  pure (.yield (none,lo+n))
def N1 (sz mr lo:Nat):StateT SortSt Sem (ForInStep RS):=if lo >= sz then pure (.done (none,lo)) else do
 match <- countRun' lo (sz - lo) with
 | some n=>
  if n < mr then
   liftM (rule "list.sort.binary-insertion")
   let q <- binarySort' lo (min (sz - lo) mr) n
   if (!q)=true then pure (.done (some (),lo)) else jn sz lo (min (sz - lo) mr)
  else jn sz lo n
 | _=>pure (.done (some (),lo))
def N2 (sz:Nat):StateT SortSt Sem (Option Unit × Unit):=forIn [0:sz] ((none,()):Option Unit × Unit) fun _ _=>do
 let z <- get
 if (pendingOf z).size<=1 then pure (.done (none,())) else do
  let q <- mergeAt' (if ((if (pendingOf z).size - 2 > 0 then (pendingOf z)[(pendingOf z).size - 2 - 1]?.map (·.2.1) else none).any (· < ((pendingOf z)[(pendingOf z).size - 2+1]?.elim 0 (·.2.1))))=true then (pendingOf z).size - 2 - 1 else (pendingOf z).size - 2)
  if (!q)=true then pure (.done (some (),())) else pure (.yield (none,()))
theorem aB3:sortRuns'=(do
 let z <- get
 let r <- (forIn [0:(arrOf z).size] ((none,0):RS) fun _ r=>N1 (arrOf z).size (minRun' (arrOf z).size (arrOf z).size 0) r.2)
 match r.1 with
 | some u=>pure u
 | none=>do
  let q <- N2 (arrOf z).size
  match q.1 with
  | some u=>pure u
  | none=>pure ()):=by kernel_rfl
theorem N3 {lo nn:Nat} (n1:0 < nn) {pd:Array (Nat × Nat × Nat)}{a:Array Keyed} (r:Rn rk a (sk pd) lo) (u:Up rk a lo (lo+nn)):Rn rk a (sk (pd.push (lo,nn,0))) (lo+nn):=by
 have e:sk (pd.push (lo,nn,0))=sk pd ++ [(lo,nn)]:=by simp [sk]
 refine⟨by rw [e]; exact r.ch.join ⟨rfl,n1,rfl⟩,fun q hq=>?_⟩
 rw [e] at hq
 rcases bb3.mp hq with z | z
 ·exact r.up q z
 ·rw [aZ4] at z
  subst z
  exact u
theorem N4 (c:bT prog w A E s κ Ok rk) (o:bE Ok a0) (b:SB κ a0 pd st) {lo n:Nat}{Q:ForInStep RS->SortSt->Prop} (n1:1<=n) (n2:lo+n<=a0.size) (rn:Rn rk (arrOf st) (sk pd) lo) (u:Up rk (arrOf st) lo (lo+n))
  (h:∀ pd' st',SB κ a0 pd' st'->Rn rk (arrOf st') (sk pd') (lo+n)->Q (.yield (none,lo+n)) st'):wpS (model prog w) A E s (jn a0.size lo n) Q st:=by
 unfold jn
 refine ba0 (wpS_get ?_)
 rw [b.pd]
 cases hb:pd.back? with
 | none=>exact ba0 (wpS_modify (ba9 (h (pd.push (lo,n,0)) _ ⟨b.pm,b.kd,b.ok,by show (pendingOf st).push _=_; rw [b.pd]⟩ (N3 n1 rn u))))
 | some q=>
  obtain ⟨s1,m1,q3⟩:=q
  dsimp only
  generalize power' a0.size (2 * s1+m1) (2 * s1+m1+m1+n) a0.size=pw
  unfold N0
  refine ba0 (bo2 (bi0
   (I:=fun _ r st'=>r=(none,())/\∃ pd,SB κ a0 pd st'/\Rn rk (arrOf st') (sk pd) lo/\Up rk (arrOf st') lo (lo+n))
   (Q:=fun r st'=>r=(none,())/\∃ pd,SB κ a0 pd st'/\Rn rk (arrOf st') (sk pd) lo/\Up rk (arrOf st') lo (lo+n)) ?_ (fun _ _ z=>z) ⟨rfl,pd,b,rn,u⟩) ?_)
  ·rintro t r st4 _ ht ⟨rfl,pd4,b4,r4,u4⟩
   refine ba0 (wpS_get ?_)
   rw [b4.pd]
   cases ho:(if pd4.size > 1 then pd4[pd4.size - 2]? else none) with
   | none=>exact ba9 ⟨rfl,pd4,b4,r4,u4⟩
   | some z=>
    obtain ⟨z1,z2,z3⟩:=z
    have h1:pd4.size > 1:=by
     by_cases y:pd4.size > 1
     ·exact y
     ·rw [if_neg y] at ho; cases ho
    dsimp only
    by_cases hp:z3<=pw
    ·rw [if_pos hp]
     exact ba9 ⟨rfl,pd4,b4,r4,u4⟩
    ·rw [if_neg hp]
     refine ba0 (M9 c o b4 (by omega) (by omega) r4 fun pd5 st5 b5 _ r5 f5=>?_)
     exact ba9 ⟨rfl,pd5,b5,r5,fun i j hi hij hj=>by rw [f5 i hi,f5 j (by omega)]; exact u4 i j hi hij hj⟩
  ·rintro r st4 ⟨rfl,pd4,b4,r4,u4⟩
   refine ba0 (wpS_modify (ba0 (wpS_modify (ba9 ?_))))
   have e:sk (pd4.modify (pd4.size - 1) fun x=>(x.1,x.2.1,pw))=sk pd4:=by
    unfold sk
    rw [Array.toList_modify]
    apply List.ext_getElem?
    intro t
    rw [ba1,ba1,List.getElem?_modify]
    cases pd4.toList[t]? with
    | none=>simp
    | some v=>by_cases y:pd4.size - 1=t <;> simp [y]
   refine h ((pd4.modify (pd4.size - 1) fun x=>(x.1,x.2.1,pw)).push (lo,n,0)) _ ⟨b4.pm,b4.kd,b4.ok,?_⟩ (N3 n1 (by rw [e]; exact r4) u4)
   show ((pendingOf st4).modify ((pendingOf st4).size - 1) fun x=>(x.1,x.2.1,pw)).push _=_
   rw [b4.pd]
theorem aB4 (c:bT prog w A E s κ Ok rk) (o:bE Ok a0) (b:SB κ a0 #[] st) {Q:Unit->SortSt->Prop} (h2:1<=a0.size)
  (h:∀ st',(arrOf st').Perm a0->failedOf st'=none->Up rk (arrOf st') 0 a0.size->Q () st'):wpS (model prog w) A E s sortRuns' Q st:=by
 rw [aB3]
 refine ba0 (wpS_get ?_)
 rw [b.sz]
 generalize minRun' a0.size a0.size 0=mr
 refine ba0 (bo2 (bi0
  (I:=fun x r st'=>∃ lo pd,r=(none,lo)/\x<=lo/\lo<=a0.size/\SB κ a0 pd st'/\Rn rk (arrOf st') (sk pd) lo)
  (Q:=fun r st'=>∃ pd,r=(none,a0.size)/\SB κ a0 pd st'/\Rn rk (arrOf st') (sk pd) a0.size) ?_ ?_ ⟨0,#[],rfl,aZ3 _,be8 _,b,⟨rfl,fun r hr=>absurd hr (by simp [sk])⟩⟩) ?_)
 ·rintro x r st1 _ hx ⟨lo,pd,rfl,xl,lz,b1,rn⟩
  unfold N1
  dsimp only
  by_cases hd:lo >= a0.size
  ·rw [if_pos hd]
   have e:lo=a0.size:=by omega
   subst e
   exact ba9 ⟨pd,rfl,b1,rn⟩
  ·rw [if_neg hd]
   refine ba0 (az7 c o b1 (by omega) (by omega) fun n st2 b2 n1 n2 u2 l2=>?_)
   have rn2:=rn.same l2
   dsimp only
   by_cases hmr:n < mr
   ·rw [if_pos hmr]
    refine ba0 (wpS_lift (bm5 ⟨rfl,?_⟩))
    refine ba0 (az8 c o b2 (by omega) (by omega) u2 fun st3 b3 u3 l3=>?_)
    rw [if_neg (by decide)]
    exact N4 c o b3 (by omega) (by omega) (rn2.same l3) u3 fun pd' st' b' r'=>⟨_,pd',rfl,by omega,by omega,b',r'⟩
   ·rw [if_neg hmr]
    exact N4 c o b2 n1 (by omega) rn2 u2 fun pd' st' b' r'=>⟨lo+n,pd',rfl,by omega,by omega,b',r'⟩
 ·rintro r st1 ⟨lo,pd,rfl,xl,lz,b1,rn⟩
  have e:lo=a0.size:=by omega
  subst e
  exact⟨pd,rfl,b1,rn⟩
 ·rintro r st1 ⟨pd,rfl,b1,rn⟩
  dsimp only
  unfold N2
  refine ba0 (bo2 (bi0
   (I:=fun t r st'=>r=(none,())/\∃ pd,SB κ a0 pd st'/\Rn rk (arrOf st') (sk pd) a0.size/\(pd.size+t<=a0.size ∨ pd.size<=1))
   (Q:=fun r st'=>r=(none,())/\∃ pd,SB κ a0 pd st'/\Rn rk (arrOf st') (sk pd) a0.size/\pd.size<=1) ?_ ?_ ⟨rfl,pd,b1,rn,.inl (by have:=rn.ch.len; rw [qP] at this; omega)⟩) ?_)
  ·rintro t r st2 _ ht ⟨rfl,pd,b2,rn2,pr⟩
   refine ba0 (wpS_get ?_)
   rw [b2.pd]
   by_cases h1:pd.size<=1
   ·rw [if_pos h1]
    exact ba9 ⟨rfl,pd,b2,rn2,h1⟩
   ·rw [if_neg h1]
    refine ba0 (M9 c o b2 ?_ (aZ3 _) rn2 fun pd' st3 b3 sz3 rn3 _=>?_)
    ·split <;> split <;> omega
    ·exact ba9 ⟨rfl,pd',b3,rn3,by omega⟩
  ·rintro r st2 ⟨rfl,pd,b2,rn2,pr⟩
   exact⟨rfl,pd,b2,rn2,by omega⟩
  ·rintro r st2 ⟨rfl,pd,b2,rn2,pr⟩
   refine ba9 (h st2 b2.pm b2.ok ?_)
   have ch:=rn2.ch
   have up:=rn2.up
   rw [<- qP] at pr
   cases e:sk pd with
   | nil=>rw [e] at ch; exact absurd (show 0=a0.size from ch) (by omega)
   | cons r l=>
    rw [e] at ch up pr
    have el:l = []:=bj4 (by have:=pr; rw [bd5] at this; omega)
    subst el
    obtain ⟨p,n⟩:=r
    obtain ⟨q1,q2,q3⟩:=ch
    have q1:p=0:=q1
    have q3:0+n=a0.size:=q3
    subst q1
    have:=up (0,n) (by simp)
    rw [<- q3]; exact this
end SO
namespace L2
open PySem PySem.Spec PyProof.Rows SO
abbrev cD (h:Heap) (a:Addr) (vs:List Value):Heap:=((h.update a (Obj.mapSeq fun _=>#[])).push (seqObj "tuple" vs.toArray 0)).push (seqObj "list" #[] 0)
abbrev cA (h:Heap) (vs:List Value):Heap:=((h.push (seqObj "list" #[] 0)).update h.objs.size (Obj.mapSeq (· ++ vs.toArray))).push (seqObj "list" vs.toArray 0)
theorem N5 {h:Heap}{vs:List Value}{b:Addr}{o:Obj} (e:h.get? b=some o):(cA h vs).get? b=some o:=by
 have l:=ba4 e
 refine aZ1 _ ?_
 rw [Heap.get?_update_ne _ _ _ _ (bc7 l)]
 exact aZ1 _ e
theorem N6 {h:Heap}{vs:List Value}{a b:Addr}{o:Obj} (hb:b ≠ a) (e:h.get? b=some o):(cD h a vs).get? b=some o:=by
 refine aZ1 _ (aZ1 _ ?_)
 rw [Heap.get?_update_ne _ _ _ _ hb]; exact e
theorem N7 {prog:Program}{w:World}{A:Around}{E:Value->Shared->Prop}{s:Shared}{a:Addr}{vs:List Value}{n:Nat}{P:PySem.Fin->Shared->Prop}{κ:SortKind}{Ok:Keyed->Prop}{rk:Keyed->Int}
  (e:s.heap.get? a=some (seqObj "list" vs.toArray n)) (h2:2<=vs.length) (big:vs.length<=sizeLine)
  (hk:∀ Q:SortKind->Shared->Prop,Q κ { s with heap:=cD s.heap a vs }->wpAny (model prog w) A (keyKind' vs.toArray) Q E { s with heap:=cD s.heap a vs })
  (c:bT prog w A E { s with heap:=cD s.heap a vs } κ Ok rk) (o:∀ v ∈ vs,Ok (v,v))
  (q:∀ out:List Value,out.Perm vs->out.Pairwise (fun u v=>rk (u,u)<=rk (v,v))->P (.done (.ret .none)) { s with heap:=sortedHeap s.heap a vs out.toArray }):wpAny (model prog w) A (Builtin.«list.sort» ⟨[.ref a],[]⟩) P E s:=by
 have la:=ba4 e
 have cc : ¬ vs.toArray.size < 2:=by simpa using h2
 obtain ⟨k,ek⟩:∃ k,(s.heap.update a (Obj.mapSeq fun _=>#[])).get? a=some (seqObj "list" #[] k):=⟨_,get?_update_seq e fun _=>#[]⟩
 have there:(cD s.heap a vs).get? a=some (seqObj "list" #[] k):=aZ1 _ (aZ1 _ ek)
 rw [list_sort_plain]
 apply aY9
 apply listItems_at e rfl
 apply aY9
 refine listUpdate_at e rfl ?_ (by simpa using big) (be8 _)
 apply aY9
 apply seqEpoch_at ek rfl
 apply aY9
 refine wpAny_newTuple ?_ big
 apply aY9
 refine wpAny_newList ?_ (be8 _)
 apply bh7
 simp only [cc,bi7]
 apply aY9
 refine hk _ ?_
 have zl:(vs.toArray.zip vs.toArray).toList=vs.zip vs:=by simp
 apply aY9
 refine bh9 (aB4 (a0:=vs.toArray.zip vs.toArray) (Q:=fun _ st'=>(arrOf st').Perm (vs.toArray.zip vs.toArray)/\failedOf st'=none/\Up rk (arrOf st') 0 (vs.toArray.zip vs.toArray).size) c (fun x hx=>?_) ⟨Array.Perm.refl _,rfl,rfl,rfl⟩ (by simp; omega) fun st' a1 a2 a3=>⟨a1,a2,a3⟩) ?_ fun _ _ z=>z
 ·have hx':x ∈ vs.zip vs:=by rw [<- zl]; exact Array.mem_toList_iff.mpr hx
  obtain ⟨y1,y2⟩:=mem_zip_self hx'
  have:=o x.1 y2
  have ex:x=(x.1,x.1):=Prod.ext rfl y1.symm
  rw [ex]; exact this
 ·rintro ⟨⟨⟩,st'⟩ s' ⟨rfl,pm,ok,up⟩
  have lp:(arrOf st').toList.Perm (vs.zip vs):=by rw [<- zl]; exact Array.perm_iff_toList_perm.mp pm
  have out:(arrOf st').map (·.2)=((arrOf st').toList.map (·.2)).toArray:=by apply Array.toList_inj.mp; rw [Array.toList_map]
  have op:((arrOf st').toList.map (·.2)).Perm vs:=by
   have:=lp.map (·.2)
   rw [pE] at this; exact this
  have sz:(arrOf st').size=vs.length:=by rw [pm.size_eq]; simp
  dsimp only
  apply aY9
  apply seqEpoch_at there rfl
  apply aY9
  refine listUpdate_at there rfl ?_ (be8 _) (by rw [Array.size_map,sz]; exact Nat.le_succ_of_le big)
  rw [ok]
  simp only [bne_self_eq_false,bc4,bi7]
  refine aZ5 ?_
  have hq:=q _ op ?_
  ·rw [<- out] at hq; exact hq
  ·rw [bj5,bd3]
   intro i j hi hj hij
   have hi':i < (arrOf st').size:=by simpa using hi
   have hj':j < (arrOf st').size:=by simpa using hj
   have h1:=up i j (be8 _) (bi9 hij) (by simp; omega)
   rw [bX hi',bX hj'] at h1
   have dg:∀ x ∈ (arrOf st').toList,(x.2,x.2)=x:=fun x hx=>Prod.ext (mem_zip_self (lp.mem_iff.mp hx)).1.symm rfl
   rw [dg _ (bj1 hi),dg _ (bj1 hj)]
   simpa using h1
theorem aB5 {prog:Program}{w:World}{A:Around}{E:Value->Shared->Prop}{s:Shared}{l:Addr}{vs:List Value}{Q:Value->Shared->Prop}{κ:SortKind}{Ok:Keyed->Prop}{rk:Keyed->Int}
  (hl:s.heap.IsList l vs.toArray) (h2:2<=vs.length) (big:vs.length<=sizeLine)
  (hk:∀ (A:Around) (E:Value->Shared->Prop) (Q:SortKind->Shared->Prop),Q κ { s with heap:=cD (cA s.heap vs) (s.heap.objs.size+1) vs }->wpAny (model prog w) A (keyKind' vs.toArray) Q E { s with heap:=cD (cA s.heap vs) (s.heap.objs.size+1) vs })
  (c:∀ (A:Around) (E:Value->Shared->Prop),bT prog w A E { s with heap:=cD (cA s.heap vs) (s.heap.objs.size+1) vs } κ Ok rk) (o:∀ v ∈ vs,Ok (v,v))
  (q:∀ out:List Value,out.Perm vs->out.Pairwise (fun u v=>rk (u,u)<=rk (v,v))->Q (.ref (s.heap.objs.size+1)) { s with heap:=sortedAll s.heap vs out.toArray }):wpAny (model prog w) A (call (.builtin "sorted") [.ref l]) Q E s:=by
 apply Calls.call_function_entry kind_sorted plain_sorted entry_sorted (args_sorted1 _)
 simp only [Builtin.«sorted»]
 apply aY9 (m:=checkCount "sorted" 1 1 _)
 apply aZ5
 apply aY9
 refine collect_list hl ?_ big
 apply aY9
 refine wpAny_newList ?_ big
 have one:((s.heap.push (seqObj "list" #[] 0)).update s.heap.objs.size (Obj.mapSeq (· ++ vs.toArray))).objs.size=s.heap.objs.size+1:=(Heap.size_update _ _ _).trans (size_push' _ _)
 have at1:(cA s.heap vs).get? (s.heap.objs.size+1)=some (seqObj "list" vs.toArray 0):=one ▸ bb2 _ rfl
 change wpAny _ _ _ _ _ { s with heap:=cA s.heap vs }
 rw [one]
 apply aY9
 apply bh7
 refine bi1 slot_list_sort ⟨_,at1,rfl⟩ entry_list_sort ?_ (args_list_sort _)
 exact N7 (s:={ s with heap:=cA s.heap vs }) at1 h2 big (hk _ _) (c _ _) o fun out a1 a2=>⟨_,rfl,aZ5 ⟨_,rfl,q out a1 a2⟩⟩
def qQ (h:Heap) (B:Int) (x:Keyed):Int:=match x.1 with
 | .ref b=>match h.get? b with
  | some ob=>match ob.data with
   | .seq us _=>numOf (us.getD 0 .none) * B+numOf (us.getD 1 .none)
   | _=>0
  | none=>0
 | _=>0
structure iO (h:Heap) (M:Int) (v:Value) (p q:Int):Prop where
 at_:∃ b ob us n,v = .ref b/\h.get? b=some ob/\ob.cls = .type "tuple"/\ob.data = .seq (List.toArray us) n/\IntsAre us [p,q]
 lo : -M<=q
 hi:q<=M
theorem iO.rk {h:Heap}{M B:Int}{x:Keyed}{p q:Int} (z:iO h M x.1 p q):qQ h B x=p * B+q:=by
 obtain ⟨b,ob,us,n,e1,e2,_,e4,e5⟩:=z.at_
 cases e5 with
 | cons _ t e6=>cases e6 with
  | cons _ u e7=>cases e7; unfold qQ; rw [e1]; dsimp only; rw [e2]; dsimp only; rw [e4]; rfl
theorem N8 {p q p' q' M:Int} (h1 : -M<=q) (h2:q<=M) (h3 : -M<=q') (h4:q'<=M):HT.aQ [p,q] [p',q']=decide (p * (2 * M+1)+q < p' * (2 * M+1)+q'):=by
 rw [HT.g9]
 have mm:∀ {a b:Int},a < b->a * (2 * M+1)+(2 * M+1)<=b * (2 * M+1):=fun {a b} z=>by
  have:=Int.mul_le_mul_of_nonneg_right (show a+1<=b by omega) (show 0<=2 * M+1 by omega)
  rw [Int.add_mul,Int.one_mul] at this
  exact this
 by_cases e:p=p'
 ·subst e
  rw [if_pos rfl,HT.g9]
  by_cases e2:q=q'
  ·subst e2
   rw [if_pos rfl,HT.yZ,aZ8 (by omega)]
  ·rw [if_neg e2]
   by_cases l:q < q'
   ·rw [ba2 l,ba2 (by omega)]
   ·rw [aZ8 l,aZ8 (by omega)]
 ·rw [if_neg e]
  by_cases l:p < p'
  ·have:=mm l
   rw [ba2 l,ba2 (by omega)]
  ·have:=mm (show p' < p by omega)
   rw [aZ8 l,aZ8 (by omega)]
theorem aB6 {prog:Program}{w:World}{A:Around}{E:Value->Shared->Prop}{s:Shared}{M:Int}:bT prog w A E s (tuples' true) (fun x=>∃ p q,iO s.heap M x.1 p q) (qQ s.heap (2 * M+1)):=by
 rintro x y ⟨p,q,z⟩ ⟨p',q',z'⟩ st Q hk hq
 rw [z.rk,z'.rk] at hq
 rw [<- N8 z.lo z.hi z'.lo z'.hi] at hq
 obtain ⟨b,ob,us,n,e1,e2,e3,e4,e5⟩:=z.at_
 obtain ⟨b',ob',us',n',e1',e2',e3',e4',e5'⟩:=z'.at_
 rw [lt'_eq]
 refine ba0 (wpS_get ?_)
 rw [hk,e1,e1']
 refine ba0 (wpS_lift (wpAny_attempt (PySem.W.kat_lt e2 e4 e2' e4' ?_)))
 have:=C1 (prog:=prog) (w:=w) (A:=A) (s:=s) (Q:=fun a s'=>s'=s/\wpS (model prog w) A E s (pure (some a)) Q st) 0 e5 e5' ⟨rfl,ba9 hq⟩
 simpa using this
theorem N9 {vs vs':List Value} (h:vs.Perm vs'):∀ {xs:List V},aH xs vs->∃ xs',xs'.Perm xs/\aH xs' vs':=by
 induction h with
 | nil=>intro xs r; exact⟨xs,List.Perm.refl _,r⟩
 | cons v _ ih=>
  intro xs r
  cases r with
  | cons r t=>
   obtain ⟨xs',p,r'⟩:=ih t
   exact⟨_ :: xs',p.cons _,.cons r r'⟩
 | swap u v l=>
  intro xs r
  cases r with
  | cons r t=>cases t with
   | cons r2 t2=>exact⟨_,List.Perm.swap _ _ _,.cons r2 (.cons r t2)⟩
 | trans _ _ ih1 ih2=>
  intro xs r
  obtain ⟨x1,p1,r1⟩:=ih1 r
  obtain ⟨x2,p2,r2⟩:=ih2 r1
  exact⟨x2,p2.trans p1,r2⟩
theorem O0 {α:Type} (f:α->Int):∀ l:List α,∃ M:Int,∀ y ∈ l,-M<=f y/\f y<=M
 | []=>⟨0,fun _ h=>nomatch h⟩
 | x :: l=>by
  obtain ⟨M,h⟩:=O0 f l
  refine⟨max M (max (f x) (- f x)),fun y hy=>?_⟩
  rcases aZ6.mp hy with e | e
  ·subst e; omega
  ·have:=h y e; omega
def O1 (K:PySem.W.Frag):List V->Hp->VK->Prop:=fun xs H Q=>∃ (a:Addr) (ys:List V) (key:V->List Int),xs = [.ref a]/\aG K H a ys/\ys.length<=4096/\(∀ y ∈ ys,∃ b,y = .ref b/\aD K H b ((key y).map V.int)/\(key y).length=2)/\
 ∀ l (zs:List V),H l=none->zs.Perm ys->zs.Pairwise (fun u v=>HT.aQ (key v) (key u)=false)->Q (.ref l) (upd H l (.lst zs))
theorem aB7 {X:Cx}:cK X (.builtin "sorted") (O1 X.K):=by
 intro pins s σ H xs us Q I r h
 obtain ⟨a,ys,key,rfl,hs,hz4,hk,q⟩:=h
 obtain ⟨u,rfl,ru⟩:=fY r
 cases ru
 obtain ⟨its,rv,p,hz⟩:=I.list hs
 have hl:=rv.length
 have hn:s.heap.objs.size<=s.heap.objs.size+1:=Nat.le_succ _
 by_cases h2:its.length < 2
 ·refine B9 p.isList h2 ?_
  obtain ⟨e,he⟩:=sortedAll_at s.heap its its.toArray
  refine⟨.ref (s.heap.objs.size+1),upd H (s.heap.objs.size+1) (.lst ys),I.laid (t':=s.toks) (fun _ _=>sortedAll_old) hn ⟨hz,its,e,rv,he⟩,rfl,q _ ys (I.hok.fresh hn) (List.Perm.refl _) ?_⟩
  match ys,hl with
  | [],_=>exact bo0
  | [_],_=>exact bf5 _ _
  | _ :: _ :: _,hl=>simp at hl; omega
 ·obtain ⟨M,hM⟩:=O0 (fun y=>(key y).getD 1 0) ys
  have pv:∀ {y:V}{v:Value},aO y v->y ∈ ys->∃ pp qq,key y = [pp,qq]/\iO (cD (cA s.heap its) (s.heap.objs.size+1) its) M v pp qq:=fun {y v} ry hy=>by
   obtain ⟨b,rfl,sq,l2⟩:=hk y hy
   cases ry
   obtain ⟨us,ru,⟨ob,e1,c1,n1,d1⟩,_⟩:=I.tuple sq
   have ia:=oX ru
   have mm:=hM _ hy
   match hkk:key (V.ref b),l2 with
   | [pp,qq],_=>
    rw [hkk] at ia mm
    exact⟨pp,qq,rfl,⟨b,ob,us,n1,rfl,N6 (bc7 (Nat.lt_succ_of_lt (ba4 e1))) (N5 e1),c1,d1,ia⟩,mm.1,mm.2⟩
  have pvs:∀ {xs:List V}{vs:List Value},aH xs vs->(∀ y ∈ xs,y ∈ ys)->∀ v ∈ vs,∃ pp qq,iO (cD (cA s.heap its) (s.heap.objs.size+1) its) M v pp qq:=by
   intro xs vs r
   induction r with
   | nil=>intro _ v hv; cases hv
   | cons rx rt ih=>
    intro hh v hv
    rcases aZ6.mp hv with z | z
    ·subst z
     obtain ⟨pp,qq,_,z⟩:=pv rx (hh _ bb1)
     exact⟨pp,qq,z⟩
    ·exact ih (fun y hy=>hh y (bb0 _ hy)) v z
  have firsts:∀ {vs:List Value},(∀ v ∈ vs,∃ pp qq,iO (cD (cA s.heap its) (s.heap.objs.size+1) its) M v pp qq)->∃ fs:List Value,PySem.W.KatTups (cD (cA s.heap its) (s.heap.objs.size+1) its) vs fs/\fs.length=vs.length/\∀ v ∈ fs,∃ i t,v=Value.int i t:=by
   intro vs
   induction vs with
   | nil=>intro _; exact⟨[],PySem.W.KatTups.nil,rfl,fun _ z=>nomatch z⟩
   | cons v vs ih=>
    intro hh
    obtain ⟨fs,t1,t2,t3⟩:=ih fun y hy=>hh y (bb0 _ hy)
    obtain ⟨pp,qq,z⟩:=hh v bb1
    obtain ⟨b,ob,us,n,rfl,e2,e3,e4,e5⟩:=z.at_
    cases e5 with
    | cons _ t e6=>exact⟨Value.int pp t :: fs,PySem.W.KatTups.cons e2 e3 e4 (by simp) t1,by simp [t2],fun v hv=>(aZ6.mp hv).elim (fun z=>⟨pp,t,z⟩) (t3 v)⟩
  have allp:=pvs rv fun _ h=>h
  obtain ⟨fs,t1,t2,t3⟩:=firsts allp
  refine aB5 (κ:=tuples' true) (Ok:=fun x=>∃ pp qq,iO (cD (cA s.heap its) (s.heap.objs.size+1) its) M x.1 pp qq) (rk:=qQ (cD (cA s.heap its) (s.heap.objs.size+1) its) (2 * M+1)) p.isList (by omega) (by rw [<- hl]; exact hz)
   (fun A E Q hQ=>?_) (fun A E=>aB6 (s:={ s with heap:=cD (cA s.heap its) (s.heap.objs.size+1) its })) (fun v hv=>allp v hv) fun out pm so=>?_
  ·refine PySem.W.kat_kind (T:=.type "int") t1 (by omega) (fun v hv=>?_) (by decide) ?_
   ·obtain ⟨i,t,rfl⟩:=t3 v hv
    exact PySem.W.Looks.now
   ·have eT:(Value.type "int" != Value.type "tuple")=true:=by decide
    rw [eT]; exact hQ
  ·obtain ⟨zs,pz,rz⟩:=N9 pm.symm rv
   obtain ⟨e,he⟩:=sortedAll_at s.heap its out.toArray
   refine⟨.ref (s.heap.objs.size+1),upd H (s.heap.objs.size+1) (.lst zs),I.laid (t':=s.toks) (fun _ _=>sortedAll_old) hn ⟨by rw [pz.length_eq]; exact hz,out,e,rz,he⟩,rfl,q _ zs (I.hok.fresh hn) pz ?_⟩
   have lz:=rz.length
   rw [bd3]
   intro i j hi hj hij
   have s1:=bd3.mp so i j (by omega) (by omega) hij
   have gi:=nC i hi rz
   have gj:=nC j hj rz
   simp only [aZ7,aZ0 hi,aZ0 hj,aZ0 (show i < out.length by omega),aZ0 (show j < out.length by omega),Option.getD_some] at gi gj
   obtain ⟨pi,qi,ki,vi⟩:=pv gi (pz.mem_iff.mp (bj1 hi))
   obtain ⟨pj,qj,kj,vj⟩:=pv gj (pz.mem_iff.mp (bj1 hj))
   rw [iO.rk (x:=(out[i],out[i])) vi,iO.rk (x:=(out[j],out[j])) vj] at s1
   rw [ki,kj,N8 vj.lo vj.hi vi.lo vi.hi]
   exact aZ8 (by omega)
end L2
namespace L2
open PySem PySem.Spec PyProof.Rows
theorem bV.at {P:Program}{w:World}{H:Hp}{h:Heap}{a:Addr}{o:HO} (x:bV P w H h a o):∃ ob,h.get? a=some ob:=by
 cases o with
 | lst xs=>obtain ⟨_,_,_,_,e⟩:=x; exact⟨_,e⟩
 | tup xs=>obtain ⟨_,_,_,_,e,_⟩:=x; exact⟨_,e⟩
 | dK kvs=>obtain ⟨_,_,_,_,_,_,_,e,_⟩:=x; exact⟨_,e⟩
 | dT kvs=>obtain ⟨_,_,_,_,_,_,_,e,_⟩:=x; exact⟨_,e⟩
 | set S n=>obtain ⟨_,_,_,_,e,_⟩:=x; exact⟨_,e⟩
 | ins C dx fs=>obtain ⟨_,_,_,e,_⟩:=x; exact⟨_,e⟩
 | own y=>exact x
 | xd fs=>obtain ⟨_,⟨_,_,_,e,_⟩,_⟩:=x; exact⟨_,e⟩
 | rng lo hi=>obtain ⟨_,_,_,e⟩:=x; exact⟨_,e⟩
 | frz ob u=>obtain ⟨e,_⟩:=x; exact⟨_,e⟩
 | tbl ps=>exact⟨_,x⟩
 | met f y=>exact⟨_,x⟩
 | ext φ=>exact x.2.1
structure kE (P:Program) (w:World) (outer:List Env) (H:Hp) (s:Shared) (H':Hp) (B:Heap) (a C:Addr) (s':Shared):Prop where
 os:s'.os=s.os
 bare:AllBare s'.gens
 un:Un (bF outer) [] H H' s.heap s'.heap
 hok:bL P w H' s'.heap
 fly:∃ a0,Heap.FlyingW B outer a (.ref C) a0 s'.heap
 b0:∀ b o,s.heap.get? b=some o->b ∉ bF outer->∃ o',B.get? b=some o'
 b1:∀ b o,s.heap.get? b=some o->H b=none->b ∉ bF outer->B.get? b=some o
 b2:∀ b u o,H' b=some u->s'.heap.get? b=some o->B.get? b=some o
def dJ (P:Program) (w:World):fQ:=fun outer H s E e s'=>∃ (H':Hp) (B:Heap) (a C:Addr),e = .ref a/\kE P w outer H s H' B a C s'/\E (.ref C) none H'
section
variable {P : Program} {w : World} {outer : List Env} {H H' : Hp} {s s' : Shared} {B h2 : Heap} {a C : Addr}
theorem kE.fresh (f:kE P w outer H s H' B a C s'):H' a=none:=by
 cases q:H' a with
 | none=>rfl
 | some u=>
  obtain ⟨ob,e⟩:=(f.hok a u q).at
  have z:=f.b2 a u ob q e
  obtain ⟨_,_,n,_⟩:=f.fly
  rw [n] at z; cases z
theorem kE.hok2 (f:kE P w outer H s H' B a C s') (k:B.StaysIn h2):bL P w H' h2:=fun b u e=>
 (f.hok b u e).stay (fun c v hc q=>by
  rcases hc with z | z
  ·subst z; exact k _ _ (f.b2 _ _ _ e q)
  ·exact k _ _ (f.b2 _ _ _ z q)) (fun _ q=>q) fun _ _ q=>q
end
section
variable {P : Program} {w : World} {K : PySem.W.Frag} {mg : Str → Option Value} {base : Heap} {N : List Str} {qual : Str} {scope : Scope} {f : Addr} {cd : Value} {A : Around} {outer : List Env} {s₀ : Shared} {H₀ : Hp} {E₀ E₁ : XK}
theorem qR {pins:List (Addr × Obj)}{σ:St}{H:Hp}{s:Shared} (I:a6 (cW (dJ P w) P w K mg base N qual scope f cd A outer s₀ H₀ E₀) pins σ H s) {b:Addr}{o:Obj} (e:s₀.heap.get? b=some o) (n:b ∉ bF outer) :
  b ∉ bF (envOfC qual scope s₀.heap.objs.size f cd :: outer):=fun z=>by
 rcases aZ6.mp (I.stkSub b z) with y | y
 ·have l:=ba4 e
  have y:b=s₀.heap.objs.size:=y
  exact absurd l (by rw [y]; exact bg3 _)
 ·exact n y
theorem aB8 (hE:∀ c d H',E₁ c d H'->E₀ c d H'):mT (dJ P w) (cW (dJ P w) P w K mg base N qual scope f cd A outer s₀ H₀ E₀) E₁:=by
 intro pins σ H s e s' I hx
 obtain ⟨H',B,a,C,e1,fl,q⟩:=hx
 subst e1
 have I':=I.call' fl.os fl.un fl.hok fl.bare (ch:=[]) (fun b z=>absurd z (by simp))
 obtain ⟨a0,fly⟩:=fl.fly
 refine wpAny_leaves_onW I.ok.frames rfl fly fun h' fly' up=>?_
 have slot:∀ b o,s₀.heap.get? b=some o->b ∈ bF outer->∃ sl,h'.get? b=some { o with slots:=sl }:=fun b o e hb=>by
  obtain ⟨sl,e1⟩:=I'.base.slot b o e (I.ok.frf b hb) hb (fun z=>nomatch z)
  obtain ⟨_,o2,e2,nf⟩:=I.ok.funs.mem hb
  rw [show (cW (dJ P w) P w K mg base N qual scope f cd A outer s₀ H₀ E₀).s₀=s₀ from rfl,e] at e2
  cases e2
  obtain ⟨sl',e3⟩:=up b _ e1 nf
  exact⟨sl',e3⟩
 have old:∀ b o,s₀.heap.get? b=some o->H₀ b=none->b ∉ bF outer->B.get? b=some o:=fun b o e n hb=>
  fl.b1 b o (I.base.keep b o e n hb (fun z=>nomatch z)) (I.base.free b o e n (fun z=>nomatch z)) (qR I e hb)
 have old0:∀ b o,s₀.heap.get? b=some o->b ∉ bF outer->∃ o',B.get? b=some o':=fun b o e hb=>by
  obtain ⟨o1,e1⟩:=I.base.there b o e (fun z=>nomatch z)
  exact fl.b0 b o1 e1 (qR I e hb)
 refine⟨H',B,a,C,rfl,⟨I'.os,I'.bare,⟨fun b o e n hb _=>fly'.1 _ _ (old b o e n hb),fun b o e n hb _=>slot b o e hb,fun b o e n hx=>I'.base.free b o e n hx,fun b o e _=>?_,I'.base.tups,I'.base.frzs,I'.base.tbls⟩,fl.hok2 fly'.1,⟨a0,fly'⟩,old0,old,fun b u o e h=>?_⟩,hE _ _ _ q⟩
 ·by_cases hb:b ∈ bF outer
  ·obtain ⟨sl,e1⟩:=slot b o e hb
   exact⟨_,e1⟩
  ·obtain ⟨o',e1⟩:=old0 b o e hb
   exact⟨o',fly'.1 _ _ e1⟩
 ·obtain ⟨ob,e1⟩:=(fl.hok b u e).at
  have e2:=fl.b2 b u ob e e1
  have e3:=fly'.1 _ _ e2
  have h:h'.get? b=some o:=h
  rw [h] at e3; cases e3; exact e2
theorem aB9 {pins:List (Addr × Obj)}{σ:St}{H:Hp}{s:Shared}{h':Heap}{e C:Addr}{args:List Value} (I:a6 (cW (dJ P w) P w K mg base N qual scope f cd A outer s₀ H₀ E₀) pins σ H s) (mx:Heap.MadeExcOf s.heap h' e (.ref C) args) (q:E₀ (.ref C) none H) :
  (cW (dJ P w) P w K mg base N qual scope f cd A outer s₀ H₀ E₀).xe (.ref e) { s with heap:=h' }:=by
 have tr:∀ b u,H b=some u->b ∉ bF (envOfC qual scope s₀.heap.objs.size f cd :: outer):=fun b u z n=>by
  rw [I.stkFree b n] at z; cases z
 have inB:∀ b o,s.heap.get? b=some o->b ∉ bF (envOfC qual scope s₀.heap.objs.size f cd :: outer)->(PySem.W.hideAll s.heap (bF (envOfC qual scope s₀.heap.objs.size f cd :: outer))).get? b=some o:=fun b o z n=>PySem.W.hideAll_get _ z n
 refine wpAny_leaves_madeW (base:=PySem.W.hideAll s.heap (bF (envOfC qual scope s₀.heap.objs.size f cd :: outer))) I.ok.frames rfl (fun b o z=>PySem.W.of_hideAll _ z) (PySem.W.funFrames_hide I.stack fun env he b hb=>List.mem_filterMap.mpr ⟨env,he,hb⟩) mx fun h'' t fly _ _ up=>?_
 have slot:∀ b o,s₀.heap.get? b=some o->b ∈ bF outer->∃ sl,h''.get? b=some { o with slots:=sl }:=fun b o e hb=>by
  obtain ⟨sl,e1⟩:=I.base.slot b o e (I.ok.frf b hb) hb (fun z=>nomatch z)
  obtain ⟨_,o2,e2,nf⟩:=I.ok.funs.mem hb
  rw [show (cW (dJ P w) P w K mg base N qual scope f cd A outer s₀ H₀ E₀).s₀=s₀ from rfl,e] at e2
  cases e2
  obtain ⟨sl',e3⟩:=up b _ (mx.keeps _ _ e1) nf
  exact⟨sl',e3⟩
 have old:∀ b o,s₀.heap.get? b=some o->H₀ b=none->b ∉ bF outer->(PySem.W.hideAll s.heap (bF (envOfC qual scope s₀.heap.objs.size f cd :: outer))).get? b=some o:=fun b o e n hb=>
  inB b o (I.base.keep b o e n hb (fun z=>nomatch z)) (qR I e hb)
 have old0:∀ b o,s₀.heap.get? b=some o->b ∉ bF outer->∃ o',(PySem.W.hideAll s.heap (bF (envOfC qual scope s₀.heap.objs.size f cd :: outer))).get? b=some o':=fun b o e hb=>by
  obtain ⟨o1,e1⟩:=I.base.there b o e (fun z=>nomatch z)
  exact⟨o1,inB b o1 e1 (qR I e hb)⟩
 refine⟨H,_,e,C,rfl,⟨I.os,I.bare,⟨fun b o e n hb _=>fly.1 _ _ (old b o e n hb),fun b o e n hb _=>slot b o e hb,fun b o e n hx=>I.base.free b o e n hx,fun b o e _=>?_,I.base.tups,I.base.frzs,I.base.tbls⟩,fun b u z=>?_,⟨_,fly⟩,old0,old,fun b u o z h=>?_⟩,q⟩
 ·by_cases hb:b ∈ bF outer
  ·obtain ⟨sl,e1⟩:=slot b o e hb
   exact⟨_,e1⟩
  ·obtain ⟨o',e1⟩:=old0 b o e hb
   exact⟨o',fly.1 _ _ e1⟩
 ·refine (I.hok b u z).stay (fun c v hc y=>?_) (fun _ y=>y) fun _ _ y=>y
  rcases hc with z' | z'
  ·subst z'; exact fly.1 _ _ (inB _ _ y (tr _ _ z))
  ·exact fly.1 _ _ (inB _ _ y (tr _ _ z'))
 ·obtain ⟨ob,e1⟩:=(I.hok b u z).at
  have e2:=inB b ob e1 (tr b u z)
  have e3:=fly.1 _ _ e2
  have h:h''.get? b=some o:=h
  rw [h] at e3; cases e3; exact e2
end
structure lV (X:Cx) (E:XK):Prop where
 pass:mT (dJ X.prog X.w) X E
 made:∀ (pins:List (Addr × Obj)) (σ:St) (H:Hp) (s:Shared) (h':Heap) (e C:Addr) (args:List Value),a6 X pins σ H s->Heap.MadeExcOf s.heap h' e (.ref C) args->E (.ref C) none H->X.xe (.ref e) { s with heap:=h' }
 own:PassesOwn (model X.prog X.w) X.A X.env X.xe
theorem aC0 {P:Program}{w:World}{K:PySem.W.Frag}{mg:Str->Option Value}{base:Heap}{N:List Str}{qual:Str}{scope:Scope}{f:Addr}{cd:Value}{A:Around}{outer:List Env}{s₀:Shared}{H₀:Hp}{E₀ E₁:XK} (hE:∀ c d H',E₁ c d H'->E₀ c d H') :
  lV (cW (dJ P w) P w K mg base N qual scope f cd A outer s₀ H₀ E₀) E₁:=
 ⟨aB8 hE,fun _ _ _ _ _ _ _ _ I mx q=>aB9 I mx (hE _ _ _ q),PassesOwn.leaving⟩
def O2 (E:XK) (C:Addr) (t:TA):TS:=fun _ σ H=>t σ H fun vs H1=>vs.length<=sizeLine/\E (.ref C) none H1
theorem aC1 {X:Cx}{E:XK}{x:Str}{C:Addr}{bm:List Value}{B newId initId:String}{np cpos pos:Pos}{e:Expr}{es:List Expr}{t:TA} (hX:lV X E) (hc:X.calm=true) (O:OwnCls x C bm newId X.mg X.base) (FB:ExcBaseFacts B newId initId bm) (ha:PA X (e :: es) t) (hg:Gl X x)
  (hd:(x == ("__debug__" : Str))=false:=by decide) (he:starEach (e :: es) X.env=(false,eval e X.env) :: starEach es X.env:=by rfl) (hpl:(backTo cpos (starEach es X.env)).any (·.1)=false:=by rfl) :
  PS X (.Raise (some (.Call (.Name x np) (e :: es) [] cpos)) none pos) (O2 E C t):=by
 intro pins s σ H D I h
 obtain ⟨tl,Na,nm,qn,bs,hx,sn,sub,ab,col,dd,k0,k1,k2,k3,k5,mN,hC,hN,hni,T⟩:=O.obj
 refine wpAny_Raise_call_subT (nm:=nm) (q:=qn) (N:=Na) (bs:=bs) (bm:=tl) (hdct:=hx) (sn:=sn) (sub:=sub) (ab:=ab) (col:=col) (dd:=dd) (k0:=k0) (k1:=k1) (k2:=k2) (k3:=k3) (k5:=k5) FB (C:=C) (mN:=mN) (T.hasType FB.hasBase) (I.ok.hd hc) (by rw [he]; show (false || (backTo cpos (starEach es X.env)).any (·.1))=false; rw [hpl]; rfl) hni (mI I hg O.bound ⟨rfl,?_⟩ hd)
 have h1:=ha cpos pins s σ H _ I h
 rw [he] at h1 ⊢
 refine Calls.evalArgs_plain (bh9 h1 (fun us s2 h2=>?_) fun _ _ y=>y)
 obtain ⟨vs,H2,I2,r,hl,q⟩:=h2
 have r:aH vs us:=r
 exact⟨rfl,by show us.length<=sizeLine; rw [<- r.length]; exact hl,I2.bk _ _ hC,hN.keeps I2.bk,T.keeps I2.bk,fun h' e' mx=>hX.made pins σ H2 s2 h' e' C _ I2 mx q⟩
theorem dX.okX {P:Program}{w:World}{K:PySem.W.Frag}{mg:Str->Option Value}{base:Heap}{x qual:Str}{st:Stmt}{f:Addr}{fd:FuncData}{N ps:List Str}{k:Nat}{sp:Sp} (F:dX K x qual st f fd) (S:FnScope N ps (aS st)) (len:∀ vs H Q E,sp vs H Q E->vs.length=ps.length)
  (hbody:∀ (cdv:Value) (A:Around) (outer:List Env) (s:Shared) (H:Hp) (vs:List V) (Q:VK) (E:XK),bR k (A.deeper (envOfC qual (aS st) s.heap.objs.size f cdv))->sp vs H Q E->
   ∃ t,dC (cW (dJ P w) P w K mg base N qual (aS st) f cdv A outer s H E) (dW st) t/\t { nx:=fun _ H'=>Q .non H',rt:=Q } (fR N vs) H):cG P w K mg base (dJ P w) (k+1) f fd ps sp:=by
 obtain ⟨oc,od,kV,doc,pm,an,cdv,ct,osl,rfl,lk,hcd⟩:=F.ex
 exact yX lk hcd S len fun A outer s H vs Q E hr hsp=>hbody cdv A outer s H vs Q E hr hsp
section
variable {X : Cx} {pins : List (Addr × Obj)} {σ : St} {H H1 H' : Hp} {s s1 s' : Shared} {B h2 : Heap} {a C : Addr}
theorem O3 {oe:Obj} (I:a6 X pins σ H1 s1) (fl:kE X.prog X.w X.stack H1 s1 H' B a C s') (st:B.StaysIn h2) (up:s'.heap.UpToSlots h2) (he:h2.get? a=some oe) :
  a6 X pins σ (upd H' a (.frz oe (.own a))) { s' with heap:=h2 }:=by
 obtain ⟨a0,fly⟩:=fl.fly
 have na:B.get? a=none:=fly.2.1
 have nf:a ∉ bF X.stack:=fun z=>by
  obtain ⟨_,o,e,d⟩:=fly.2.2.1.mem z
  obtain ⟨o2,vs,e2,_,d2,_⟩:=fly.first
  rw [e] at e2; cases e2
  exact d vs d2
 have nb:∀ b o,s1.heap.get? b=some o->b ≠ a:=fun b o e z=>by
  subst z
  obtain ⟨o',e'⟩:=fl.b0 _ o e nf
  rw [na] at e'; cases e'
 have nt:∀ b u,H' b=some u->b ≠ a:=fun b u e z=>by
  subst z; rw [fl.fresh] at e; cases e
 have off:∀ b,b ≠ X.env.locals->b ∉ X.fs->b ∉ bF X.stack:=fun b n1 n2 z=>(aZ6.mp (I.stkSub b z)).elim n1 n2
 have slot:∀ b o,s1.heap.get? b=some o->b ∈ bF X.stack->∃ sl,h2.get? b=some { o with slots:=sl }:=fun b o e hb=>by
  obtain ⟨sl,e1⟩:=fl.un.any e (I.stkFree b hb) (fun z=>nomatch z)
  obtain ⟨_,o2,e2,d⟩:=I.stack.mem hb
  rw [e] at e2; cases e2
  obtain ⟨sl',e3⟩:=up b _ e1 d
  exact⟨sl',e3⟩
 have ns:∀ m,s1.heap.Ns X.env.locals m->h2.Ns X.env.locals m:=fun m hm=>by
  obtain ⟨o,es,ep,e,r⟩:=hm
  obtain ⟨sl,e1⟩:=fl.un.any e I.free (fun z=>nomatch z)
  exact up.ns ⟨_,es,ep,e1,r⟩
 have hok:bL X.prog X.w (upd H' a (.frz oe (.own a))) h2:=fun b u e=>by
  by_cases hb:b=a
  ·subst hb; rw [b9] at e; cases e; exact⟨he,_,he⟩
  ·rw [aM hb] at e
   exact (fl.hok2 st b u e).stay (fun _ _ _ q=>q) (fun c q=>by rw [aM (nt c _ q)]; exact q) fun c xs q=>by rw [aM (nt c _ q)]; exact q
 have bare:=fl.bare
 have un:=fl.un
 have b0:=fl.b0
 have b1:=fl.b1
 have os:=fl.os
 clear fl fly up
 obtain ⟨hh,g,d,t,os'⟩:=s'
 obtain rfl:os'=s1.os:=os
 show a6 X pins σ _ { s1 with heap:=h2,gens:=g,drawn:=d,toks:=t }
 refine I.step (h':=h2) (g':=g) (d':=d) (t':=t) (ch:=[]) (fun _ z=>nomatch z) (fun b o n1 n2 _ e n=>st _ _ (b1 b o e n (off b n1 n2))) (fun b o n1 hb _ e n=>?_) (fun b o _ e n=>by rw [aM (nb b o e)]; exact un.free b o e n (fun z=>nomatch z)) (fun b o _ e=>?_)
  (fun b xs q=>by rw [aM (nt b _ (un.tups b xs q))]; exact un.tups b xs q) (fun b o u q=>by rw [aM (nt b _ (un.frzs b o u q))]; exact un.frzs b o u q) (fun b ps q=>by
   obtain ⟨more,q'⟩:=un.tbls b ps q
   exact⟨more,by rw [aM (nt b _ q')]; exact q'⟩) ns hok bare
 ·by_cases hs:b ∈ bF X.stack
  ·exact slot b o e hs
  ·exact⟨o.slots,st _ _ (b1 b o e n hs)⟩
 ·by_cases hb:b ∈ bF X.stack
  ·obtain ⟨sl,e1⟩:=slot b o e hb
   exact⟨_,e1⟩
  ·obtain ⟨o',e1⟩:=b0 b o e hb
   exact⟨o',st _ _ e1⟩
abbrev Cx.suite (X:Cx) (a:Addr):Cx:={ X with A:=X.A.mark (some (.ref a)),calm:=false,xe:=fun _ _=>False }
theorem Cx.Ok.suite {X:Cx} (ok:X.Ok) (a:Addr):(X.suite a).Ok:=
 ⟨ok.mod,ok.kind,ok.glob,ok.blt,ok.above,ok.inj,ok.has,ok.cab,fun z=>Bool.noConfusion z,ok.frames,ok.stk,ok.exf,ok.bs,ok.bsz,ok.noex,ok.exfs,ok.funs,ok.frf⟩
theorem a6.suite (I:a6 X pins σ H s) (a:Addr):a6 (X.suite a) pins σ H s:=⟨I.ok.suite a,I.os,I.bare,I.base,I.loc,I.cell,I.free,I.freeC,I.pin,I.hok,I.len⟩
theorem a6.unsuite (I:a6 (X.suite a) pins σ H s) (ok:X.Ok):a6 X pins σ H s:=⟨ok,I.os,I.bare,I.base,I.loc,I.cell,I.free,I.freeC,I.pin,I.hok,I.len⟩
theorem qS {M:Model}{A:Around}{E:Value->Shared->Prop}{i:Nat}{x:Str}{pos:Pos}{Q:Unit->Shared->Prop} (I:a6 X pins σ H s) (hN:X.N.Nodup) (hi:X.N[i]? = some x) (hk:X.env.scope.names.lookup x=some .local)
  (h:∀ s',a6 X pins (σ.set i none) H s'->Q () s'):wpAny M A (do bindName X.env x .none; unbindBehindTheSuite X.env x pos) Q E s:=by
 obtain ⟨m,hn,hl⟩:=id I.loc
 obtain ⟨oL,_,_,hoL,_⟩:=id hn
 have ab:∀ b o,X.s₀.heap.get? b=some o->b ≠ X.env.locals:=fun b o e=>bc7 (ba5 (ba4 e) I.ok.above)
 refine wpAny_nameGoes_keeps hk hn (by rw [I.ok.kind]; rfl) fun h' v hn' hs=>?_
 refine h _ ⟨I.ok,I.os,I.bare,⟨fun b o e n hb hx=>(hs.2 b (ab b o e)).trans (I.base.keep b o e n hb hx),fun b o e n hb hx=>?_,I.base.free,fun b o e hx=>?_,I.base.tups,I.base.frzs,I.base.tbls⟩,⟨_,hn',fun j y v' e1 e2 e3=>?_⟩,fun y c e=>?_,I.free,I.freeC,fun p hp=>?_,fun b u e=>?_,by simpa using I.len⟩
 ·obtain ⟨sl,e1⟩:=I.base.slot b o e n hb hx
  exact⟨sl,(hs.2 b (ab b o e)).trans e1⟩
 ·obtain ⟨o',e1⟩:=I.base.there b o e hx
  exact⟨o',(hs.2 b (ab b o e)).trans e1⟩
 ·by_cases hj:j=i
  ·subst hj
   have hjl:j < σ.length:=by rw [I.len]; exact (aZ9.mp hi).1
   rw [bg2 hjl] at e2
   cases e2
  ·rw [bb8 (Ne.symm hj)] at e2
   obtain ⟨u',r',q⟩:=hl j y v' e1 e2 e3
   refine⟨u',r',?_⟩
   rcases q with ⟨k,e⟩ | ⟨k,c,e,z⟩
   ·have ny:y ≠ x:=fun z=>hj (sN hN e1 (z ▸ hi))
    exact .inl ⟨k,by simp [ny,e]⟩
   ·exact .inr ⟨k,c,e,z.sameBut hs (I.cne y c e)⟩
 ·obtain ⟨w',z⟩:=I.cell y c e
  exact⟨w',z.sameBut hs (I.cne y c e)⟩
 ·obtain ⟨e,n,ne,nf,d⟩:=I.pin p hp
  exact⟨(hs.2 p.1 ne).trans e,n,ne,nf,d⟩
 ·refine (I.hok b u e).stay (fun c v hc q=>(hs.2 c fun z=>?_).trans q) (fun _ q=>q) fun _ _ q=>q
  subst z
  rcases hc with z | z
  ·subst z; rw [I.free] at e; cases e
  ·rw [I.free] at z; cases z
theorem aC2 {M:Model}{A:Around}{E:Value->Shared->Prop}{K:PySem.W.Frag}{e C D:Addr}{oe:Obj}{Q:Bool->Shared->Prop} (k:K.In s.heap) (he:s.heap.get? e=some oe) (hc:oe.cls = .ref C) (h1:(PySem.W.clsIn K D).isSome=true) (h2:PySem.W.typeIn K (.ref D)=some (.type "type"))
  (h3:PySem.W.subIn K (.ref D) (.type "BaseException")=some true) (h4:PySem.W.subIn K (.ref C) (.ref D)=some true) (hq:Q true s):wpAny M A (excMatches (.ref e) (.ref D)) Q E s:=by
 obtain ⟨h,g,d,t,os⟩:=s
 have k:K.In h:=k
 have he:h.get? e=some oe:=he
 have l1:PySem.W.Looks M h (isType (.ref D)) true:=by
  unfold PySem.W.clsIn at h1
  split at h1
  ·rename_i c' d' cd' sl' ho
   intro A' Q' E' s' kk q
   unfold isType loadHead
   exact aY9 (wpAny_loadPart (kk _ _ (k _ _ ho)) (aZ5 q))
  ·cases h1
 have l2:PySem.W.Looks M h (typeOf (.ref D)) (.type "type"):=PySem.W.looks_typeIn k h2
 have l3:PySem.W.Looks M h (isSubtype (.ref D) (.type "BaseException")) true:=PySem.W.looks_subIn k h3
 have l4:PySem.W.Looks M h (isSubtype (.ref C) (.ref D)) true:=PySem.W.looks_subIn k h4
 have l5:PySem.W.Looks M h (typeOf (.ref e)) (.ref C):=hc ▸ (PySem.W.Looks.ld he).andThen .now
 have l6:PySem.W.Looks M h (isInstance (.ref D) (.type "tuple")) false:=l2.andThen (PySem.W.Looks.of_pure tc_notTuple)
 have l7:PySem.W.Looks M h (isExcClass (.ref D)) true:=by
  unfold isExcClass
  exact l1.andThen (by simpa using l3)
 have f:=tc_notTuple
 unfold excMatches
 repeat (first | exact hq | (with_reducible refine l2.at ?_) | (with_reducible refine l7.at ?_) | (with_reducible refine l1.at ?_) | (with_reducible refine l3.at ?_) | (with_reducible refine l5.at ?_) | (with_reducible refine l4.at ?_) | wp_step)
end
def vW (D:c8) (i:Nat):c8:={ nx:=fun σ H=>D.nx (σ.set i none) H,rt:=D.rt,bk:=fun σ H=>D.bk (σ.set i none) H,ct:=fun σ H=>D.ct (σ.set i none) H }
section
variable {X : Cx} {pins : List (Addr × Obj)} {σ : St} {H H1 H' : Hp} {s s1 s' : Shared} {B : Heap} {a C Ch : Addr} {i : Nat} {x n : Str} {np pos hpos : Pos} {b₀ : Stmt} {suite : List Stmt} {ts : TS} {D : c8} {bM : List ExceptHandler}
structure vX (K:PySem.W.Frag) (Ch:Addr):Prop where
 c1:(PySem.W.clsIn K Ch).isSome=true
 c2:PySem.W.typeIn K (.ref Ch)=some (.type "type")
 c3:PySem.W.subIn K (.ref Ch) (.type "BaseException")=some true
theorem aC3 (I:a6 X pins σ H1 s1) (fl:kE X.prog X.w X.stack H1 s1 H' B a C s') (hstk:X.stack=X.env :: X.outer/\X.env.frame=some X.env.locals) (hg:Gl X x) (hm:X.mg x=some (.ref Ch)) (ct:vX X.K Ch) (sub:PySem.W.subIn X.K (.ref C) (.ref Ch)=some true)
  (hN:X.N.Nodup) (hi:X.N[i]? = some n) (hl:X.env.scope.names.lookup n=some .local) (hs:dC (X.suite a) (b₀ :: suite) ts) (q:∀ oe:Obj,oe.cls = .ref C->ts (vW D i) (σ.set i (some (.ref a))) (upd H' a (.frz oe (.own a)))) (hd:(x == ("__debug__" : Str))=false) :
  wpAny (model X.prog X.w) X.A (noteFrame (.ref a) X.env) (fun _ s₂=>wpAny (model X.prog X.w) X.A (setFlight (.ref a) none) (fun _ s₃=>wpAny (model X.prog X.w) X.A (handleBy (.ref a) X.env (.ExceptHandler (some (.Name x np)) (some n) (b₀ :: suite) hpos :: bM)) (SP X pins D) X.xe s₃) X.xe s₂) X.xe s':=by
 obtain ⟨a0,fly⟩:=fl.fly
 rw [hstk.1] at fly
 refine wpAny_looks_onW (outer:=X.outer) (L:=X.env.locals) (by rw [I.ok.frames,hstk.1]) hstk.2 fly fun h4 held up4=>wpAny_landsW held fun h5 fly5 up5=>?_
 obtain ⟨o5,v5,e5,c5,_⟩:=fly5.first
 have I5:=O3 I fl fly5.1 (up4.trans up5) e5
 refine wpAny_handleBy_cons (codeAny_handlers_test (mI (I5.suite a) hg hm ?_ hd)) (by intro z; cases z)
 refine aC2 I5.kIn e5 c5 ct.c1 ct.c2 ct.c3 sub ?_
 show codeAny (model X.prog X.w) (X.A.mark (some (.ref a))) (.handlers (.ref a) [.ExceptHandler none (some n) (b₀ :: suite) hpos] X.env) _ _
 refine codeAny_handlers_suite_as (lands_againW fly5 fun h6 fly6 up6=>?_)
 obtain ⟨o6,v6,e6,c6,_⟩:=fly6.first
 have I6:=O3 I fl fly6.1 ((up4.trans up5).trans up6) e6
 refine sP I6 hN hi (.inl hl) (v:=.ref a) rfl (fun s7 I7=>?_) (.inr hl)
 refine bh9 (hs pins s7 _ _ (vW D i) (I7.suite a) (q o6 c6)) (fun f s8 h8=>?_) fun _ _ z=>z.elim
 show wpAny (model X.prog X.w) X.A (do bindName X.env n .none; unbindBehindTheSuite X.env n hpos) (fun _ s9=>SP X pins D f s9) X.xe s8
 cases f with
 | next=>obtain ⟨σ',H',J,q⟩:=h8; exact qS (J.unsuite I.ok) hN hi hl fun s9 J9=>⟨_,_,J9,q⟩
 | brk=>obtain ⟨σ',H',J,q⟩:=h8; exact qS (J.unsuite I.ok) hN hi hl fun s9 J9=>⟨_,_,J9,q⟩
 | cont=>obtain ⟨σ',H',J,q⟩:=h8; exact qS (J.unsuite I.ok) hN hi hl fun s9 J9=>⟨_,_,J9,q⟩
 | ret u=>obtain ⟨v,σ',H',J,r,q⟩:=h8; exact qS (J.unsuite I.ok) hN hi hl fun s9 J9=>⟨v,_,_,J9,r,q⟩
end
abbrev TB:=c8->XK->St->Hp->Prop
def XB (X:Cx) (pins:List (Addr × Obj)) (σ:St) (Ex:XK):Value->Shared->Prop:=fun e s'=>∃ H1 s1,a6 X pins σ H1 s1/\dJ X.prog X.w X.stack H1 s1 Ex e s'
def PB (X:Cx) (sts:List Stmt) (t:TB):Prop:=
 ∀ (pins:List (Addr × Obj)) (s:Shared) (σ:St) (H:Hp) (D:c8) (Ex:XK),a6 X pins σ H s->t D Ex σ H->wpAny (model X.prog X.w) X.A (execs sts X.env) (SP X pins D) (XB X pins σ Ex) s
def aC4 (sp:Sp) (t:TA):TB:=fun D Ex σ H=>t σ H fun vs H1=>sp vs H1 (fun _ H2=>D.nx σ H2) Ex
section
variable {X : Cx} {k : Nat} {f Ch : Addr} {fd : FuncData} {ps : List Str} {sp : Sp} {x n : Str} {p cp pos np hpos : Pos} {e c : Expr} {es : List Expr} {t : TA} {tb ub : TB} {tc : TT} {sa sb body : List Stmt} {i : Nat} {b₀ : Stmt} {suite : List Stmt} {ts : TS}
theorem aC5 (F:cG X.prog X.w X.K X.mg X.base (dJ X.prog X.w) k f fd ps sp) (hr:bR k X.A) (hg:Gl X x) (hm:X.mg x=some (.ref f)) (hk:PySem.W.keepIn X.K (.ref f)=true) (hb:fZ X.K fd ps []) (ha:∀ E,PA (X.wish E) (e :: es) t)
  (hdb:(x == ("__debug__" : Str))=false:=by decide) (he:starEach (e :: es) X.env=(false,eval e X.env) :: starEach es X.env:=by rfl) (hpl:(backTo cp (starEach es X.env)).any (·.1)=false:=by rfl) (hsw:swapsWith (.Call (.Name x p) (e :: es) [] cp) none pos.line X.env=pure false:=by rfl) :
  PB X [.Expr (.Call (.Name x p) (e :: es) [] cp) pos] (aC4 sp t):=by
 intro pins s σ H D Ex I h
 refine wpAny_execs_cons (wpAny_Expr_any ?_ I.quiet hsw)
 refine wpAny_Call_Name_kw (mI I hg hm ?_ hdb)
 refine PySem.W.callWith_K (h₀:=X.base) I.ok.mod.kin hk (aJ (ha (XB X pins σ Ex) cp pins s σ H _ (I.wish _) h) fun us s1 h1=>⟨?_,?_⟩) he hpl
 ·obtain ⟨_,_,I1,_⟩:=h1
  exact I1.kIn
 ·obtain ⟨vs,H1,I1,r,q⟩:=h1
  have I1:=I1.unwish
  have hl:us.length=ps.length:=by rw [<- r.length]; exact F.len _ _ _ _ q
  have bd:=hb s1 us I1.kIn (by rw [bd0]; exact hl)
  rw [bd0] at bd
  refine wpAny_call (codeAny_mono (F.run X.A X.stack s1 H1 ⟨us,[]⟩ us vs _ Ex hr I1.env0 bd r q) fun rs s' hq=>?_)
  cases rs with
  | error ev=>exact⟨H1,s1,I1,hq⟩
  | ok fl=>
   cases fl with
   | ret u=>
    obtain ⟨v,H2,I2,_,q2⟩:=I1.after hq
    exact wpAny_execs_nil ⟨σ,H2,I2,q2⟩
   | next=>exact False.elim hq
   | brk=>exact False.elim hq
   | cont=>exact False.elim hq
def O4 (K:PySem.W.Frag) (Ch:Addr) (i:Nat) (tb:TB) (ts:TS):TS:=fun D σ H=>
 tb D (fun c _ H'=>∀ (a C:Addr) (oe:Obj),c = .ref C->H' a=none->oe.cls = .ref C->PySem.W.subIn K (.ref C) (.ref Ch)=some true/\ts (vW D i) (σ.set i (some (.ref a))) (upd H' a (.frz oe (.own a)))) σ H
theorem aC6 (hstk:X.stack=X.env :: X.outer/\X.env.frame=some X.env.locals) (hb:PB X body tb) (hg:Gl X x) (hm:X.mg x=some (.ref Ch)) (ct:vX X.K Ch) (hN:X.N.Nodup) (hi:X.N[i]? = some n) (hl:X.env.scope.names.lookup n=some .local) (hs:∀ a,dC (X.suite a) (b₀ :: suite) ts)
  (hd:(x == ("__debug__" : Str))=false:=by decide):PS X (.Try body [.ExceptHandler (some (.Name x np)) (some n) (b₀ :: suite) hpos] [] [] pos) (O4 X.K Ch i tb ts):=by
 intro pins s σ H D I h
 refine wpAny_Try_except (bh9 (hb pins s σ H D _ I h) (fun fl s1 q=>?_) (fun ev s1 q=>?_))
 ·cases fl with
  | next=>exact wpAny_execs_nil q
  | _=>exact q
 ·obtain ⟨H1,s2,I1,H',B,a,C,e1,fl,q⟩:=q
  subst e1
  obtain ⟨a0,fly⟩:=fl.fly
  obtain ⟨o5,_,_,c5,_⟩:=fly.first
  exact aC3 I1 fl hstk hg hm ct (q a C o5 rfl fl.fresh c5).1 hN hi hl (hs a) (fun oe hc=>(q a C oe rfl fl.fresh hc).2) hd
end
end L2
namespace L2
open PySem PySem.Spec PyProof.Rows PySem.Calls Builtin Builtin.ObjectAttr Builtin.Getset_descriptor
structure gY (K:PySem.W.Frag) (D:Addr):Prop where
 cls:(PySem.W.clsIn K D).isSome=true
 ga:PySem.W.findIn K (.ref D) "__getattribute__" = some (some (.builtin "BaseException.__getattribute__"))
 gt:PySem.W.findIn K (.ref D) "__getattr__" = some none
 fc:PySem.W.findIn K (.ref D) "__class__" = some (some (.builtin "object.__class__"))
 fg:PySem.W.specialIn K (.builtin "object.__class__") "__get__" = some (some (.builtin "getset_descriptor.__get__"))
 ft:PySem.W.takesIn K (.builtin "object.__class__")=some true
 ob:PySem.W.mroIn K D (.type "object")=some true
 be:PySem.W.mroIn K D (.type "BaseException")=some true
def jG (h:Heap) (x D:Addr):Prop:=∃ ox:Obj,h.get? x=some ox/\ox.cls = .ref D
theorem jG.type {h:Heap}{x D:Addr}{M:Model} (I:jG h x D):PySem.W.Looks M h (typeOf (.ref x)) (.ref D):=by
 obtain ⟨ox,e,c⟩:=I
 exact c ▸ (PySem.W.Looks.ld e).andThen .now
section
variable {prog : Program} {w : World} {A : Around} {E : Value → Shared → Prop} {K : PySem.W.Frag} {x D : Addr} {h : Heap} {g : Array GenState} {d : Drawn} {t : Nat} {os : OsState}
theorem aC7 {M:Model} (F:gY K D) (k:K.In h):PySem.W.Looks M h (find (.ref x) (.ref D) "__class__") (.bind (.builtin "getset_descriptor.__get__") (.builtin "object.__class__")):=by
 have L1:=PySem.W.looks_findIn (M:=M) k F.fc
 have L2:=PySem.W.looks_specialIn (M:=M) k F.fg
 have L3:=PySem.W.looks_takesIn (M:=M) k F.ft
 unfold find
 refine L1.andThen (PySem.W.Looks.andThen (a:=some (Value.builtin "getset_descriptor.__get__")) L2 ?_)
 refine PySem.W.Looks.andThen (a:=some (Value.builtin "getset_descriptor.__get__",Value.builtin "object.__class__")) ?_ (PySem.W.Looks.tag .now)
 unfold dataDescriptor?
 exact L3.andThen .now
theorem aC8 {tp:Value}{R:Result->Shared->Prop} (F:gY K D) (k:K.In h) (I:jG h x D) (hq:R (.ok (.ret (.ref D))) ⟨h,g,d,t,os⟩):codeAny (model prog w) A (.call (.builtin "getset_descriptor.__get__") ⟨[.builtin "object.__class__",.ref x,tp],[]⟩) R ⟨h,g,d,t,os⟩:=by
 have L0:=I.type (M:=model prog w)
 have L1:=PySem.W.looks_mroIn (M:=model prog w) k F.ob
 refine codeAny_call_builtin PySem.W.KF.slot_gs.plain PySem.W.KF.entry_gs (PySem.W.KF.slot_gs.check _ _ _ _ _ _ _ _ PySem.W.KF.type_class (PySem.W.KF.args_gs _ _ _) ?_)
 unfold Builtin.«getset_descriptor.__get__» descrGet; rw [PySem.W.dga_obj]
 refine aY9 (aZ5 ?_); unfold descrGetter descrCheckInstance descrNameAndClass isInstance
 simp only [PySem.W.KF.owner_class]
 repeat lk
 refine⟨Code.quiet_builtin _ (by decide +kernel),codeAny_builtin PySem.W.KF.entry_class ?_⟩; unfold Builtin.«object.__class__» shownTypeOf
 repeat lk
 exact hq
theorem aC9 {M:Model}{nameV:Value}{Q:Unit->Shared->Prop} (F:gY K D) (k:K.In h) (I:jG h x D) (hq:Q () ⟨h,g,d,t,os⟩):wpAny M A (checkBuiltinCall "BaseException.__getattribute__" ⟨[.ref x,nameV],[]⟩) Q E ⟨h,g,d,t,os⟩:=by
 have kd:builtinKind "BaseException.__getattribute__" = some .slot:=by decide +kernel
 have sp:splitId "BaseException.__getattribute__" = some ("BaseException","__getattribute__"):=by decide +kernel
 have L:PySem.W.Looks M h (isInstance (.ref x) (.type "BaseException")) true:=(I.type (M:=M)).andThen (PySem.W.looks_mroIn k F.be)
 have ha:=PySem.F.args_bexc_ga (.ref x) nameV
 simp only [checkBuiltinCall,kd,sp]
 refine aY9 (L.at ?_)
 repeat (any_goals (first | assumption | wp_step))
theorem aD0 {tk:Tok}{Q:Fin->Shared->Prop} (F:gY K D) (k:K.In h) (I:jG h x D) (hq:Q (.done (.ret (.ref D))) ⟨h,g,d,t,os⟩):wpAny (model prog w) A (Builtin.«object.__getattribute__» ⟨[.ref x,.str "__class__" tk],[]⟩) Q E ⟨h,g,d,t,os⟩:=by
 have L0:=I.type (M:=model prog w)
 have L1:=aC7 (M:=model prog w) F k (x:=x)
 refine aY9 (aZ5 (aY9 (aZ5 (aY9 (L0.at (aY9 (L1.at ?_)))))))
 show wpAny _ _ (holding [_] (call _ _) >>= ret) _ _ _
 exact aY9 (bh7 (wpAny_call (aC8 F k I (aZ5 hq))))
theorem aD1 {tk:Tok}{R:Result->Shared->Prop} (F:gY K D) (k:K.In h) (I:jG h x D) (hq:R (.ok (.ret (.ref D))) ⟨h,g,d,t,os⟩):codeAny (model prog w) A (.call (.builtin "BaseException.__getattribute__") ⟨[.ref x,.str "__class__" tk],[]⟩) R ⟨h,g,d,t,os⟩:=
 codeAny_call_builtin PySem.F.excAttr_ValueError.ga.plain PySem.F.entry_bexc_ga (aC9 F k I (aD0 F k I hq))
theorem aD2 {Q:Option Value->Shared->Prop} (F:gY K D) (k:K.In h) (I:jG h x D) (hq:Q (some (.ref D)) ⟨h,g,d,t+1,os⟩):wpAny (model prog w) A (getAttr? (.ref x) "__class__") Q E ⟨h,g,d,t,os⟩:=by
 have L0:=I.type (M:=model prog w)
 have L1:=PySem.W.looks_findIn (M:=model prog w) k F.ga
 have L2:=PySem.W.looks_findIn (M:=model prog w) k F.gt
 have f3:=PySem.F.excAttr_ValueError.ga.bind (.ref x)
 unfold getAttr? getAttrBy? getAttrBy
 refine aY9 (wpAny_mkText (aY9 (wpAny_attempt (bh7 (aY9 (L0.at (aY9 (L1.at ?_))))))))
 have nx:(onTheHeap (Value.ref D) && Value.builtin "BaseException.__getattribute__" == Value.builtin "object.__getattribute__")=false:=by
  rw [show (Value.builtin "BaseException.__getattribute__" == Value.builtin "object.__getattribute__")=false by decide +kernel,Bool.and_false]
 dsimp only
 rw [if_neg (by rw [nx]; decide)]
 unfold getAttrByItsOwn hookBefore
 repeat (any_goals (first | assumption | (with_reducible refine L2.at ?_) | wp_step))
 exact aD1 F k I (PySem.W.handed_on rfl (aZ5 hq))
end
theorem aD3 {K:PySem.W.Frag}{x D:Addr} (F:gY K D):PySem.W.KitX K (.ref x) (.ref D) (fun h=>jG h x D) where
 ty:=fun _ _ _ I=>I.type
 it:=fun M h k _=>by
  have z:=F.cls
  unfold PySem.W.clsIn at z
  split at z
  ·rename_i c' d' cd' sl' ho
   intro A' Q' E' s' kk q
   unfold isType loadHead
   exact aY9 (wpAny_loadPart (kk _ _ (k _ _ ho)) (aZ5 q))
  ·cases z
 ne:=fun h tp dd its n sl k htp=>by
  have z:=F.cls
  refine Bool.eq_false_iff.mpr fun q=>?_
  obtain rfl:D=tp:=Value.ref.inj (beq_iff_eq.mp q)
  unfold PySem.W.clsIn at z
  split at z
  ·rename_i ho
   have y:=(k _ _ ho).symm.trans htp
   cases y
  ·cases z
 ca:=fun {_ _ _ _ _ s} k I q=>by
  obtain ⟨h,g,d,t,os⟩:=s
  exact aD2 F k I q
end L2
namespace Core
open PySem L2 PP
def gK (ns:List Int):Bool:=((ns.zip (ns.drop 1)).map fun p=>decide (p.1 < p.2)).all id
theorem oB {α β:Type}{l:List α}{f:α->β}{i:Nat}{x:α} (h:l[i]? = some x):(l.take (i+1)).map f=(l.take i).map f ++ [f x]:=by
 rw [bd6,h]; simp
theorem iP:∀ {ns:List Int},gK ns=true->ns.Pairwise (· < ·)
 | [],_=>.nil
 | [x],_=>bf5 _ _
 | x :: y :: r,h=>by
  have e:gK (x :: y :: r)=(decide (x < y) && gK (y :: r)):=rfl
  rw [e,bf3] at h
  have ih:=iP h.2
  refine List.pairwise_cons.mpr ⟨fun z hz=>?_,ih⟩
  rcases aZ6.mp hz with rfl | hz
  ·exact bl1 h.1
  ·exact Int.lt_trans (bl1 h.1) (List.rel_of_pairwise_cons ih hz)
theorem vY:∀ {ns:List Int},ns.Pairwise (· < ·)->gK ns=true
 | [],_=>rfl
 | [x],_=>rfl
 | x :: y :: r,h=>by
  have e:gK (x :: y :: r)=(decide (x < y) && gK (y :: r)):=rfl
  have h':=List.pairwise_cons.mp h
  rw [e,vY h'.2,Bool.and_true]
  exact ba2 (h'.1 y bb1)
def kin (ws:List Int) (ls:List (Int × Int)) (S:List Int) (h:Int):Bool:=!decide (h ∈ S) && decide (ws.getD h.toNat 0<=(((bJ ls h).filter fun x=>decide (x ∈ S)).length:Int))
def nextOf (ws:List Int) (ls:List (Int × Int)) (S:List Int):List Int:=((List.range ws.length).map fun (i:Nat)=>(i:Int)).filter (kin ws ls S)
def aY (ws:List Int) (ls:List (Int × Int)) (S:List Int):Nat->List Int
 | 0=>S
 | k+1=>aY ws ls S k ++ nextOf ws ls (aY ws ls S k)
def cold (ws:List Int) (S:List Int):Nat:=(((List.range ws.length).map fun (i:Nat)=>(i:Int)).filter fun x=>!decide (x ∈ S)).length
theorem vZ {α:Type} (p q:α->Bool) (h:∀ x,q x=true->p x=false):∀ L:List α,(L.filter fun x=>!p x && !q x).length+(L.filter q).length=(L.filter fun x=>!p x).length
 | []=>rfl
 | x :: r=>by
  have ih:=vZ p q h r
  cases e1:p x with
  | true=>
   have e2:q x=false:=by
    cases e:q x with
    | false=>rfl
    | true=>have:=h x e; rw [e1] at this; cases this
   simp only [bg1,e1,e2,Bool.not_true,Bool.false_and,bc4,bi7]
   exact ih
  | false=>
   cases e2:q x with
   | true=>
    simp only [bg1,e1,e2,Bool.not_true,Bool.not_false,Bool.and_false,bc4,bi7,if_true,bd5]
    omega
   | false=>
    simp only [bg1,e1,e2,Bool.not_false,Bool.and_true,bc4,bi7,if_true,bd5]
    omega
theorem w4 {ws:List Int}{ls:List (Int × Int)}{S:List Int}{x:Int} (h:kin ws ls S x=true):decide (x ∈ S)=false:=by
 unfold kin at h
 cases e:decide (x ∈ S) with
 | false=>rfl
 | true=>rw [e] at h; cases h
theorem aD4 (ws:List Int) (ls:List (Int × Int)) (S:List Int):cold ws (S ++ nextOf ws ls S)+(nextOf ws ls S).length=cold ws S:=by
 have e:=vZ (fun x=>decide (x ∈ S)) (kin ws ls S) (fun x h=>w4 h) ((List.range ws.length).map fun (i:Nat)=>(i:Int))
 unfold cold
 rw [<- e]
 congr 2
 refine List.filter_congr fun x hx=>?_
 have:decide (x ∈ S ++ nextOf ws ls S)=(decide (x ∈ S) || kin ws ls S x):=by
  rw [bg9]
  unfold nextOf
  simp only [bc0,bb3,bc5,Bool.or_eq_true]
  exact⟨fun z=>z.elim .inl fun z=>.inr z.2,fun z=>z.elim .inl fun z=>.inr ⟨hx,z⟩⟩
 rw [this]
 cases decide (x ∈ S) <;> cases kin ws ls S x <;> rfl
def after (ws:List Int) (ls:List (Int × Int)) (S:List Int) (m:Nat):List (List Int):=(List.range m).map fun k=>nextOf ws ls (aY ws ls S k)
theorem w5 (ws:List Int) (ls:List (Int × Int)) (ns:List Int):∀ k,(aY ws ls ns k).length+cold ws (aY ws ls ns k)=ns.length+cold ws ns
 | 0=>rfl
 | k+1=>by
  have ih:=w5 ws ls ns k
  have cs:=aD4 ws ls (aY ws ls ns k)
  show (aY ws ls ns k ++ nextOf ws ls (aY ws ls ns k)).length+cold ws (aY ws ls ns k ++ nextOf ws ls (aY ws ls ns k))=_
  rw [ba8]; omega
theorem O5 {ws ns:List Int} (hu:ns.Pairwise (· < ·)) (hin:∀ x ∈ ns,0<=x/\x < (ws.length:Int)):ns.length+cold ws ns<=ws.length:=by
 have nd:ns.Nodup:=hu.imp fun h=>Int.ne_of_lt h
 have sub:ns ⊆ ((List.range ws.length).map fun (i:Nat)=>(i:Int)).filter fun x=>decide (x ∈ ns):=fun x hx=>by
  refine bc5.mpr ⟨be0.mpr ⟨x.toNat,List.mem_range.mpr ?_,?_⟩,ba2 hx⟩
  ·have:=hin x hx; omega
  ·have:=hin x hx; omega
 have h1:=nd.length_le_of_subset sub
 have h2:=vZ (fun _=>false) (fun x=>decide (x ∈ ns)) (fun _ _=>rfl) ((List.range ws.length).map fun (i:Nat)=>(i:Int))
 have h3:(((List.range ws.length).map fun (i:Nat)=>(i:Int)).filter fun x=>!false && !decide (x ∈ ns)).length=cold ws ns:=rfl
 have h4:(((List.range ws.length).map fun (i:Nat)=>(i:Int)).filter fun x=>!false).length<=ws.length:=by
  refine bd4 (List.length_filter_le _ _) ?_
  rw [ba3,List.length_range]; exact aZ3 _
 rw [h3] at h2
 omega
def c8 (ws:List Int) (ls:List (Int × Int)) (ns:List Int) (m:Nat):Prop:=(∀ k < m,nextOf ws ls (aY ws ls ns k) ≠ [])/\nextOf ws ls (aY ws ls ns m) = []
theorem gL {ns:List Int}{i:Nat}{x:PV} (h:(intz ns)[i]? = some x):∃ n,x = .int n/\ns[i]? = some n:=by
 rw [ba1] at h
 cases e:ns[i]? with
 | none=>rw [e] at h; cases h
 | some n=>rw [e] at h; exact⟨n,(bc1 h).symm,rfl⟩
theorem iQ {lo:Int}{n i:Nat}{x:PV} (h:(eY lo n)[i]? = some x):x = .int (lo+i)/\i < n:=by
 have hi:i < n:=by
  have:=(aZ9.mp h).1
  rwa [eC] at this
 rw [F9 hi] at h
 exact⟨(bc1 h).symm,hi⟩
def rng (n:Nat):List Int:=(List.range n).map fun (i:Nat)=>(i:Int)
theorem fJ (n:Nat):(rng n).length=n:=by unfold rng; rw [ba3,List.length_range]
theorem qT {n i:Nat} (h:i < n):(rng n)[i]? = some (i:Int):=by unfold rng; rw [ba1,List.getElem?_range h]; rfl
theorem fK {n:Nat}{x:Int}:x ∈ rng n ↔ 0<=x/\x < (n:Int):=by
 unfold rng
 rw [be0]
 constructor
 ·rintro ⟨i,hi,rfl⟩
  have:=List.mem_range.mp hi
  omega
 ·intro h
  exact⟨x.toNat,List.mem_range.mpr (by omega),by omega⟩
theorem oC {α:Type}{l:List α}{p:α->Bool}{i:Nat}{x:α} (h:l[i]? = some x):(l.take (i+1)).filter p=(l.take i).filter p ++ (if p x=true then [x] else []):=by
 rw [bd6,h,List.filter_append]
 congr 1
 cases e:p x <;> simp [e]
theorem gM (a b:List Int):intz (a ++ b)=intz a ++ intz b:=bc2
theorem aZ (a:List Int):(intz a).length=a.length:=ba3 _
def bH (ws:List Int) (ls:List (Int × Int)):PV:=.tup [.tup (intz ws),.tup (ls.map fun l=>.tup [.int l.1,.int l.2])]
structure Wb (ws:List Int) (ls:List (Int × Int)):Prop where
 few:ws.length<=40
 most:ls.length<=1700
 links:∀ l ∈ ls,(0<=l.1/\l.1 < ws.length)/\0<=l.2/\l.2 < ws.length
def cJ (x:PV) (ns:List Int):Prop:=x = .tup (intz ns) ∨ x = .lst (intz ns)
theorem cJ.seq {x:PV}{ns:List Int} (h:cJ x ns):iF x=some (intz ns):=by rcases h with rfl | rfl <;> rfl
theorem cJ.seqT {x:PV}{ns:List Int} (h:cJ x ns):seqT x=some (intz ns):=by rcases h with rfl | rfl <;> rfl
theorem O6:∀ (ls:List (Int × Int)),flats (ls.map fun l=>PV.tup [.int l.1,.int l.2])=true
 | []=>rfl
 | l :: r=>by
  show (flat (.tup [.int l.1,.int l.2]) && flats (r.map fun l=>PV.tup [.int l.1,.int l.2]))=true
  rw [O6 r]; rfl
theorem qU (ns:List Int):flat (.tup (intz ns))=true:=cZ ns
def iR:bD:=fun xs Q=>∃ ws ls,xs = [bH ws ls]/\Q (.int ws.length)
def O7:aK:=(bK (aF cM (a7 (bG (a5 0) (qC (.int 0))) aA)))
abbrev cO (t:aK) (N:List Str) (p:bD):Prop:=∀ xs Q,p xs Q->t { nx:=fun _=>Q .non,rt:=Q } (fA N xs)
theorem aD5:cO O7 ["web"] iR:=by
 rintro xs Q ⟨ws,ls,rfl,q⟩
 refine⟨_,rfl,_,_,_,rfl,rfl,rfl,_,_,rfl,rfl,trivial,?_⟩
 rw [aZ]; exact q
def w6:bD:=fun xs Q=>∃ x ns,xs = [x]/\cJ x ns/\ns.length<=1000/\Q (.bl (gK ns))
def inB (n:Nat) (x:Int):Bool:=decide (0<=x) && decide (x < (n:Int))
def qV:bD:=fun xs Q=>∃ ws ls n,xs = [bH ws ls,.int n]/\Q (.bl (inB ws.length n))
def O8:aK:=(bK (lD (vA (a5 1) (qC (.int 0))) (nR (a5 1) (aF iR (a7 (a5 0) aA)))))
theorem aD6:cO O8 ["web","number"] qV:=by
 rintro xs Q ⟨ws,ls,n,rfl,q⟩
 refine⟨_,rfl,_,_,rfl,rfl,_,rfl,?_⟩
 unfold inB at q
 by_cases h:(0:Int)<=n
 ·rw [ba2 h] at q ⊢
  refine bI ⟨_,rfl,_,rfl,ws,ls,rfl,_,_,rfl,rfl,trivial,?_⟩
  simpa using q
 ·rw [aZ8 h] at q ⊢
  exact b6 ⟨trivial,by simpa using q⟩
def bC (n:Nat) (ns:List Int):Bool:=gK ns && (ns.map (inB n)).all id
def qW:bD:=fun xs Q=>∃ ws ls x ns,xs = [bH ws ls,x]/\cJ x ns/\ns.length<=1000/\Q (.bl (bC ws.length ns))
def O9:aK:=(bK (lD (aF w6 (a7 (a5 1) aA)) (aF uP (a7 (dA (dH (a5 1)) [none,some 0] (bS 0) dZ (aF qV (a7 (a5 1) (a7 (a5 0) aA)))) aA))))
theorem jH {x:PV}{ns:List Int} (h:cJ x ns):(Slot.sh (flat x) x).tag = .rd->flat x=true:=by
 cases flat x <;> intro z <;> cases z
theorem aD7:cO O9 ["web","numbers"] qW:=by
 rintro xs Q ⟨ws,ls,x,ns,rfl,hx,hl,q⟩
 refine⟨_,rfl,x,ns,rfl,hx,hl,_,rfl,?_⟩
 unfold bC at q
 cases h:gK ns with
 | false=>rw [h] at q; exact b6 ⟨trivial,q⟩
 | true=>
  rw [h] at q
  refine bI ⟨_,rfl,_,hx.seq,jH hx,by rw [aZ]; omega,fun i acc=>acc=(((ns.take i).map (inB ws.length)).map PV.bl),rfl,?_,?_⟩
  ·rintro i y acc hy rfl
   obtain ⟨n,rfl,hn⟩:=gL hy
   have tk:((ns.take (i+1)).map (inB ws.length)).map PV.bl=((ns.take i).map (inB ws.length)).map PV.bl ++ [PV.bl (inB ws.length n)]:=by rw [oB hn,bc2]; rfl
   exact⟨_,rfl,_,rfl,ws,ls,n,rfl,trivial,tk.symm⟩
  ·rintro acc rfl
   rw [aZ,bc6]
   exact⟨_,rfl,trivial,by simpa using q⟩
theorem cJ.noscr {x:PV}{ns:List Int} (h:cJ x ns):∀ ms,([x]:List PV) ≠ [.scr ms]:=by
 rcases h with rfl | rfl <;> intro ms z <;> cases z
structure DS (ps:List (aP × PV)) (S:List Int):Prop where
 has:∀ i:Int,(cS ps (Sum.inl i:aP)).isSome=decide (i ∈ S)
 len:ps.length<=S.length
 fl:flats (ps.map (·.2))=true
theorem DS.nil:DS [] []:=⟨fun i=>rfl,aZ3 _,rfl⟩
section
variable {κ : Type} [DecidableEq κ]
theorem iS {p:κ × PV}{r:List (κ × PV)}{k:κ} (e:p.1=k):cS (p :: r) k=some p.2:=by simp [cS,bk1,e]
theorem iT {p:κ × PV}{r:List (κ × PV)}{k:κ} (e : ¬ p.1=k):cS (p :: r) k=cS r k:=by simp [cS,bk1,e]
theorem w9 (k:κ):∀ kvs:List (κ × PV),(kvs.any fun kv=>decide (kv.1=k))=(cS kvs k).isSome
 | []=>rfl
 | p :: r=>by
  rw [bn0]
  by_cases e:p.1=k
  ·simp only [iS e,ba2 e,Bool.true_or,Option.isSome_some]
  ·rw [iT e,aZ8 e,Bool.false_or]; exact w9 k r
theorem P0 (k j:κ) (y:PV):∀ kvs:List (κ × PV),cS (kvs.map fun kv=>if kv.1=k then (kv.1,y) else kv) j=(cS kvs j).map fun x=>if j=k then y else x
 | []=>rfl
 | p :: r=>by
  have ih:=P0 k j y r
  rw [be9]
  by_cases h:p.1=k
  ·rw [if_pos h]
   by_cases e:p.1=j
   ·rw [iS (p:=(p.1,y)) e,iS e,Option.map_some,if_pos (e.symm.trans h)]
   ·rw [iT (p:=(p.1,y)) e,iT e,ih]
  ·rw [if_neg h]
   by_cases e:p.1=j
   ·rw [iS (p:=p) e,iS e,Option.map_some,if_neg (fun z=>h (e.trans z))]
   ·rw [iT (p:=p) e,iT e,ih]
theorem P3 (k j:κ) (y:PV):∀ kvs:List (κ × PV),cS kvs k=none->cS (kvs ++ [(k,y)]) j=if j=k then some y else cS kvs j
 | [],_=>by
  by_cases e:k=j
  ·rw [if_pos e.symm]; exact iS (p:=(k,y)) e
  ·rw [if_neg (fun z=>e z.symm)]; exact iT (p:=(k,y)) e
 | p :: r,hn=>by
  rw [List.cons_append]
  have hk : ¬ p.1=k:=fun z=>by rw [iS z] at hn; cases hn
  rw [iT hk] at hn
  have ih:=P3 k j y r hn
  by_cases e:p.1=j
  ·rw [iS e,iS e,if_neg (fun z=>hk (e.trans z))]
  ·rw [iT e,iT e,ih]
theorem aD8 (kvs:List (κ × PV)) (k j:κ) (y:PV):cS (fV kvs k y) j=if j=k then some y else cS kvs j:=by
 unfold fV
 by_cases a:(kvs.any fun kv=>decide (kv.1=k))=true
 ·rw [if_pos a,P0]
  rw [w9] at a
  by_cases e:j=k
  ·obtain ⟨x,hx⟩:=Option.isSome_iff_exists.mp a
   rw [if_pos e,e,hx,Option.map_some,if_pos rfl]
  ·rw [if_neg e]
   cases cS kvs j with
   | none=>rfl
   | some x=>rw [Option.map_some,if_neg e]
 ·rw [if_neg a]
  refine P3 k j y kvs ?_
  rw [w9] at a
  cases q:cS kvs k with
  | none=>rfl
  | some x=>rw [q] at a; exact (a rfl).elim
theorem aD9 (kvs:List (κ × PV)) (k:κ) (v:PV):(fV kvs k v).length<=kvs.length+1:=by
 unfold fV
 split
 ·rw [ba3]; omega
 ·rw [ba8,bd5,List.length_nil]; omega
end
theorem wA:∀ (xs:List PV),flats xs=true ↔ ∀ x ∈ xs,flat x=true
 | []=>by simp [flats]
 | x :: r=>by
  unfold flats
  rw [bf3,wA r]; simp
theorem aE0 {κ:Type} [DecidableEq κ] {ps:List (κ × PV)}{k:κ}{v:PV}{p:κ × PV} (h:p ∈ fV ps k v):p.2=v ∨ p ∈ ps:=by
 unfold fV at h
 split at h
 ·obtain ⟨q,hq,e⟩:=be0.mp h
  split at e
  ·subst e; exact .inl rfl
  ·subst e; exact .inr hq
 ·rcases bb3.mp h with h | h
  ·exact .inr h
  ·rw [aZ4.mp h]; exact .inl rfl
theorem aE1 {κ:Type} [DecidableEq κ] {ps:List (κ × PV)}{k:κ}{v:PV} (h:flats (ps.map (·.2))=true) (hv:flat v=true):flats ((fV ps k v).map (·.2))=true:=by
 rw [wA] at h ⊢
 intro x hx
 obtain ⟨p,hp,rfl⟩:=be0.mp hx
 rcases aE0 hp with e | e
 ·rw [e]; exact hv
 ·exact h _ (be0.mpr ⟨p,e,rfl⟩)
theorem DS.put {ps:List (aP × PV)}{S:List Int} (h:DS ps S) (x:Int) (v:PV) (hv:flat v=true):DS (fV ps (Sum.inl x:aP) v) (S ++ [x]):=by
 refine⟨fun i=>?_,?_,aE1 h.fl hv⟩
 ·rw [aD8]
  by_cases e:i=x
  ·subst e; rw [if_pos rfl]; simp
  ·rw [if_neg (fun z=>e (Sum.inl.inj z)),h.has]
   simp [e]
 ·have:=aD9 ps (Sum.inl x:aP) v
  have:=h.len
  rw [ba8,bg6]; omega
def qX:bD:=fun xs Q=>∃ x ns,xs = [x]/\cJ x ns/\ns.length<=1000/\∀ ps,DS ps ns->Q (.dK ps)
def P4:aK:=(aL (gU 1 (qC (.dK [])))
 (aL (eZ (dH (a5 0)) (bS 2)
  (uY 1 (a5 2) (qC (.bl true))))
 (j8 1)))
theorem aE2:cO P4 ["hearths","inside","hearth"] qX:=by
 rintro xs Q ⟨x,ns,rfl,hx,hl,q⟩
 refine⟨rfl,rfl,_,rfl,_,hx.seq,jH hx,fun i ρ=>∃ y ps,ρ = [some (.sh (flat x) x),some (.own (.dK ps)),y]/\DS ps (ns.take i),⟨none,[],rfl,DS.nil⟩,?_,?_⟩
 ·rintro i y ρ hy ⟨y0,ps,rfl,d⟩
  obtain ⟨n,rfl,hn⟩:=gL hy
  have hlen:=d.len
  rw [bh3] at hlen
  refine⟨_,rfl,_,rfl,Sum.inl n,rfl,trivial,by omega,_,_,rfl,?_⟩
  rw [bd6,hn]
  exact d.put n _ rfl
 ·rintro ρ ⟨y,ps,rfl,d⟩
  rw [aZ,bc6] at d
  exact⟨_,rfl,trivial,q ps d⟩
def qY:bD:=fun xs Q=>∃ x ns ps S,xs = [x,.dK ps]/\cJ x ns/\DS ps S/\ns.length<=10000/\Q (.int ((ns.filter fun x=>decide (x ∈ S)).length:Nat))
def P5:aK:=(bK (aF cM (a7 (dA (dH (a5 0)) [none,some 1] (bS 0) (aV (uX false (a5 0) (a5 1))) (a5 0)) aA)))
theorem aE3:cO P5 ["hearths","inside"] qY:=by
 rintro xs Q ⟨x,ns,ps,S,rfl,hx,d,hl,q⟩
 refine⟨_,rfl,_,hx.seq,jH hx,by rw [aZ]; omega,fun i acc=>acc=intz ((ns.take i).filter fun x=>decide (x ∈ S)),rfl,?_,?_⟩
 ·rintro i y acc hy rfl
  obtain ⟨n,rfl,hn⟩:=gL hy
  have tk:=oC (p:=fun x=>decide (x ∈ S)) hn
  refine⟨_,rfl,_,rfl,_,.inl ⟨ps,Sum.inl n,rfl,rfl,rfl⟩,_,rfl,?_⟩
  show if (cS ps (Sum.inl n:aP)).isSome=true then _ else _
  rw [d.has n]
  by_cases h:n ∈ S
  ·rw [ba2 h] at tk ⊢
   refine bI ⟨_,rfl,trivial,?_⟩
   rw [if_pos rfl] at tk
   show _=intz (List.filter _ (List.take (i+1) ns))
   rw [tk,gM]; rfl
  ·rw [aZ8 h] at tk ⊢
   refine b6 ?_
   rw [if_neg (by decide),bd0] at tk
   show _=intz (List.filter _ (List.take (i+1) ns))
   rw [tk]
 ·rintro acc rfl
  rw [aZ,bc6]
  refine⟨_,_,rfl,rfl,trivial,?_⟩
  rw [aZ]; exact q
def jI (n:Nat) (ls:List (Int × Int)):List PV:=(List.range n).map fun (k:Nat)=>PV.lst (intz (bJ ls k))
def oD:bD:=fun xs Q=>∃ ws ls,xs = [bH ws ls]/\Wb ws ls/\Q (.lst (jI ws.length ls))
theorem P6 {n:Nat}{ls:List (Int × Int)}{h:Int} (h0:0<=h) (h1:h < (n:Int)):atI (jI n ls) h=some (.lst (intz (bJ ls h))):=by
 refine jX h0 ?_
 unfold jI
 rw [ba1,List.getElem?_range (by omega)]
 show some (PV.lst (intz (bJ ls ((h.toNat:Nat):Int))))=_
 rw [show ((h.toNat:Nat):Int)=h by omega]
theorem wB {ws:List Int}{h:Int} (h0:0<=h) (h1:h < (ws.length:Int)):atI (intz ws) h=some (.int (ws.getD h.toNat 0)):=by
 refine jX h0 ?_
 have:h.toNat < ws.length:=by omega
 rw [ba1,aZ7,aZ0 this]; rfl
def tups (rs:List (List Int)):List PV:=rs.map fun r=>PV.tup (intz r)
theorem oE {rs:List (List Int)}{i:Nat}{x:PV} (h:(tups rs)[i]? = some x):∃ r,x = .tup (intz r)/\rs[i]? = some r:=by
 unfold tups at h
 rw [ba1] at h
 cases e:rs[i]? with
 | none=>rw [e] at h; cases h
 | some n=>rw [e] at h; exact⟨n,(bc1 h).symm,rfl⟩
theorem eI (rs:List (List Int)):(tups rs).length=rs.length:=ba3 _
theorem oF:∀ (rs:List (List Int)),flats (tups rs)=true
 | []=>rfl
 | r :: t=>by
  show (flat (.tup (intz r)) && flats (tups t))=true
  rw [qU,oF t]; rfl
theorem dL {n:Nat}{ns:List Int} (h:bC n ns=true):gK ns=true/\∀ x ∈ ns,0<=x/\x < (n:Int):=by
 unfold bC at h
 rw [bf3,bi2] at h
 refine⟨h.1,fun x hx=>?_⟩
 have:=h.2 _ (be0.mpr ⟨x,hx,rfl⟩)
 unfold inB at this
 simpa using this
theorem oG {n:Nat}{ns:List Int} (h:bC n ns=true):ns.length<=n:=by
 obtain ⟨h1,h2⟩:=dL h
 have:=O5 (ws:=List.replicate n (0:Int)) (iP h1) (by rw [List.length_replicate]; exact h2)
 rw [List.length_replicate] at this
 omega
end Core
namespace PP
open PySem L2
def P7 (te:aB):aB:=fun ρ Q=>te ρ fun x _=>∃ n:Int,x = .int n/\0<=n/\n<=1000000/\Q (.lst (eY 0 n.toNat)) .fr
end PP
namespace Core
open PySem L2 PP
theorem aE4 (g:Tg) (n:Int):Nw g (.int n):=by cases g <;> first | exact trivial | rfl
def oH (x:PV) (ns:List Int):Prop:=x = .scr ns ∨ x = .lst (intz ns)
theorem oH.seq {x:PV}{ns:List Int} (h:oH x ns):iF x=some (intz ns):=by rcases h with rfl | rfl <;> rfl
theorem oH.len {x:PV}{ns:List Int} (h:oH x ns):uN x=some ns.length:=by
 rcases h with rfl | rfl
 ·rfl
 ·show some (intz ns).length=_
  rw [aZ]
def fL:bD:=fun xs Q=>∃ x ns k,xs = [x,.int k]/\oH x ns/\0<=k/\Q (.int (ns.getD k.toNat 0))
def P8:aK:=(aL (cI (aV (nR (a5 1) (aF cM (a7 (a5 0) aA)))) (bK (bG (a5 0) (a5 1))) cX)
 (bK (qC (.int 0))))
theorem aE5:cO P8 ["script","k"] fL:=by
 rintro xs Q ⟨x,ns,k,rfl,hx,h0,q⟩
 refine⟨_,rfl,_,rfl,_,_,rfl,hx.len,_,_,rfl,rfl,_,rfl,?_⟩
 by_cases h:k < (ns.length:Int)
 ·rw [ba2 h]
  exact bI ⟨_,rfl,_,rfl,_,_,_,hx.seq,rfl,wB h0 h,aE4 _ _,q⟩
 ·rw [aZ8 h]
  rw [aZ7,List.getElem?_eq_none (by omega)] at q
  exact b6 ⟨trivial,q⟩
def fB (ls:List (Int × Int)):List PV:=ls.map fun l=>PV.tup [.int l.1,.int l.2]
def wC (l m:Int × Int):Prop:=l.1 < m.1 ∨ (l.1=m.1/\l.2 < m.2)
abbrev si (n:Int):Option Slot:=some (.sh true (.int n))
def qZ:bD:=fun xs Q=>∃ i,xs = [.int i]/\Q (.bl true)
def P9 (K:PySem.W.Frag):aK:=(bK (lD (k6 K "int" (a5 0)) (uI (k6 K "bool" (a5 0)))))
theorem cJ.len {x:PV}{ns:List Int} (h:cJ x ns):uN x=some ns.length:=by
 rcases h with rfl | rfl <;> (show some (intz ns).length=_; rw [aZ])
theorem aE6 {K:PySem.W.Frag} (k1:PySem.W.kitOne K (.type "int") (.type "int")=some true) (k2:PySem.W.kitOne K (.type "int") (.type "bool")=some false):cO (P9 K) ["found"] qZ:=by
 rintro xs Q ⟨i,rfl,q⟩
 exact⟨_,rfl,_,_,rfl,k1,_,rfl,bI ⟨_,rfl,_,_,rfl,k2,_,rfl,trivial,q⟩⟩
end Core
namespace PP
open PySem L2 PyProof.Rows
theorem Reps.rep {K:PySem.W.Frag}{M:Addr->Prop}{H:Hp}{us:List V}{xs:List PV} (r:Reps K M H us xs):∀ k:Nat,Reps K M H (List.replicate k us).flatten (List.replicate k xs).flatten
 | 0=>.nil
 | k+1=>by rw [bi3,bi3,bm3,bm3]; exact r.append (Reps.rep r k)
section
variable {X : Cx} {a b e : Expr} {ta tb te : aB} {tr : cH} {pos p2 p3 pos2 : Pos}
theorem aE7 {tA:TA} (hg:Gl X "range") (hm:X.mg "range" = none) (ha:PA X [a] tA) (hs:starEach [a] X.env = [(false,eval a X.env)]:=by rfl) :
  PE X (.Call (.Name "range" p2) [a] [] pos) (fun σ H Q=>tA σ H fun vs H1=>∃ j:Int,vs = [.int j]/\∀ r,H1 r=none->Q (.ref r) (upd H1 r (.rng 0 j))):=by
 intro pins s σ H Q I h
 refine Call_ (i5 I hg hm boot_range (bg5 (aJ (ha pos pins s σ H _ I h) fun us s1 ⟨vs,H1,I1,r1,q1⟩=>?_) hs rfl))
 obtain ⟨j,e,q⟩:=q1
 subst e
 cases r1 with
 | cons r rr=>
  cases rr
  obtain ⟨t,rfl⟩:=r
  refine call_range_1 ?_
  exact⟨.ref s1.heap.objs.size,_,I1.laid (o:=.rng 0 j) (fun b ob q=>aZ1 _ q) (aZ3 _) ⟨_,_,_,bb2 _ rfl⟩,rfl,q _ (I1.hok.fresh (aZ3 _))⟩
theorem Q0:∀ {xs:List V}{us:List Value},xs.length=us.length->(∀ (i:Nat) x u,xs[i]? = some x->us[i]? = some u->aO x u)->aH xs us
 | [],[],_,_=>.nil
 | x :: xs,u :: us,hl,h=>.cons (h 0 x u rfl rfl) (Q0 (by simpa using hl) fun i y w h1 h2=>h (i+1) y w (by rw [bi6]; exact h1) (by rw [bi6]; exact h2))
theorem aE8 {n:Nat}{acc:Array Value} (h:ItemsOf (fun i v=>∃ t,v = .int (0+(i:Int) * 1) t) acc n):aH (iD 0 n) acc.toList:=by
 obtain ⟨h1,h2⟩:=h
 refine Q0 (by rw [u5]; simp [h1]) fun i x u hx hu=>?_
 have hi:i < n:=by
  have:=(aZ9.mp hx).1
  rwa [u5] at this
 unfold iD at hx
 rw [ba1,List.getElem?_range hi] at hx
 cases hx
 obtain ⟨t,rfl⟩:=h2 i u (by rw [<- bi5]; exact hu)
 exact⟨t,by congr 1; omega⟩
theorem aE9 (hc:X.calm=true):cK X (.type "list") (fun xs H Q=>∃ r j,xs = [.ref r]/\H r=some (.rng 0 j)/\0<=j/\j<=1000000/\∀ l,H l=none->Q (.ref l) (upd H l (.lst (iD 0 j.toNat)))):=by
 intro pins s σ H xs us Q I r h
 obtain ⟨p,j,rfl,hq,h0,h1,q⟩:=h
 obtain ⟨u,rfl,rx⟩:=fY r
 cases rx
 obtain ⟨t,u,v,ho⟩:=(show bV X.prog X.w H s.heap p (.rng 0 j) from I.hok p _ hq)
 refine PySem.call_list_range (a:=0) (b:=j) (c:=1) (n:=j.toNat) (I.ok.hd hc) ho (small_one (by decide) (by decide) (by omega) (by omega)) (by rw [rangeSize_one]; split <;> omega) (by omega) fun h' tk acc' c' kp e it=>?_
 have vv:=aE8 it
 have eq:acc'.toList.toArray=acc':=by simp
 exact⟨.ref s.heap.objs.size,_,I.laid (t':=tk) (o:=.lst (iD 0 j.toNat)) kp (aZ3 _) ⟨by rw [u5]; exact lim (by omega),acc'.toList,c',vv,by rw [eq]; exact e⟩,rfl,q _ (I.hok.fresh (aZ3 _))⟩
theorem aF0 {K:PySem.W.Frag}{M:Addr->Prop}{H:Hp} (lo:Int) (n:Nat):Reps K M H (iD lo n) (eY lo n):=by
 unfold iD eY
 generalize List.range n=l
 induction l with
 | nil=>exact .nil
 | cons a r ih=>exact .cons (.int _) ih
theorem aF1 (B:Bt X.mg) (ha:QE X a ta) (hc:X.calm=true:=by rfl) (hg:Gl X "list":=by rfl) (hgr:Gl X "range":=by rfl) (hs:starEach [a] X.env = [(false,eval a X.env)]:=by rfl)
  (he:starEach [.Call (.Name "range" p3) [a] [] pos2] X.env=(false,eval (.Call (.Name "range" p3) [a] [] pos2) X.env) :: starEach [] X.env:=by rfl) (hpl:(backTo pos (starEach [] X.env)).any (·.1)=false:=by rfl) :
  QE X (.Call (.Name "list" p2) [.Call (.Name "range" p3) [a] [] pos2] [] pos) (P7 ta):=
 c9 (yY (aE9 hc) hg B.list PyProof.Rows.boot_list (cQ (aE7 hgr B.range (cQ ha dD hs) hs) dD he) (he:=he) (hpl:=hpl)) fun σ H Q' h=>by
  obtain ⟨W,ρ,Q,px,q,k⟩:=h
  refine⟨W,ρ,_,px,q,?_⟩
  rintro v H1 x g s r ⟨n,rfl,h0,h1,q⟩
  cases r
  refine⟨n,rfl,fun r hr=>⟨r,n,rfl,b9,h0,h1,fun l hl=>?_⟩⟩
  have S:a9 H (upd (upd H1 r (.rng 0 n)) l (.lst (iD 0 n.toNat))):=(s.trans (b7 hr _)).trans (b7 hl _)
  exact k _ _ _ .fr S (.lst (((s.trans (b7 hr _))).free hl) b9 (aF0 0 n.toNat)) q
def wD:V->Int
 | .int i=>i
 | _=>0
def iU (H:Hp):V->List Int
 | .ref a=>match H a with
  | some (.tup us)=>us.map wD
  | _=>[]
 | _=>[]
theorem aF2 {H:Hp}{a:Addr}{ns:List Int} (h:H a=some (.tup (ns.map V.int))):iU H (.ref a)=ns:=by
 show (match H a with | some (.tup us)=>us.map wD | _=>[])=ns
 rw [h]
 show (ns.map V.int).map wD=ns
 rw [bo3]
 exact List.map_id _
theorem wE {K:PySem.W.Frag}{M:Addr->Prop}{H:Hp}:∀ {us:List V}{ys:List (List Int)},Reps K M H us (ys.map fun r=>PV.tup (intz r))->us.map (iU H)=ys/\∀ u ∈ us,∃ b,u = .ref b/\H b=some (.tup ((iU H u).map V.int))
 | _,[],.nil=>⟨rfl,fun u h=>nomatch h⟩
 | _,y :: ys,.cons r t=>by
  obtain ⟨a,us,rfl,h,r1⟩:=r.sqT
  obtain rfl:=r1.ofInts
  obtain ⟨h1,h2⟩:=wE t
  have hk:=aF2 h
  refine⟨by rw [be9,h1,hk],fun u hu=>?_⟩
  rcases aZ6.mp hu with rfl | hu
  ·exact⟨a,rfl,by rw [hk]; exact h⟩
  ·exact h2 u hu
theorem wF {K:PySem.W.Frag}{M:Addr->Prop}{H:Hp}:∀ {us:List V},(∀ u ∈ us,∃ b,u = .ref b/\H b=some (.tup ((iU H u).map V.int)))->Reps K M H us ((us.map (iU H)).map fun r=>PV.tup (intz r))
 | [],_=>.nil
 | u :: us,h=>by
  obtain ⟨b,rfl,hb⟩:=h u bb1
  exact .cons (.tup hb (Reps.intz _)) (wF fun v hv=>h v (bb0 _ hv))
end
def Q2 (K:PySem.W.Frag):Sp:=fun vs H Q _=>∃ (a:Addr) (ns:List Int),vs = [.ref a]/\(aD K H a (ns.map V.int) ∨ aG K H a (ns.map V.int))/\ns.length<=1000/\∀ H',a9 H H'->Q (.bl (Core.gK ns)) H'
def r0:Sp:=fun vs H Q _=>∃ v ws ls,vs = [v]/\C4 H v ws ls/\ws.length<=1000/\ls.length<=2000/\(∀ l ∈ ls,(0<=l.1/\l.1 < ws.length)/\0<=l.2/\l.2 < ws.length)/\
 ∀ (r:Addr) (bs:List Addr) (H':Hp),bs.length=ws.length->gC H H' r bs (fun k=>bJ ls k)->Q (.ref r) H'
section
variable {P : Program} {w : World} {K : PySem.W.Frag} {mg : Str → Option Value} {base : Heap} {f : Addr} {fd : FuncData} {k : Nat}
theorem aF3 (F:cG P w K mg base cY k f fd ["things"] (Q2 K)) (b:fZ K fd ["things"] []) (kp:PySem.W.keepIn K (.ref f)=true) (m:mg "rises" = some (.ref f)):Df P w K mg base k "rises" ["things"] Core.w6:=by
 refine⟨f,fd,F.imp fun vs H Q E h=>?_,b,kp,m⟩
 obtain ⟨xs,Qp,r,⟨x,ns,rfl,hx,hl,q⟩,k⟩:=h
 obtain ⟨v,rfl,r1⟩:=r.one
 rcases hx with rfl | rfl
 ·obtain ⟨a,us,rfl,h,r2⟩:=r1.sqT
  obtain rfl:=r2.ofInts
  exact⟨a,ns,rfl,.inl (aD.of h),hl,fun H' s=>k _ H' _ s (.bl _) q⟩
 ·obtain ⟨a,us,rfl,_,h,r2⟩:=r1.sqL
  obtain rfl:=r2.ofInts
  exact⟨a,ns,rfl,.inr (aG.of h),hl,fun H' s=>k _ H' _ s (.bl _) q⟩
theorem pF {M:Addr->Prop}{H:Hp}:∀ {us:List V}{ls:List (Int × Int)},Reps K M H us (ls.map fun l=>PV.tup [.int l.1,.int l.2])->l8 H us ls
 | _,[],.nil=>.nil
 | _,l :: ls,.cons r t=>by
  obtain ⟨a,us,rfl,h,r1⟩:=r.sqT
  obtain ⟨u1,u2,rfl,q1,q2⟩:=r1.two
  cases q1; cases q2
  exact .cons ⟨a,rfl,h⟩ (pF t)
theorem Q3 {M:Addr->Prop}{H:Hp}{v:V}{ws:List Int}{ls:List (Int × Int)} (r:aE K M H v (Core.bH ws ls)):C4 H v ws ls:=by
 obtain ⟨a,us,rfl,h,r1⟩:=aE.sqT r
 obtain ⟨u1,u2,rfl,q1,q2⟩:=r1.two
 obtain ⟨p,up,rfl,hp,rp⟩:=q1.sqT
 obtain ⟨q,uq,rfl,hq,rq⟩:=q2.sqT
 obtain rfl:=rp.ofInts
 exact⟨a,p,q,uq,rfl,h,hp,hq,pF rq⟩
theorem wG {M:Addr->Prop}{H:Hp}:∀ {bs:List Addr}{ls:List (Int × Int)} (off:Nat),(∀ b ∈ bs,M b)->(∀ (k:Nat) b,bs[k]? = some b->H b=some (.lst ((bJ ls ((off+k:Nat):Int)).map V.int)))->Reps K M H (bs.map V.ref) ((List.range' off bs.length).map fun (k:Nat)=>PV.lst (intz (bJ ls k)))
 | [],_,_,_,_=>.nil
 | b :: bs,ls,off,hm,h=>by
  refine .cons (.lst (hm b bb1) (h 0 b rfl) (Reps.intz _)) (wG (off+1) (fun c hc=>hm c (bb0 _ hc)) fun k c hk=>?_)
  have:=h (k+1) c (by rw [bi6]; exact hk)
  rw [show off+1+k=off+(k+1) by omega]; exact this
theorem aF4 (F:cG P w K mg base cY k f fd ["web"] r0) (b:fZ K fd ["web"] []) (kp:PySem.W.keepIn K (.ref f)=true) (m:mg "near_lists" = some (.ref f)):Df P w K mg base k "near_lists" ["web"] Core.oD:=by
 refine⟨f,fd,F.imp fun vs H Q E h=>?_,b,kp,m⟩
 obtain ⟨xs,Qp,r,⟨ws,ls,rfl,wb,q⟩,k⟩:=h
 obtain ⟨v,rfl,r1⟩:=r.one
 have:=wb.few
 have:=wb.most
 refine⟨v,ws,ls,rfl,Q3 r1,by omega,by omega,wb.links,fun t bs H' hb R=>k _ H' _ R.same (.lst R.new R.row ?_) q⟩
 have:=wG (K:=K) (M:=fun a=>H a=none) (H:=H') (bs:=bs) (ls:=ls) 0 (fun b hb=>(R.news b hb).1) fun k b hk=>by rw [Nat.zero_add]; exact R.rows k b hk
 rw [hb,<- List.range_eq_range'] at this
 exact this
end
end PP
namespace Core
open PySem L2 PP
theorem aF5 (n:Nat):eY 0 n=intz (rng n):=by
 unfold eY rng
 show _=List.map PV.int (List.map (fun (i:Nat)=>(i:Int)) (List.range n))
 rw [bo3]
 refine List.map_congr_left fun i _=>?_
 show PV.int (0+(i:Int))=PV.int (i:Int)
 rw [Int.zero_add]
theorem wH (n:Nat):(rng n).Nodup:=by
 unfold rng
 rw [List.nodup_iff_pairwise_ne,bj5]
 exact (List.nodup_range (n:=n)).imp fun h e=>h (by omega)
def two (l:Int × Int):List Int:=[l.1,l.2]
def oI (r:List Int):Int × Int:=(r.getD 0 0,r.getD 1 0)
theorem Q4 (ls:List (Int × Int)):fB ls=(ls.map two).map fun r=>PV.tup (intz r):=by
 unfold fB
 rw [bo3]; rfl
theorem aF6 {zs:List (List Int)}{ls:List (Int × Int)} (h:zs.Perm (ls.map two)):∃ ls':List (Int × Int),zs=ls'.map two/\ls'.Perm ls:=by
 refine⟨zs.map oI,?_,?_⟩
 ·rw [bo3]
  have:∀ z ∈ zs,(two ∘ oI) z=z:=fun z hz=>by
   obtain ⟨l,_,rfl⟩:=be0.mp (h.mem_iff.mp hz)
   rfl
  rw [List.map_congr_left this,List.map_id']
 ·have:=h.map oI
  rw [bo3] at this
  have e:ls.map (oI ∘ two)=ls:=by
   have:∀ l ∈ ls,(oI ∘ two) l=id l:=fun l _=>rfl
   rw [List.map_congr_left this,List.map_id]
  rw [e] at this
  exact this
theorem aF7 {ls:List (Int × Int)} (so:(ls.map two).Pairwise fun u v=>HT.aQ v u=false) (nd:ls.Nodup):ls.Pairwise wC:=by
 rw [bj5] at so
 refine (List.pairwise_and_iff.mpr ⟨so,nd⟩).imp fun {a b} h=>?_
 obtain ⟨h1,h2⟩:=h
 unfold two at h1
 rw [HT.g9] at h1
 unfold wC
 by_cases e:b.1=a.1
 ·rw [if_pos e,HT.g9] at h1
  by_cases e2:b.2=a.2
  ·exact absurd (Prod.ext e.symm e2.symm) h2
  ·rw [if_neg e2] at h1
   have:=bk4 h1
   omega
 ·rw [if_neg e] at h1
  have:=bk4 h1
  omega
structure oJ (i:Int) (ms:List Int):Prop where
 up:ms.Pairwise (· < ·)
 inn:∀ x ∈ ms,0<=x/\x < i
 len:(ms.length:Int)<=i
theorem oJ.set {n:Nat}{ms:List Int} (h:oJ (n:Int) ms):bC n ms=true:=by
 unfold bC
 rw [vY h.up,Bool.true_and,bi2]
 intro b hb
 obtain ⟨x,hx,rfl⟩:=be0.mp hb
 have:=h.inn x hx
 unfold inB
 simp [this]
def dS (n:Nat) (S:List Int):List PV:=(rng n).map fun i=>PV.bl (decide (i ∈ S))
theorem lW (n:Nat) (S:List Int):(dS n S).length=n:=by unfold dS; rw [ba3,fJ]
theorem Q5 {n:Nat}{S:List Int}{x:Int} (h0:0<=x) (h1:x < (n:Int)):atI (dS n S) x=some (.bl (decide (x ∈ S))):=by
 refine jX h0 ?_
 unfold dS
 rw [ba1,qT (by omega)]
 show some (PV.bl (decide (((x.toNat:Nat):Int) ∈ S)))=_
 rw [show ((x.toNat:Nat):Int)=x by omega]
theorem aF8 {n:Nat}{S:List Int}{x:Int} (h0:0<=x) (h1:x < (n:Int)):(dS n S).set x.toNat (.bl true)=dS n (S ++ [x]):=by
 refine List.ext_getElem? fun i=>?_
 by_cases hi:i < n
 ·have e1:(dS n (S ++ [x]))[i]? = some (.bl (decide ((i:Int) ∈ S ++ [x]))):=by unfold dS; rw [ba1,qT hi]; rfl
  rw [e1]
  by_cases e:i=x.toNat
  ·subst e
   rw [bg2 (by rw [lW]; exact hi)]
   have:(((x.toNat:Nat):Int) ∈ S ++ [x]):=by rw [show ((x.toNat:Nat):Int)=x by omega]; simp
   rw [ba2 this]
  ·rw [bb8 (Ne.symm e)]
   unfold dS
   rw [ba1,qT hi]
   have:decide ((i:Int) ∈ S ++ [x])=decide ((i:Int) ∈ S):=by
    rw [bg9]; simp; omega
   rw [this]; rfl
 ·rw [List.getElem?_eq_none (by rw [bd8,lW]; omega),List.getElem?_eq_none (by rw [lW]; omega)]
theorem aF9:∀ {a b:List Int},a.Perm b->a.Pairwise (· <= ·)->b.Pairwise (· <= ·)->a=b:=by
 intro a b h ha hb
 exact h.eq_of_pairwise (fun x y _ _ h1 h2=>Int.le_antisymm h1 h2) ha hb
def Q6:bD:=fun xs Q=>∃ ns:List Int,xs = [.scr ns]/\ns.length<=63/\Q (.bl true)
structure aG0 (K:PySem.W.Frag):Prop where
 ii:PySem.W.kitOne K (.type "int") (.type "int")=some true
 ib:PySem.W.kitOne K (.type "int") (.type "bool")=some false
 tt:PySem.W.kitOne K (.type "tuple") (.type "tuple")=some true
 ll:PySem.W.kitOne K (.type "list") (.type "list")=some true
 bb:PySem.W.kitOne K (.type "bool") (.type "bool")=some true
theorem wI (K:PySem.W.Frag):aG0 K:=by
 have same:∀ n:String,PySem.W.kitMeta n=true->True:=fun _ _=>trivial
 refine⟨?_,?_,?_,?_,?_⟩
 ·unfold PySem.W.kitOne; rw [if_pos (by decide)]
 ·have e:(if PySem.W.kitMeta "bool" = true then (fastBuiltinMro "int").map (·.contains (Value.type "bool")) else none)=some false:=by decide +kernel
  unfold PySem.W.kitOne
  rw [if_neg (by decide)]
  exact e
 ·unfold PySem.W.kitOne; rw [if_pos (by decide)]
 ·unfold PySem.W.kitOne; rw [if_pos (by decide)]
 ·unfold PySem.W.kitOne; rw [if_pos (by decide)]
end Core
namespace PP
open PySem L2 PyProof.Rows
theorem aG1 {P:Program}{w:World}{K:PySem.W.Frag}{mg:Str->Option Value}{base:Heap}{k:Nat}{x:Str}{ps N:List Str}{p:bD}{st:Stmt}{f:Addr}{fd:FuncData} (F:dX K x x st f fd) (S:FnScope N ps (aS st))
  (len:∀ xs Q,p xs Q->xs.length=ps.length)
  (body:∀ (cdv:Value) (A:Around) (outer:List Env) (s:Shared) (H:Hp) (E:XK),bR k (A.deeper (envOfC x (aS st) s.heap.objs.size f cdv))->
   ∃ t,eD (cW cY P w K mg base N x (aS st) f cdv A outer s H E).nox (dW st) t/\∀ xs Q,p xs Q->t { nx:=fun _=>Q .non,rt:=Q } (fA N xs)):cG P w K mg base cY (k+1) f fd ps (nL K p):=by
 refine F.ok S (fun vs H Q E h=>?_) (fun cdv A outer s H vs Q E hr h=>?_)
 ·obtain ⟨xs,Qp,r,q,_⟩:=h
  rw [r.length]; exact len xs Qp q
 ·obtain ⟨xs,Qp,r,q,k⟩:=h
  obtain ⟨t,ht,hq⟩:=body cdv A outer s H E hr
  refine⟨_,ht,fun _=>False,fA N xs,_,vJ r,hq xs Qp q,?_,?_,?_,?_⟩
  ·exact fun W' σ' H' ρ' e px q=>k _ _ _ px.same .non q
  ·exact fun v H' x s r q=>k _ _ _ s r q
  ·exact fun W' σ' H' ρ' e px q=>q
  ·exact fun W' σ' H' ρ' e px q=>q
def r6 (K:PySem.W.Frag):Sp:=fun vs H Q _=>∃ (a:Addr) (ns:List Int),vs = [.ref a]/\iE K H a ns/\ns.length<=63/\∀ H',Q (.bl true) H'
theorem aG2 {P:Program}{w:World}{K:PySem.W.Frag}{mg:Str->Option Value}{base:Heap}{k:Nat}{f:Addr}{fd:FuncData} (F:cG P w K mg base cY k f fd ["script"] (nL K Core.Q6)):cG P w K mg base cY k f fd ["script"] (r6 K):=
 F.imp fun vs H Q E h=>by
  obtain ⟨a,ns,rfl,hs,hl,q⟩:=h
  refine⟨[.scr ns],fun z=>z = .bl true,.cons (.scr hs) .nil,⟨ns,rfl,hl,rfl⟩,?_⟩
  rintro v H' x _ r rfl
  cases r
  exact q H'
theorem aG3 {K:PySem.W.Frag}{H:Hp}{a:Addr}{ns:List Int} (hO:oY H) (h:aG K H a (ns.map V.int)):iE K H a ns:=by
 rcases h with (h | ⟨o,h⟩) | h
 ·rcases hO a with e | ⟨o,xs,e⟩ <;> (rw [h] at e; cases e)
 ·exact .inl ⟨o,h⟩
 ·exact .inr h
end PP
namespace PyProof.Rows
open PySem
end PyProof.Rows
namespace PP
open PySem L2 PyProof.Rows
section
variable {X : Cx} {a b e : Expr} {ta tb te : aB} {tr : cH} {pos p2 : Pos}
def Q7:PV->Tg->PV->Tg->PK->Prop:=fun x _ y _ Q=>∃ xs ys,x = .lst xs/\y = .lst ys/\flats xs=true/\flats ys=true/\xs.length+ys.length<=16000000/\Q (.lst (xs ++ ys)) .fr
abbrev r9 (ta tb:aB):aB:=q2 Q7 ta tb
theorem aG4:dO X Q7 zU:=by
 rintro W Hs H u v x y g g' Q Q' s n r1 r2 ⟨xs,ys,rfl,rfl,f1,f2,hl,q⟩ k
 obtain ⟨a,us,rfl,_,h1,q1⟩:=r1.sqL
 obtain ⟨b,ws,rfl,_,h2,q2⟩:=r2.sqL
 have l1:=q1.length
 have l2:=q2.length
 refine⟨a,b,us,ws,rfl,rfl,h1,h2,lim (by omega),fun p hp=>k _ _ _ .fr (b7 hp _) (.lst (s.free hp) b9 (((q1.flat f1).append (q2.flat f2)).same (b7 hp _) fun _ z=>z)) q⟩
theorem wJ (ha:QE X a ta) (hb:QE X b tb):QE X (.BinOp a .Add b pos) (r9 ta tb):=gW am5 aG4 ha hb
end
end PP
namespace L2
open PySem PySem.Spec PyProof.Rows
def wK (K:PySem.W.Frag) (a:Addr):It:=
  ⟨fun i H=>∃ xs x,aG K H a xs/\xs[i]? = some x,
   fun i H v H'=>∃ T x,H T=none/\v = .ref T/\H'=upd H T (.tup [.int i,x])/\∀ xs,aG K H a xs->xs[i]? = some x,
   fun i H=>∃ xs,aG K H a xs/\xs.length<=i⟩
structure aG5 (e it a:Addr) (i:Nat) (h:Heap):Prop where
 ee:∃ old,IsEnum h e it i old
 s1:h.IsListIter it a i
theorem aG6 {P:Program}{w:World}{K:PySem.W.Frag}{elts:List Expr}{k:Nat}{pos:Pos} (a e it:Addr) (d:e ≠ it) :
  gR P w K (.Tuple elts k pos) (wK K a) [e,it] e (aG5 e it a):=by
 refine⟨by simp,fun i h st c hc=>?_,fun i h h' st kp=>?_,?_,?_,fun A i s Q E st q=>?_⟩
 ·simp only [aZ6,ba6,bd7] at hc
  obtain ⟨old,ee⟩:=st.ee
  obtain ⟨o1,f1,g1,d1⟩:=st.s1
  rcases hc with rfl | rfl
  ·exact⟨_,ee,fun v q=>by cases q⟩
  ·exact⟨_,f1,fun v q=>by rw [d1] at q; cases q⟩
 ·obtain ⟨old,ee⟩:=st.ee
  exact⟨⟨old,kp e (by simp) _ ee⟩,st.s1.at fun o z=>kp it (by simp) o z⟩
 ·intro X hP hw hK hc i pins s σ H E I hf st hg
  subst hP hw hK
  obtain ⟨xs,x,ha,hx⟩:=hg
  obtain ⟨us,ru,pu,lu⟩:=I.list ha
  obtain ⟨ux,eux,rux⟩:=ru.get hx
  obtain ⟨old,ee⟩:=st.ee
  refine wpAny_pyNext_enum_item ee st.s1 pu.isList (by simpa using eux) d fun h' eo it' pr sz kp=>⟨_,rfl,?_⟩
  refine wpAny_letOwnedTupleGo_enum (s:={ s with heap:=h',toks:=s.toks+1 }) eo fun g zz sb=>?_
  have hzl:e < s.heap.objs.size:=ba4 ee
  have up:∀ c o,c ≠ e->c ≠ it->s.heap.get? c=some o->g.get? c=some o:=fun c o c1 c2 z=>sb.extBut c o c1 (kp c o c1 c2 z)
  have hT:H s.heap.objs.size=none:=I.hok.fresh (aZ3 _)
  have prG:g.get? s.heap.objs.size=some { cls:=.type "tuple",data:=.seq #[.int i s.toks,ux] }:=sb.extBut _ _ (bj0 hzl) pr
  have fpn:∀ c u,H c=some u->c ∉ [e,it]:=fun c u z hm=>by rw [(hf c hm).1] at z; cases z
  have upH:∀ c o u,H c=some u->s.heap.get? c=some o->g.get? c=some o:=fun c o u q z=>by
   have:=fpn c u q
   simp only [aZ6,ba6,bd7,not_or] at this
   exact up c o this.1 this.2 z
  have ns:∀ m,s.heap.Ns X.env.locals m->g.Ns X.env.locals m:=fun m hm=>by
   obtain ⟨o,es,ep,e1,e2⟩:=hm
   exact⟨o,es,ep,up _ o (Ne.symm (hf e (by simp)).2.1) (Ne.symm (hf it (by simp)).2.1) e1,e2⟩
  have I2:a6 X pins σ (upd H s.heap.objs.size (.tup [.int i,x])) { s with heap:=g,toks:=s.toks+1 }:=by
   refine I.step (g':=s.gens) (d':=s.drawn) (ch:=[e,it]) (fun c hc'=>?_) (fun c o _ _ hc' z _=>?_) (fun c o _ _ hc' z _=>⟨o.slots,?_⟩) (fun c o _ z n=>?_) (fun c o hc' z=>⟨o,?_⟩)
    (fun c zs z=>by rw [aM (cF z hT)]; exact z) (fun c u zs z=>by rw [aM (cF z hT)]; exact z) (fun c ps z=>⟨#[],by rw [aM (cF z hT),z]; simp⟩) ns (fun c u z=>?_) I.bare
   ·exact⟨(hf c hc').2.2.2.1,(hf c hc').2.1,(hf c hc').2.2.2.2.1,(hf c hc').2.2.2.2.2⟩
   ·simp only [aZ6,ba6,bd7,not_or] at hc'
    exact up c o hc'.1 hc'.2 z
   ·simp only [aZ6,ba6,bd7,not_or] at hc'
    exact up c o hc'.1 hc'.2 z
   ·rw [aM (bc7 (ba4 z))]; exact n
   ·simp only [aZ6,ba6,bd7,not_or] at hc'
    exact up c o hc'.1 hc'.2 z
   ·by_cases hcT:c=s.heap.objs.size
    ·subst hcT
     rw [b9] at z; cases z
     exact⟨by show 2<=sizeLine; decide,[.int i s.toks,ux],.cons ⟨_,rfl⟩ (.cons rux .nil),⟨_,prG,rfl,_,rfl⟩⟩
    ·rw [aM hcT] at z
     refine (I.hok c u z).stay (fun c' o' hc2 q'=>?_) (fun c' q'=>by rw [aM (cF q' hT)]; exact q') fun c' zs q'=>by rw [aM (cF q' hT)]; exact q'
     rcases hc2 with rfl | hc2
     ·exact upH _ _ _ z q'
     ·exact upH _ _ _ hc2 q'
  refine⟨.ref s.heap.objs.size,_,I2,rfl,⟨_,x,hT,rfl,rfl,fun xs' ha'=>?_⟩,⟨⟨ux,by push_cast; exact zz⟩,it'.at fun o z=>sb.extBut _ o (Ne.symm d) z⟩,fun c hc'=>?_⟩
  ·rw [I.list_inj ha' ha]; exact hx
  ·obtain ⟨o,z⟩:∃ o,s.heap.get? c=some o:=by
    simp only [aZ6,ba6,bd7] at hc'
    obtain ⟨o1,f1,_⟩:=st.s1
    rcases hc' with rfl | rfl
    ·exact⟨_,ee⟩
    ·exact⟨_,f1⟩
   rw [aM (bc7 (ba4 z))]; exact (hf c hc').1
 ·intro X hP hw hK hc i pins s σ H E I hf st hg
  subst hP hw hK
  obtain ⟨xs,ha,hi⟩:=hg
  obtain ⟨us,ru,pu,lu⟩:=I.list ha
  obtain ⟨old,ee⟩:=st.ee
  have hh:X.A.handled=none:=I.ok.hd hc
  have e1:=ru.length
  refine wpAny_pyNext_enum_end hh ee st.s1 pu.isList (by rw [Array.getElem?_eq_none]; simp only [aZ2]; omega) fun g kp=>⟨rfl,?_⟩
  have fpn:∀ c u,H c=some u->c ∉ [e,it]:=fun c u z hm=>by rw [(hf c hm).1] at z; cases z
  have upH:∀ c o u,H c=some u->s.heap.get? c=some o->g.get? c=some o:=fun c o u q z=>by
   have:=fpn c u q
   simp only [aZ6,ba6,bd7,not_or] at this
   exact kp c o this.2 z
  have ns:∀ m,s.heap.Ns X.env.locals m->g.Ns X.env.locals m:=fun m hm=>by
   obtain ⟨o,es,ep,e1,e2⟩:=hm
   exact⟨o,es,ep,kp _ o (Ne.symm (hf it (by simp)).2.1) e1,e2⟩
  refine I.step (g':=s.gens) (d':=s.drawn) (ch:=[it]) (fun c hc'=>?_) (fun c o _ _ hc' z _=>?_) (fun c o _ _ hc' z _=>⟨o.slots,?_⟩) (fun c o _ z n=>n) (fun c o hc' z=>⟨o,?_⟩)
   (fun c zs z=>z) (fun c u zs z=>z) (fun c ps z=>⟨#[],by rw [z]; simp⟩) ns (fun c u z=>?_) I.bare
  ·have hm:c ∈ [e,it]:=bb0 _ hc'
   exact⟨(hf c hm).2.2.2.1,(hf c hm).2.1,(hf c hm).2.2.2.2.1,(hf c hm).2.2.2.2.2⟩
  ·exact kp c o (fun y=>hc' (by rw [y]; simp)) z
  ·exact kp c o (fun y=>hc' (by rw [y]; simp)) z
  ·exact kp c o (fun y=>hc' (by rw [y]; simp)) z
  ·refine (I.hok c u z).stay (fun c' o' hc2 q'=>?_) (fun _ q'=>q') fun _ _ q'=>q'
   rcases hc2 with rfl | hc2
   ·exact upH _ _ _ z q'
   ·exact upH _ _ _ hc2 q'
 ·obtain ⟨old,ee⟩:=st.ee
  exact wpAny_pyIter_enum ee q
end L2
namespace Zp
open PySem PyProof.Rows
section
variable {prog : Program} {w : World} {A : Around} {E : Value → Shared → Prop} {s : Shared}
theorem aG7 {e it t:Addr}{i:Nat}{items:Array Value}{x old:Value}{Q:Option Value->Shared->Prop} (he:IsEnum s.heap e it i old) (hi:s.heap.IsTupleIter it t i) (ht:s.heap.IsTuple t items) (hx:items[i]? = some x) (ne:e ≠ it)
  (q:∀ h',IsEnumOut h' e it ((i:Int)+1) x s.heap.objs.size->h'.IsTupleIter it t (i+1)->h'.get? s.heap.objs.size=some { cls:=.type "tuple",data:=.seq #[.int i s.toks,x] }->h'.objs.size=s.heap.objs.size+1->
   (∀ b o,b ≠ e->b ≠ it->s.heap.get? b=some o->h'.get? b=some o)->Q (some (.ref s.heap.objs.size)) { s with heap:=h',toks:=s.toks+1 }):wpAny (model prog w) A (pyNext (.ref e)) Q E s:=by
 have T:s.TypeIs (.ref e) "enumerate":=⟨_,he,rfl⟩
 have slot:=PySem.F.slot_enumerate_next
 unfold pyNext
 apply aY9
 apply wpAny_attempt
 apply bh4 (name:=Str.ofString "__next__") T slot
 apply bi1 slot T PySem.F.entry_enumerate_next _ (PySem.F.args_enumerate_next_1 _)
 change wpAny _ _ (field (.ref e) 2 >>= _) _ _ _
 apply aY9
 refine bf4 he rfl (x:=.ref it) rfl ?_
 apply aY9
 refine C7 hi ht hx fun g1 it1 sb1=>?_
 have e1:IsEnum g1 e it i old:=sb1.extBut _ _ ne he
 change wpAny _ _ (field (.ref e) 3 >>= _) _ _ _
 apply aY9
 refine bf4 e1 rfl (x:=rawInt i) rfl ?_
 change wpAny _ _ (field (.ref e) 4 >>= _) _ _ _
 apply aY9
 refine bf4 e1 rfl (x:=.none) rfl ?_
 change wpAny _ _ (mkInt i >>= _) _ _ _
 apply aY9
 refine wpAny_mkInt ?_
 change wpAny _ _ (setField (.ref e) 3 (rawInt ((i:Int)+1)) >>= _) _ _ _
 apply aY9
 refine bg4 e1 (by simp) fun g2 e2 sb2=>?_
 apply aY9
 refine bg4 e2 (by simp) fun g3 e3 sb3=>?_
 have e3:IsEnum g3 e it ((i:Int)+1) old:=e3
 apply aY9
 refine wpAny_newTuple ?_ (by show 2<=sizeLine; decide)
 have e4:IsEnum (g3.push { cls:=.type "tuple",data:=.seq #[.int i s.toks,x] }) e it ((i:Int)+1) old:=aZ1 _ e3
 have size:g3.objs.size=s.heap.objs.size:=by rw [sb3.1,sb2.1,sb1.1]
 change wpAny _ _ (Builtin.SmallTypes.ownedTupleIsFree (.ref e) >>= _) _ _ _
 apply aY9
 unfold Builtin.SmallTypes.ownedTupleIsFree
 apply aY9
 refine bf4 e4 rfl (x:=.none) rfl (aZ5 ?_)
 simp only [if_true]
 apply aY9
 apply bm5
 apply aY9
 refine bf4 e4 rfl (x:=old) rfl ?_
 apply aY9
 refine bg4 e4 (by simp) fun g5 e5 sb5=>?_
 apply aY9
 unfold Builtin.SmallTypes.ownedTupleHandOut
 apply aY9
 refine bg4 e5 (by simp) fun g6 e6 sb6=>?_
 refine bg4 e6 (by simp) fun g7 e7 sb7=>?_
 have e7:IsEnumOut g7 e it ((i:Int)+1) x g3.objs.size:=e7
 have elt:e < g3.objs.size:=ba4 e3
 have up:∀ c o,c ≠ e->(g3.push { cls:=.type "tuple",data:=.seq #[.int i s.toks,x] }).get? c=some o->g7.get? c=some o:=fun c o c1 z=>sb7.extBut c o c1 (sb6.extBut c o c1 (sb5.extBut c o c1 z))
 have up3:∀ c o,c ≠ e->g1.get? c=some o->g7.get? c=some o:=fun c o c1 z=>up c o c1 (aZ1 _ (sb3.extBut c o c1 (sb2.extBut c o c1 z)))
 have p7:g7.get? g3.objs.size=some { cls:=.type "tuple",data:=.seq #[.int i s.toks,x] }:=up _ _ (bj0 elt) (bb2 _ rfl)
 have s7:g7.objs.size=g3.objs.size+1:=by rw [sb7.1,sb6.1,sb5.1,bj6]
 apply aY9
 apply wpAny_letGo
 apply aZ5
 rw [size] at e7 p7 s7
 refine⟨_,rfl,aZ5 ?_⟩
 change Q (some (.ref g3.objs.size)) _
 rw [size]
 exact q g7 e7 (it1.at fun o z=>up3 it o (Ne.symm ne) z) p7 s7 fun b o b1 b2 z=>up3 b o b1 (sb1.extBut b o b2 z)
theorem aG8 {e it t:Addr}{i:Nat}{items:Array Value}{old:Value}{Q:Option Value->Shared->Prop} (hh:A.handled=none) (he:IsEnum s.heap e it i old) (hi:s.heap.IsTupleIter it t i) (ht:s.heap.IsTuple t items) (hx:items[i]? = none)
  (q:∀ h',Heap.ExtBut it s.heap h'->Q none { s with heap:=h' }):wpAny (model prog w) A (pyNext (.ref e)) Q E s:=by
 have T:s.TypeIs (.ref e) "enumerate":=⟨_,he,rfl⟩
 have slot:=PySem.F.slot_enumerate_next
 unfold pyNext
 apply aY9
 apply wpAny_attempt
 apply bh4 (name:=Str.ofString "__next__") T slot
 apply bi1 slot T PySem.F.entry_enumerate_next _ (PySem.F.args_enumerate_next_1 _)
 change wpAny _ _ (field (.ref e) 2 >>= _) _ _ _
 apply aY9
 refine bf4 he rfl (x:=.ref it) rfl ?_
 apply aY9
 refine C8 hh hi ht hx fun g2 ex eb exo=>?_
 obtain ⟨oe,eo,co⟩:=exo
 apply aY9
 refine wpAny_isInstance (T:="StopIteration") (b:=true) ⟨oe,eo,co⟩ isSubtype_stop ?_
 exact aZ5 (q g2 eb)
theorem aG9 {M:Model}{A:Around}{E:Value->Shared->Prop}{s:Shared}{α:Type}{c:Prop} [Decidable c] {m n:Sem α}{Q:α->Shared->Prop} (h1:wpAny M A m Q E s) (h2:wpAny M A n Q E s):wpAny M A (if c then m else n) Q E s:=by
 split
 ·exact h1
 ·exact h2
theorem aH0 (t:Addr) (xs:Array Value):Meets (Builtin.«enumerate.__new__» ⟨[.type "enumerate",.ref t],[]⟩) (fun _ R s=>s.heap.IsTuple t xs/\R (.ok (.ret (.ref (s.heap.objs.size+1)))) { s with heap:=(s.heap.push { cls:=.type "tuple_iterator",data:=.fields #[.ref t,.int 0 0] }).push { cls:=.type "enumerate",data:=.fields #[.none,.bool false,.ref s.heap.objs.size,rawInt 0,.none,.none] } }):=
 .of_wp fun prog w A R s h=>by
  obtain ⟨hp,g,d,tk,os⟩:=s
  obtain ⟨ht,h⟩:=h
  have sub:=sub_enumerate
  have a1:Heap.IsTuple (Shared.heap ⟨hp,g,d,tk,os⟩) t xs:=ht
  wp_walk using bl4 a1
  refine wpAny_stack_any fun st=>aZ5 ?_
  refine aG9 ?_ ?_
  all_goals
   apply aY9
   refine wpAny_of_eq (a:=(Value.ref t,none)) rfl ?_
   wp_walk using bl4 a1
   have e:∀ (o:Obj) (k:Heap),(k.push o).objs.size=k.objs.size+1:=fun o k=>bj6 ..
   refine⟨_,rfl,?_⟩
   simp only [e] at h ⊢
   exact h
theorem aH1 {t:Addr}{xs:Array Value}{Q:Value->Shared->Prop} (ht:s.heap.IsTuple t xs)
  (q:∀ h',IsEnum h' (s.heap.objs.size+1) s.heap.objs.size 0 .none->h'.IsTupleIter s.heap.objs.size t 0->h'.objs.size=s.heap.objs.size+2->(∀ c o,s.heap.get? c=some o->h'.get? c=some o)->Q (.ref (s.heap.objs.size+1)) { s with heap:=h' }) :
  wpAny (model prog w) A (call (.type "enumerate") [.ref t]) Q E s:=by
 refine callType_new PySem.F.called_enumerate (by decide) (PySem.F.typeCall_enumerate_1 _) (PySem.F.newCall_enumerate_1 _) (fun obj=>PySem.F.args_object_init_2 obj _) PySem.F.entry_enumerate_new (aH0 t xs) ⟨ht,?_⟩
 have e:∀ (o:Obj) (k:Heap),(k.push o).objs.size=k.objs.size+1:=fun o k=>bj6 ..
 have g0:((s.heap.push { cls:=.type "tuple_iterator",data:=.fields #[.ref t,.int 0 0] }).push { cls:=.type "enumerate",data:=.fields #[.none,.bool false,.ref s.heap.objs.size,rawInt 0,.none,.none] }).get? s.heap.objs.size=some { cls:=.type "tuple_iterator",data:=.fields #[.ref t,.int 0 0] }:=aZ1 _ (bb2 _ rfl)
 have g1:((s.heap.push { cls:=.type "tuple_iterator",data:=.fields #[.ref t,.int 0 0] }).push { cls:=.type "enumerate",data:=.fields #[.none,.bool false,.ref s.heap.objs.size,rawInt 0,.none,.none] }).get? (s.heap.objs.size+1)=some { cls:=.type "enumerate",data:=.fields #[.none,.bool false,.ref s.heap.objs.size,rawInt 0,.none,.none] }:=by
  have:=bb2 (h:=s.heap.push { cls:=.type "tuple_iterator",data:=.fields #[.ref t,.int 0 0] }) (o:={ cls:=.type "enumerate",data:=.fields #[.none,.bool false,.ref s.heap.objs.size,rawInt 0,.none,.none] }) rfl
  rw [e] at this; exact this
 exact⟨⟨_,g1,rfl⟩,q _ g1 ⟨_,g0,rfl,rfl⟩ (by rw [e,e]) fun c o z=>aZ1 _ (aZ1 _ z)⟩
end
end Zp
namespace L2
open PySem PySem.Spec PyProof.Rows
def wL (K:PySem.W.Frag) (a:Addr):It:=
  ⟨fun i H=>∃ xs x,aD K H a xs/\xs[i]? = some x,
   fun i H v H'=>∃ T x,H T=none/\v = .ref T/\H'=upd H T (.tup [.int i,x])/\∀ xs,aD K H a xs->xs[i]? = some x,
   fun i H=>∃ xs,aD K H a xs/\xs.length<=i⟩
structure aH2 (e it a:Addr) (i:Nat) (h:Heap):Prop where
 ee:∃ old,IsEnum h e it i old
 s1:h.IsTupleIter it a i
theorem aH3 {P:Program}{w:World}{K:PySem.W.Frag}{elts:List Expr}{k:Nat}{pos:Pos} (a e it:Addr) (d:e ≠ it) :
  gR P w K (.Tuple elts k pos) (wL K a) [e,it] e (aH2 e it a):=by
 refine⟨by simp,fun i h st c hc=>?_,fun i h h' st kp=>?_,?_,?_,fun A i s Q E st q=>?_⟩
 ·simp only [aZ6,ba6,bd7] at hc
  obtain ⟨old,ee⟩:=st.ee
  obtain ⟨o1,f1,g1,d1⟩:=st.s1
  rcases hc with rfl | rfl
  ·exact⟨_,ee,fun v q=>by cases q⟩
  ·exact⟨_,f1,fun v q=>by rw [d1] at q; cases q⟩
 ·obtain ⟨old,ee⟩:=st.ee
  exact⟨⟨old,kp e (by simp) _ ee⟩,st.s1.at fun o z=>kp it (by simp) o z⟩
 ·intro X hP hw hK hc i pins s σ H E I hf st hg
  subst hP hw hK
  obtain ⟨xs,x,ha,hx⟩:=hg
  obtain ⟨us,ru,pu,lu⟩:=I.tuple ha
  obtain ⟨ux,eux,rux⟩:=ru.get hx
  obtain ⟨old,ee⟩:=st.ee
  refine Zp.aG7 ee st.s1 pu (by simpa using eux) d fun h' eo it' pr sz kp=>⟨_,rfl,?_⟩
  refine wpAny_letOwnedTupleGo_enum (s:={ s with heap:=h',toks:=s.toks+1 }) eo fun g zz sb=>?_
  have hzl:e < s.heap.objs.size:=ba4 ee
  have up:∀ c o,c ≠ e->c ≠ it->s.heap.get? c=some o->g.get? c=some o:=fun c o c1 c2 z=>sb.extBut c o c1 (kp c o c1 c2 z)
  have hT:H s.heap.objs.size=none:=I.hok.fresh (aZ3 _)
  have prG:g.get? s.heap.objs.size=some { cls:=.type "tuple",data:=.seq #[.int i s.toks,ux] }:=sb.extBut _ _ (bj0 hzl) pr
  have fpn:∀ c u,H c=some u->c ∉ [e,it]:=fun c u z hm=>by rw [(hf c hm).1] at z; cases z
  have upH:∀ c o u,H c=some u->s.heap.get? c=some o->g.get? c=some o:=fun c o u q z=>by
   have:=fpn c u q
   simp only [aZ6,ba6,bd7,not_or] at this
   exact up c o this.1 this.2 z
  have ns:∀ m,s.heap.Ns X.env.locals m->g.Ns X.env.locals m:=fun m hm=>by
   obtain ⟨o,es,ep,e1,e2⟩:=hm
   exact⟨o,es,ep,up _ o (Ne.symm (hf e (by simp)).2.1) (Ne.symm (hf it (by simp)).2.1) e1,e2⟩
  have I2:a6 X pins σ (upd H s.heap.objs.size (.tup [.int i,x])) { s with heap:=g,toks:=s.toks+1 }:=by
   refine I.step (g':=s.gens) (d':=s.drawn) (ch:=[e,it]) (fun c hc'=>?_) (fun c o _ _ hc' z _=>?_) (fun c o _ _ hc' z _=>⟨o.slots,?_⟩) (fun c o _ z n=>?_) (fun c o hc' z=>⟨o,?_⟩)
    (fun c zs z=>by rw [aM (cF z hT)]; exact z) (fun c u zs z=>by rw [aM (cF z hT)]; exact z) (fun c ps z=>⟨#[],by rw [aM (cF z hT),z]; simp⟩) ns (fun c u z=>?_) I.bare
   ·exact⟨(hf c hc').2.2.2.1,(hf c hc').2.1,(hf c hc').2.2.2.2.1,(hf c hc').2.2.2.2.2⟩
   ·simp only [aZ6,ba6,bd7,not_or] at hc'
    exact up c o hc'.1 hc'.2 z
   ·simp only [aZ6,ba6,bd7,not_or] at hc'
    exact up c o hc'.1 hc'.2 z
   ·rw [aM (bc7 (ba4 z))]; exact n
   ·simp only [aZ6,ba6,bd7,not_or] at hc'
    exact up c o hc'.1 hc'.2 z
   ·by_cases hcT:c=s.heap.objs.size
    ·subst hcT
     rw [b9] at z; cases z
     exact⟨by show 2<=sizeLine; decide,[.int i s.toks,ux],.cons ⟨_,rfl⟩ (.cons rux .nil),⟨_,prG,rfl,_,rfl⟩⟩
    ·rw [aM hcT] at z
     refine (I.hok c u z).stay (fun c' o' hc2 q'=>?_) (fun c' q'=>by rw [aM (cF q' hT)]; exact q') fun c' zs q'=>by rw [aM (cF q' hT)]; exact q'
     rcases hc2 with rfl | hc2
     ·exact upH _ _ _ z q'
     ·exact upH _ _ _ hc2 q'
  refine⟨.ref s.heap.objs.size,_,I2,rfl,⟨_,x,hT,rfl,rfl,fun xs' ha'=>?_⟩,⟨⟨ux,by push_cast; exact zz⟩,it'.at fun o z=>sb.extBut _ o (Ne.symm d) z⟩,fun c hc'=>?_⟩
  ·rw [I.tuple_inj ha' ha]; exact hx
  ·obtain ⟨o,z⟩:∃ o,s.heap.get? c=some o:=by
    simp only [aZ6,ba6,bd7] at hc'
    obtain ⟨o1,f1,_⟩:=st.s1
    rcases hc' with rfl | rfl
    ·exact⟨_,ee⟩
    ·exact⟨_,f1⟩
   rw [aM (bc7 (ba4 z))]; exact (hf c hc').1
 ·intro X hP hw hK hc i pins s σ H E I hf st hg
  subst hP hw hK
  obtain ⟨xs,ha,hi⟩:=hg
  obtain ⟨us,ru,pu,lu⟩:=I.tuple ha
  obtain ⟨old,ee⟩:=st.ee
  have hh:X.A.handled=none:=I.ok.hd hc
  have e1:=ru.length
  refine Zp.aG8 hh ee st.s1 pu (by rw [Array.getElem?_eq_none]; simp only [aZ2]; omega) fun g kp=>⟨rfl,?_⟩
  have fpn:∀ c u,H c=some u->c ∉ [e,it]:=fun c u z hm=>by rw [(hf c hm).1] at z; cases z
  have upH:∀ c o u,H c=some u->s.heap.get? c=some o->g.get? c=some o:=fun c o u q z=>by
   have:=fpn c u q
   simp only [aZ6,ba6,bd7,not_or] at this
   exact kp c o this.2 z
  have ns:∀ m,s.heap.Ns X.env.locals m->g.Ns X.env.locals m:=fun m hm=>by
   obtain ⟨o,es,ep,e1,e2⟩:=hm
   exact⟨o,es,ep,kp _ o (Ne.symm (hf it (by simp)).2.1) e1,e2⟩
  refine I.step (g':=s.gens) (d':=s.drawn) (ch:=[it]) (fun c hc'=>?_) (fun c o _ _ hc' z _=>?_) (fun c o _ _ hc' z _=>⟨o.slots,?_⟩) (fun c o _ z n=>n) (fun c o hc' z=>⟨o,?_⟩)
   (fun c zs z=>z) (fun c u zs z=>z) (fun c ps z=>⟨#[],by rw [z]; simp⟩) ns (fun c u z=>?_) I.bare
  ·have hm:c ∈ [e,it]:=bb0 _ hc'
   exact⟨(hf c hm).2.2.2.1,(hf c hm).2.1,(hf c hm).2.2.2.2.1,(hf c hm).2.2.2.2.2⟩
  ·exact kp c o (fun y=>hc' (by rw [y]; simp)) z
  ·exact kp c o (fun y=>hc' (by rw [y]; simp)) z
  ·exact kp c o (fun y=>hc' (by rw [y]; simp)) z
  ·refine (I.hok c u z).stay (fun c' o' hc2 q'=>?_) (fun _ q'=>q') fun _ _ q'=>q'
   rcases hc2 with rfl | hc2
   ·exact upH _ _ _ z q'
   ·exact upH _ _ _ hc2 q'
 ·obtain ⟨old,ee⟩:=st.ee
  exact wpAny_pyIter_enum ee q
section
variable {X : Cx}
def Q8 (K:PySem.W.Frag) (ta:TA):TI:=fun σ H R=>ta σ H fun vs H1=>∃ a,vs = [.ref a]/\((∃ xs,aG K H1 a xs/\R (wK K a) H1) ∨ (∃ xs,aD K H1 a xs/\R (wL K a) H1))
theorem aH4 {elts:List Expr}{kt:Nat}{pt:Pos}{a:Expr}{ta:TA}{p pos:Pos} (hg:Gl X "enumerate") (hm:X.mg "enumerate" = none) (ha:PA X [a] ta) (hs:starEach [a] X.env = [(false,eval a X.env)]:=by rfl) :
  PI X (.Tuple elts kt pt) (.Call (.Name "enumerate" p) [a] [] pos) (Q8 X.K ta):=by
 intro pins s σ H R I h
 refine Call_ (i5 I hg hm PyProof.Rows.boot_enumerate (bg5 (aJ (ha pos pins s σ H _ I h) fun us s1 ⟨vs,H1,I1,r1,q1⟩=>?_) (by rw [hs]; rfl) (by rfl)))
 obtain ⟨a',e,q⟩:=q1
 subst e
 have fresh:∀ k,H1 (s1.heap.objs.size+k)=none:=fun k=>I1.hok.fresh (bg0 _ _)
 cases r1 with
 | cons r rr=>
  cases rr
  cases r
  rcases q with ⟨xs,h1,q⟩ | ⟨xs,h1,q⟩
  ·obtain ⟨us,_,p1,_⟩:=I1.list h1
   refine call_enumerate_list p1.isList fun h' z s1' sz kp=>wpAny_pyIter_enum z ?_
   refine⟨s1.heap.objs.size+1,[s1.heap.objs.size+1,s1.heap.objs.size],_,_,H1,rfl,I1.kept (t':=s1.toks) kp,
    aG6 a' _ _ (Nat.succ_ne_self _),⟨⟨_,z⟩,s1'⟩,fun c hc=>?_,q⟩
   simp only [aZ6,ba6,bd7] at hc
   rcases hc with rfl | rfl
   ·exact I1.fpOk (bg0 _ _) (fresh 1)
   ·exact I1.fpOk (aZ3 _) (fresh 0)
  ·obtain ⟨us,_,p1,_⟩:=I1.tuple h1
   refine Zp.aH1 p1 fun h' z s1' sz kp=>wpAny_pyIter_enum z ?_
   refine⟨s1.heap.objs.size+1,[s1.heap.objs.size+1,s1.heap.objs.size],_,_,H1,rfl,I1.kept (t':=s1.toks) kp,
    aH3 a' _ _ (Nat.succ_ne_self _),⟨⟨_,z⟩,s1'⟩,fun c hc=>?_,q⟩
   simp only [aZ6,ba6,bd7] at hc
   rcases hc with rfl | rfl
   ·exact I1.fpOk (bg0 _ _) (fresh 1)
   ·exact I1.fpOk (aZ3 _) (fresh 0)
end
end L2
namespace Zp
open PySem PyProof.Rows
theorem aH5 (t b:Addr) (xs ys:Array Value) (n n2:Nat) (dd dd2:Option Addr) (sl sl2:Array (Option Value)) (hx:xs.isEmpty=true):Meets (Builtin.«tuple.__add__» ⟨[.ref t,.ref b],[]⟩)
  (fun _ R s=>s.heap.get? t=some { cls:=.type "tuple",dict:=dd,data:=.seq xs n,slots:=sl }/\s.heap.get? b=some { cls:=.type "tuple",dict:=dd2,data:=.seq ys n2,slots:=sl2 }/\R (.ok (.ret (.ref b))) s):=
 .of_wp fun prog w A R s h=>by
  obtain ⟨h1,h2,h⟩:=h
  have sub:isSubtype (Value.type "tuple") (Value.type "tuple")=pure true:=rfl
  wp_walk
  exact⟨_,rfl,h⟩
end Zp
namespace L2
open PySem PySem.Spec PyProof.Rows
section
variable {X : Cx}
def Q9 (K:PySem.W.Frag):R2:=fun x y H Q=>∃ a b xs ys,x = .ref a/\y = .ref b/\aD K H a xs/\aD K H b ys/\xs.length+ys.length<=sizeLine/\
 (xs = []->Q (.ref b) H)/\(xs ≠ []->ys = []->Q (.ref a) H)/\(xs ≠ []->ys ≠ []->∀ p,H p=none->Q (.ref p) (upd H p (.tup (xs ++ ys))))
theorem aH6:bP X (binaryOp .Add) (Q9 X.K):=by
 intro pins s σ H x y v u Q I rx ry h
 obtain ⟨a,b,xs,ys,ex,ey,ha,hb,hz,q0,q1,q2⟩:=h
 by_cases hx:xs = []
 ·subst ex ey
  cases rx
  cases ry
  obtain ⟨its,r1,p1,_⟩:=I.tuple ha
  obtain ⟨its2,r2,p2,_⟩:=I.tuple hb
  have hi:its = []:=r1.nil_iff.mpr hx
  obtain ⟨⟨cls,dd,data,sl⟩,ho,hc,n,hd⟩:=id p1
  obtain ⟨⟨cls2,dd2,data2,sl2⟩,ho2,hc2,n2,hd2⟩:=id p2
  simp only at hc hd hc2 hd2
  subst hc hd hc2 hd2
  exact concat_meets ⟨_,ho,rfl⟩ ⟨_,ho2,rfl⟩ noFill_tuple_add seq_tuple_add PySem.F.slot_tuple_add PySem.F.entry_tuple_add (PySem.F.args_tuple_add_2 _ _)
   (Zp.aH5 a b its.toArray its2.toArray n n2 dd dd2 sl sl2 (by simp [hi])) ⟨ho,ho2,⟨.ref b,H,I,rfl,q0 hx⟩⟩
 ·exact al0 pins s σ H x y v u Q I rx ry ⟨a,b,xs,ys,ex,ey,ha,hb,hx,hz,q1 hx,q2 hx⟩
end
end L2
namespace PP
open PySem L2 PyProof.Rows
def iV (xs:List PV):List PV:=xs.mapIdx fun i x=>PV.tup [.int (i:Int),x]
theorem rA (xs:List PV):(iV xs).length=xs.length:=by unfold iV; rw [List.length_mapIdx]
theorem R3 {xs:List PV}{i:Nat}{x:PV} (h:xs[i]? = some x):(iV xs)[i]? = some (.tup [.int (i:Int),x]):=by
 unfold iV; rw [List.getElem?_mapIdx,h]; rfl
theorem aH7 {xs:List PV}{i:Nat}{z:PV} (h:(iV xs)[i]? = some z):∃ x,xs[i]? = some x/\z = .tup [.int (i:Int),x]:=by
 unfold iV at h
 rw [List.getElem?_mapIdx] at h
 cases e:xs[i]? with
 | none=>rw [e] at h; cases h
 | some x=>rw [e] at h; exact⟨x,rfl,(bc1 h).symm⟩
def wM (te:aB):eW:=fun ρ Q=>te ρ fun x g=>∃ xs,(x = .lst xs ∨ x = .tup xs)/\(g = .rd->flat x=true)/\Q (iV xs) (uU g xs)
theorem aH8 {K:PySem.W.Frag}{H0:Hp}{W:Addr->Prop}{g:Bool}{H1:Hp}{a:Addr}{us:List V}{xs:List PV} (tw:∀ a,W a->∃ o,H1 a=some o/\gE o=true) (ha:∀ W' H',Ev W H1 W' H'->aG K H' a us) (r:Reps K (Ms H0 W g) H1 us xs):lG K H0 W g H1 (wK K a) (iV xs):=by
 have lr:=r.length
 have ll:=rA xs
 refine⟨fun W' H' i e hi=>⟨us,us[i]'(by omega),ha W' H' e,by simp⟩,fun W' H' i v H2 e y hi=>?_,fun W' H' e=>⟨us,ha W' H' e,by omega⟩⟩
 obtain ⟨T,x,hT,rfl,rfl,y⟩:=y
 obtain ⟨z,hz,rz⟩:=r.get (y us (ha W' _ e))
 have sm:=b7 hT (HO.tup [.int (i:Int),x])
 exact⟨sm,_,R3 hz,.tup b9 (.cons (.int _) (.cons ((rz.keep (e.keep tw)).same sm fun _ q=>q) .nil))⟩
theorem aH9 {K:PySem.W.Frag}{H0:Hp}{W:Addr->Prop}{g:Bool}{H1:Hp}{a:Addr}{us:List V}{xs:List PV} (tw:∀ a,W a->∃ o,H1 a=some o/\gE o=true) (ha:∀ W' H',Ev W H1 W' H'->aD K H' a us) (r:Reps K (Ms H0 W g) H1 us xs):lG K H0 W g H1 (wL K a) (iV xs):=by
 have lr:=r.length
 have ll:=rA xs
 refine⟨fun W' H' i e hi=>⟨us,us[i]'(by omega),ha W' H' e,by simp⟩,fun W' H' i v H2 e y hi=>?_,fun W' H' e=>⟨us,ha W' H' e,by omega⟩⟩
 obtain ⟨T,x,hT,rfl,rfl,y⟩:=y
 obtain ⟨z,hz,rz⟩:=r.get (y us (ha W' _ e))
 have sm:=b7 hT (HO.tup [.int (i:Int),x])
 exact⟨sm,_,R3 hz,.tup b9 (.cons (.int _) (.cons ((rz.keep (e.keep tw)).same sm fun _ q=>q) .nil))⟩
section
variable {X : Cx} {σ : L2.St} {H : Hp} {te : aB} {R : It → Hp → Prop}
theorem aI0 (h:LI X (wM te) σ H R):Q8 X.K (jU (LE X te) kX) σ H R:=by
 obtain ⟨W,ρ,Q,px,q,k⟩:=h
 refine⟨W,ρ,_,px,q,?_⟩
 rintro v H1 x g s r ⟨xs,hx,hg,q⟩
 have px1:=px.mono s
 have tw:∀ a,W a->∃ o,H1 a=some o/\gE o=true:=fun a z=>(px1.wm a z).2
 rcases hx with rfl | rfl
 ·obtain ⟨a,us,rfl,m,h,r⟩:=r.sqL
  have wa : ¬ W a:=by
   cases g with
   | fr=>exact (px.new m).1
   | nw=>exact m.1
   | sh=>exact m
   | rd=>have:=hg rfl; unfold flat at this; cases this
  exact⟨a,rfl,.inl ⟨us,aG.of h,k _ _ _ _ s (aH8 tw (fun W' H' e=>aG.of (e _ _ h wa).1) (lH px (fun z=>by have:=hg z; unfold flat at this; cases this) r)) q⟩⟩
 ·obtain ⟨a,us,rfl,h,r⟩:=r.sqT
  refine⟨a,rfl,.inr ⟨us,aD.of h,k _ _ _ _ s (aH9 tw (fun W' H' e=>aD.of (e _ _ h fun z=>?_).1) (lH px (fun z=>by have:=hg z; unfold flat at this; exact this) r)) q⟩⟩
  obtain ⟨o,h',mu⟩:=tw _ z; rw [h] at h'; cases h'; cases mu
theorem aI1 {elts:List Expr}{kt:Nat}{pt p2 pos:Pos}{a:Expr}{ta:aB} (hg:Gl X "enumerate") (hm:X.mg "enumerate" = none) (ha:QE X a ta) (hs:starEach [a] X.env = [(false,eval a X.env)]:=by rfl):QI X (.Tuple elts kt pt) (.Call (.Name "enumerate" p2) [a] [] pos) (wM ta):=
 pS (aH4 hg hm (cQ ha dD hs) hs) fun _ _ _=>aI0
end
section
variable {X : Cx} {e : Expr} {te : aB} {pos p2 : Pos} {scope : Scope} {N : List Str} {fr : List (Option Nat)} {x y : Str} {tp xp yp : Pos} {kt : Nat} {iter elt : Expr} {ti : eW}
abbrev wN (x y:Str) (xp yp:Pos) (kt:Nat) (tp:Pos):Expr:=.Tuple [.Name x xp,.Name y yp] kt tp
theorem aI2 {ifs:List Expr}{tcs:cC} (hc:X.calm=true) (he:∀ (s:Shared) (H:Hp) (C:Addr) (fp:List Addr),QE (bN X scope N s H C fp cT) elt te) (hi:∀ (s:Shared) (H:Hp) (C:Addr) (fp:List Addr),j4 (bN X scope N s H C fp cT) ifs (LT (bN X scope N s H C fp cT) tcs))
  (hN:N.Nodup) (h0:N[0]? = some x) (h1:N[1]? = some y) (hl:∀ (s:Shared) (H:Hp) (C:Addr) (fp:List Addr),(bN X scope N s H C fp cT).env.scope.names.lookup x=some .local) (hl2:∀ (s:Shared) (H:Hp) (C:Addr) (fp:List Addr),(bN X scope N s H C fp cT).env.scope.names.lookup y=some .local) (s:Shared) (H:Hp) :
  kZ X scope N (wN x y xp yp kt tp) ifs elt s H (kS X.K 2 (fX (cV 0) (fX (cV 1) kR))) (LT (X.frm H) tcs) (LE (X.frm H) te):=
 ⟨fun C fp=>mL (X:=bN X scope N s H C fp cT) hc (gQ (eN hN h0 (.inl (hl s H C fp)) (.inr (hl s H C fp))) (gQ (eN hN h1 (.inl (hl2 s H C fp)) (.inr (hl2 s H C fp))) mK)),fun C fp=>hi s H C fp,fun C fp=>he s H C fp⟩
theorem aI3 {c:Expr}{tcs:cC} (hi:QI X (wN x y xp yp kt tp) iter ti) (ht:∀ (s:Shared) (H:Hp) (C:Addr) (fp:List Addr),QT (bN X scope N s H C fp cT) c tcs) (he:∀ (s:Shared) (H:Hp) (C:Addr) (fp:List Addr),QE (bN X scope N s H C fp cT) elt te)
  (hc:X.calm=true:=by rfl) (S:cR X scope N fr:=by exact cR.of rfl rfl) (hN:N.Nodup:=by decide +kernel) (h0:N[0]? = some x:=by rfl) (h1:N[1]? = some y:=by rfl) (hl:∀ (s:Shared) (H:Hp) (C:Addr) (fp:List Addr),(bN X scope N s H C fp cT).env.scope.names.lookup x=some .local:=by intro _ _ _ _; rfl) (hl2:∀ (s:Shared) (H:Hp) (C:Addr) (fp:List Addr),(bN X scope N s H C fp cT).env.scope.names.lookup y=some .local:=by intro _ _ _ _; rfl) (hf:fr[0]? = some none:=by rfl) (hf2:fr[1]? = some none:=by rfl)
  (hs:∀ x,foldedSetIterable iter X.env x=pure x:=by intro _; rfl):QE X (.ListComp elt [⟨wN x y xp yp kt tp,iter,[c],0⟩] scope pos) (dA ti fr (uV 0 1) tcs te):=
 c9 (u0 (gh:=fun _=>kS X.K 2 (fX (cV 0) (fX (cV 1) kR))) (tch:=fun H=>LT (X.frm H) tcs) (teh:=fun H=>LE (X.frm H) te) hc S hi (aI2 hc he (fun s H C fp=>B0 (ht s H C fp)) hN h0 h1 hl hl2) hs) fun _ _ _=>pO (au9 _ 0 1) (fun i e=>by rcases e with e | e <;> (subst e; assumption))
end
section
variable {X : Cx} {a b e o f : Expr} {ta tb te td tk tx : aB} {pos p2 apos cpos : Pos} {σ : L2.St} {H : Hp} {Q' : VK}
def R4:PV->Tg->PV->Tg->PK->Prop:=fun x _ y _ Q=>∃ xs n,x = .lst xs/\y = .int n/\flats xs=true/\-1000000<=n/\n<=1000000/\xs.length<=10/\Q (.lst (List.replicate n.toNat xs).flatten) .fr
abbrev R5 (ta tb:aB):aB:=q2 R4 ta tb
theorem aI4:dO X R4 zV:=by
 rintro W Hs H u v x y g g' Q Q' s n r1 r2 ⟨xs,m,rfl,rfl,f,h1,h2,hl,q⟩ k
 cases r2
 obtain ⟨a,us,rfl,mm,h,r⟩:=r1.sqL
 have lr:=r.length
 refine⟨a,m,us,rfl,rfl,h,by omega,by omega,lim ?_,fun p hp=>k _ _ _ .fr (b7 hp _) (.lst (s.free hp) b9 (((r.flat f).rep m.toNat).same (b7 hp _) fun _ z=>z)) q⟩
 have h3:us.length<=10:=by omega
 have h4:m.toNat<=1000000:=by omega
 calc us.length * m.toNat<=10 * 1000000:=Nat.mul_le_mul h3 h4
  _<=16000000:=by decide
theorem aI5 (ha:QE X a ta) (hb:QE X b tb):QE X (.BinOp a .Mult b pos) (R5 ta tb):=gW am7 aI4 ha hb
theorem aI6 {x:Str}{n:Int}{t:Nat} (hg:Gl X x) (hm:X.mg x=some (.int n t)) (hd:(x == ("__debug__" : Str))=false:=by decide):QE X (.Name x pos) (qC (.int n)):=
 c9 (xK (v:=.int n) hg hm ⟨t,rfl⟩ hd) fun _ _ _=>nH fun _=>.int n
end
section
variable {X : Cx} {a b : Expr} {ta tb : aB} {pos : Pos}
def R6:PV->Tg->PV->Tg->PK->Prop:=fun x _ y _ Q=>∃ xs ys,x = .tup xs/\y = .tup ys/\flats xs=true/\flats ys=true/\xs.length+ys.length<=16000000/\Q (.tup (xs ++ ys)) .fr
abbrev wO (ta tb:aB):aB:=q2 R6 ta tb
theorem aI7:dO X R6 (Q9 X.K):=by
 rintro W Hs H u v x y g g' Q Q' s n r1 r2 ⟨xs,ys,rfl,rfl,f1,f2,hl,q⟩ k
 obtain ⟨a,us,rfl,h1,q1⟩:=r1.sqT
 obtain ⟨b,ws,rfl,h2,q2⟩:=r2.sqT
 have l1:=q1.length
 have l2:=q2.length
 refine⟨a,b,us,ws,rfl,rfl,aD.of h1,aD.of h2,lim (by omega),fun z=>?_,fun _ z=>?_,fun _ _ p hp=>k _ _ _ .fr (b7 hp _) (.tup b9 (((q1.flat f1).append (q2.flat f2)).same (b7 hp _) fun _ z=>z)) q⟩
 ·obtain rfl:xs = []:=by cases xs with
   | nil=>rfl
   | cons _ _=>rw [z] at l1; cases l1
  exact k _ _ _ .fr (a9.refl _) (.tup h2 (q2.flat f2)) q
 ·obtain rfl:ys = []:=by cases ys with
   | nil=>rfl
   | cons _ _=>rw [z] at l2; cases l2
  rw [bd0] at q
  exact k _ _ _ .fr (a9.refl _) (.tup h1 (q1.flat f1)) q
theorem R7 (ha:QE X a ta) (hb:QE X b tb):QE X (.BinOp a .Add b pos) (wO ta tb):=gW aH6 aI7 ha hb
end
end PP
namespace Core
open PySem L2 PP
section
variable (ws : List Int) (ls : List (Int × Int)) (os ns : List Int)
def fM:Nat->List Int
 | 0=>[]
 | k+1=>fM k ++ (os.find? (kin ws ls (ns ++ fM k))).toList
def oK (k:Nat):Option Int:=os.find? (kin ws ls (ns ++ fM ws ls os ns k))
end
section
variable {ws : List Int} {ls : List (Int × Int)} {os ns : List Int}
theorem aI8 {k:Nat}{h:Int} (e:oK ws ls os ns k=some h):fM ws ls os ns (k+1)=fM ws ls os ns k ++ [h]:=by
 show fM ws ls os ns k ++ (oK ws ls os ns k).toList=_
 rw [e]; rfl
theorem R8 {S T:List Int}{h:Int} (hk:kin ws ls S h=true) (st:∀ x ∈ S,x ∈ T) (hn:h ∉ T):kin ws ls T h=true:=by
 unfold kin at hk ⊢
 rw [bf3] at hk ⊢
 refine⟨by rw [aZ8 hn]; rfl,ba2 ?_⟩
 have h1:=bl1 hk.2
 have h2:((bJ ls h).filter fun x=>decide (x ∈ S)).length<=((bJ ls h).filter fun x=>decide (x ∈ T)).length:=by
  rw [<- bm6,<- bm6]
  exact List.countP_mono_left fun x _ hx=>ba2 (st x (bl1 hx))
 omega
def fN (ws:List Int) (ls:List (Int × Int)) (T:List Int):Prop:=∀ h ∈ rng ws.length,kin ws ls T h=false
theorem R9 {T:List Int} (sh:fN ws ls T) (st:∀ x ∈ ns,x ∈ T):∀ k,∀ x ∈ aY ws ls ns k,x ∈ T
 | 0,x,hx=>st x hx
 | k+1,x,hx=>by
  have ih:=R9 sh st k
  rcases bb3.mp (show x ∈ aY ws ls ns k ++ nextOf ws ls (aY ws ls ns k) from hx) with hx | hx
  ·exact ih x hx
  ·have hx:=bc5.mp hx
   by_cases e:x ∈ T
   ·exact e
   ·have:=R8 hx.2 ih e
    rw [sh x hx.1] at this; cases this
theorem S0 (n:Nat):(rng n).Nodup:=wH n
theorem aI9 {k:Nat}{h:Int} (e:oK ws ls os ns k=some h):h ∈ os/\h ∉ ns ++ fM ws ls os ns k:=
 ⟨List.mem_of_find?_eq_some e,bk4 (w4 (List.find?_some e))⟩
theorem aJ0 (po:os.Perm (rng ws.length)) (hs:bC ws.length ns=true):∀ k,(ns ++ fM ws ls os ns k).Nodup/\∀ x ∈ ns ++ fM ws ls os ns k,x ∈ rng ws.length
 | 0=>by
  rw [show fM ws ls os ns 0 = [] from rfl,bd0]
  exact⟨(iP (dL hs).1).imp fun h=>Int.ne_of_lt h,fun x hx=>fK.mpr ((dL hs).2 x hx)⟩
 | k+1=>by
  obtain ⟨i1,i2⟩:=aJ0 po hs k
  cases e:oK ws ls os ns k with
  | none=>
   have:fM ws ls os ns (k+1)=fM ws ls os ns k:=by
    show fM ws ls os ns k ++ (oK ws ls os ns k).toList=_
    rw [e]; exact bd0 _
   rw [this]; exact⟨i1,i2⟩
  | some h=>
   obtain ⟨n1,n2⟩:=aI9 e
   rw [aI8 e,<- bb9]
   refine⟨List.nodup_append.mpr ⟨i1,bf5 _ _,fun x hx y hy=>?_⟩,fun x hx=>?_⟩
   ·rw [aZ4.mp hy]; intro z; subst z; exact n2 hx
   ·rcases bb3.mp hx with hx | hx
    ·exact i2 x hx
    ·rw [aZ4.mp hx]; exact po.mem_iff.mp n1
theorem S4 (hs:bC ws.length ns=true):∀ k,(aY ws ls ns k).Nodup
 | 0=>(iP (dL hs).1).imp fun h=>Int.ne_of_lt h
 | k+1=>by
  show (aY ws ls ns k ++ nextOf ws ls (aY ws ls ns k)).Nodup
  refine List.nodup_append.mpr ⟨S4 hs k,(wH ws.length).filter _,fun x hx y hy=>?_⟩
  intro z; subst z
  exact bk4 (w4 (bc5.mp hy).2) hx
end
theorem gZ {i:Nat}{h:Int}{g:Bool}{ρ:bA}{Q:bA->Prop} (q:Q (ρ.set i (some (.sh true (.int h))))):bS i (.int h) g ρ Q:=by
 show Q (ρ.set i (some (.sh (g || true) (.int h))))
 rw [Bool.or_true]; exact q
def gN (ns S:List Int):Int:=(ns.length:Int) - (((ns.filter fun x=>decide (x ∈ S)).length:Nat):Int)
def rB:bD:=fun xs Q=>∃ x ns ps S,xs = [x,.dK ps]/\cJ x ns/\DS ps S/\ns.length<=10000/\Q (.int (gN ns S))
def S5:aK:=(bK (k7 (aF cM (a7 (a5 0) aA)) (aF qY (a7 (a5 0) (a7 (a5 1) aA)))))
theorem aJ1:cO S5 ["hearths","inside"] rB:=by
 rintro xs Q ⟨x,ns,ps,S,rfl,hx,d,hl,q⟩
 exact⟨_,rfl,_,_,rfl,hx.len,_,rfl,_,rfl,x,ns,ps,S,rfl,hx,d,hl,_,_,rfl,rfl,trivial,q⟩
def fO (ws:List Int) (ls:List (Int × Int)) (S:List Int) (h:Int):Bool:=decide (gN (bJ ls h) S < ws.getD h.toNat 0)
def stay (ws:List Int) (ls:List (Int × Int)) (S:List Int):List Int:=S.filter (fO ws ls S)
theorem S6 {n:Nat}{S:List Int} (h:bC n S=true) (p:Int->Bool):bC n (S.filter p)=true:=by
 obtain ⟨h1,h2⟩:=dL h
 have u:oJ (n:Int) (S.filter p):=⟨(iP h1).filter p,fun x hx=>h2 x (bc5.mp hx).1,by
  have:=oG h
  have:=List.length_filter_le p S
  omega⟩
 exact u.set
def rC:bD:=fun xs Q=>∃ ws ls x S,xs = [bH ws ls,.lst (jI ws.length ls),x]/\Wb ws ls/\cJ x S/\bC ws.length S=true/\Q (.tup (intz (stay ws ls S)))
def S7:aK:=(aL (aX 3 (aF qX (a7 (a5 2) aA)))
 (bK (aF k8 (a7 (dA (dH (a5 2)) [none,some 3,some 1,some 0] (bS 0) (aV (nR (aF rB (a7 (bG (a5 2) (a5 0)) (a7 (a5 1) aA))) (bG (bG (a5 3) (qC (.int 0))) (a5 0)))) (a5 0)) aA))))
theorem aJ2:cO S7 ["web","around","block","inside"] rC:=by
 rintro xs Q ⟨ws,ls,x,S,rfl,wb,hx,hs,q⟩
 have few:=wb.few
 have ln:=oG hs
 have most:=wb.most
 refine⟨_,rfl,x,S,rfl,hx,by omega,fun ps d=>⟨trivial,?_⟩⟩
 refine⟨_,rfl,_,hx.seq,jH hx,by rw [aZ]; omega,fun i acc=>acc=intz ((S.take i).filter (fO ws ls S)),rfl,?_,?_⟩
 ·rintro i z acc hz rfl
  obtain ⟨h,rfl,hh⟩:=gL hz
  have hm:=(dL hs).2 h (bb4 hh)
  have nl:=l9 ls h
  have tk:=oC (p:=fO ws ls S) hh
  refine⟨_,rfl,_,rfl,_,_,_,rfl,rfl,P6 hm.1 hm.2,_,rfl,_,bJ ls h,ps,S,rfl,.inr rfl,d,by omega,_,rfl,_,_,_,rfl,rfl,rfl,_,rfl,_,_,_,rfl,rfl,wB hm.1 hm.2,_,_,rfl,rfl,_,rfl,?_⟩
  show if fO ws ls S h=true then _ else _
  cases hk:fO ws ls S h with
  | true=>
   rw [hk,if_pos rfl] at tk
   refine bI ⟨_,rfl,trivial,?_⟩
   show _=intz (List.filter _ (List.take (i+1) S))
   rw [tk,gM]; rfl
  | false=>
   rw [hk,if_neg (by decide),bd0] at tk
   refine b6 ?_
   show _=intz (List.filter _ (List.take (i+1) S))
   rw [tk]
 ·rintro acc rfl
  rw [aZ,bc6]
  exact⟨⟨_,_,rfl,rfl,cZ _,trivial,q⟩,fun ns z=>by cases z⟩
def dB (ws:List Int) (ls:List (Int × Int)) (S:List Int):Nat->List Int
 | 0=>S
 | k+1=>stay ws ls (dB ws ls S k)
theorem S8 {ws:List Int}{ls:List (Int × Int)}{S:List Int} (hs:bC ws.length S=true):∀ k,bC ws.length (dB ws ls S k)=true
 | 0=>hs
 | k+1=>S6 (S8 hs k) _
theorem aJ3 {S:List Int}{p:Int->Bool} (h:S.filter p ≠ S):(S.filter p).length < S.length:=by
 rcases bd1 (S.filter p).length S.length with z | z
 ·exact z
 ·exact absurd (List.filter_sublist.eq_of_length_le z) h
section
variable {ws : List Int} {ls : List (Int × Int)} {S T : List Int}
theorem aJ4 {ns:List Int} (st:∀ x ∈ T,x ∈ S):gN ns S<=gN ns T:=by
 have h2:(ns.filter fun x=>decide (x ∈ T)).length<=(ns.filter fun x=>decide (x ∈ S)).length:=by
  rw [<- bm6,<- bm6]
  exact List.countP_mono_left fun x _ hx=>ba2 (st x (bl1 hx))
 unfold gN; omega
theorem S9 {h:Int} (st:∀ x ∈ T,x ∈ S) (hs:fO ws ls T h=true):fO ws ls S h=true:=by
 unfold fO at hs ⊢
 have h1:=bl1 hs
 have h2:=aJ4 (ns:=bJ ls h) st
 exact ba2 (by omega)
theorem aJ5 (hT:stay ws ls T=T) (st:∀ x ∈ T,x ∈ S):∀ x ∈ T,x ∈ stay ws ls S:=fun x hx=>
 bc5.mpr ⟨st x hx,S9 st (bc5.mp (show x ∈ stay ws ls T by rw [hT]; exact hx)).2⟩
theorem T0 (hT:stay ws ls T=T) (st:∀ x ∈ T,x ∈ S):∀ k,∀ x ∈ T,x ∈ dB ws ls S k
 | 0=>st
 | k+1=>aJ5 hT (T0 hT st k)
theorem T1:∀ k,∀ x ∈ dB ws ls S k,x ∈ S
 | 0,x,hx=>hx
 | k+1,x,hx=>T1 k x (bc5.mp (show x ∈ stay ws ls (dB ws ls S k) from hx)).1
structure lX (ws:List Int) (ls:List (Int × Int)) (S G:List Int):Prop where
 cold:stay ws ls G=G
 sub:∀ x ∈ G,x ∈ S
 most:∀ U,stay ws ls U=U->(∀ x ∈ U,x ∈ S)->∀ x ∈ U,x ∈ G
theorem aJ6 {k:Nat} (h:stay ws ls (dB ws ls S k)=dB ws ls S k):lX ws ls S (dB ws ls S k):=⟨h,T1 k,fun U hU st=>T0 hU st k⟩
theorem T4 {n:Nat}{A B:List Int} (ha:bC n A=true) (hb:bC n B=true) (h:∀ x,x ∈ A ↔ x ∈ B):A=B:=by
 have ua:=iP (dL ha).1
 have ub:=iP (dL hb).1
 have p:A.Perm B:=(List.perm_ext_iff_of_nodup (ua.imp fun z=>Int.ne_of_lt z) (ub.imp fun z=>Int.ne_of_lt z)).mpr h
 exact aF9 p (ua.imp fun z=>Int.le_of_lt z) (ub.imp fun z=>Int.le_of_lt z)
theorem aJ7 {n:Nat}{A B:List Int} (ha:lX ws ls S A) (hb:lX ws ls S B) (na:bC n A=true) (nb:bC n B=true):A=B:=
 T4 na nb fun x=>⟨fun h=>hb.most A ha.cold ha.sub x h,fun h=>ha.most B hb.cold hb.sub x h⟩
theorem aJ8 {S T:List Int}{h:Int} (hin:h ∉ S) (ht:∀ x,x ∈ bJ ls h->(x ∈ T ↔ x ∉ S)):kin ws ls S h = !fO ws ls T h:=by
 have e:(((bJ ls h).filter fun x=>decide (x ∈ S)).length:Int)=gN (bJ ls h) T:=by
  unfold gN
  have:∀ L:List Int,(∀ x,x ∈ L->(x ∈ T ↔ x ∉ S))->(L.filter fun x=>decide (x ∈ S)).length+(L.filter fun x=>decide (x ∈ T)).length=L.length:=fun L hL=>by
   induction L with
   | nil=>rfl
   | cons a r ih=>
    have i:=ih fun x hx=>hL x (bb0 _ hx)
    have ha:=hL a bb1
    by_cases h1:a ∈ S
    ·have h2:a ∉ T:=fun z=>ha.mp z h1
     simp only [bg1,ba2 h1,aZ8 h2,if_true,bc4,bi7,bd5]; omega
    ·have h2:a ∈ T:=ha.mpr h1
     simp only [bg1,ba2 h2,aZ8 h1,if_true,bc4,bi7,bd5]; omega
  have:=this _ ht
  omega
 unfold kin fO
 rw [e,aZ8 hin]
 simp only [Bool.not_false,Bool.true_and]
 by_cases hc:ws.getD h.toNat 0<=gN (bJ ls h) T
 ·rw [ba2 hc,aZ8 (by omega)]; rfl
 ·rw [aZ8 hc,ba2 (by omega)]; rfl
end
section
variable {ws : List Int} {ls : List (Int × Int)} {ns : List Int}
theorem T5 (wb:Wb ws ls) {h x:Int} (hx:x ∈ bJ ls h):x ∈ rng ws.length:=by
 unfold bJ at hx
 obtain ⟨l,hl,hx⟩:=List.mem_flatMap.mp hx
 have:=wb.links l hl
 rcases bb3.mp hx with hx | hx
 ·split at hx
  ·rw [aZ4.mp hx]; exact fK.mpr this.2
  ·cases hx
 ·split at hx
  ·rw [aZ4.mp hx]; exact fK.mpr this.1
  ·cases hx
def cP (n:Nat) (S:List Int):List Int:=(rng n).filter fun x=>!decide (x ∈ S)
theorem fW {n:Nat}{S:List Int}{x:Int}:x ∈ cP n S ↔ x ∈ rng n/\x ∉ S:=by
 unfold cP; rw [bc5]; simp
theorem wP (n:Nat) (S:List Int):bC n (cP n S)=true:=by
 have u:oJ (n:Int) (cP n S):=⟨by
   refine List.Pairwise.filter _ ?_
   unfold rng
   rw [bj5]
   exact bm8.imp fun h=>by omega,fun x hx=>fK.mp (fW.mp hx).1,by
   have:=List.length_filter_le (fun x=>!decide (x ∈ S)) (rng n)
   rw [fJ] at this
   show ((List.filter (fun x=>!decide (x ∈ S)) (rng n)).length:Int)<=_
   omega⟩
 exact u.set
theorem T6 (wb:Wb ws ls) {S:List Int}{h:Int} (hin:h ∉ S):kin ws ls S h = !fO ws ls (cP ws.length S) h:=
 aJ8 hin fun x hx=>⟨fun z=>(fW.mp z).2,fun z=>fW.mpr ⟨T5 wb hx,z⟩⟩
theorem aJ9 (wb:Wb ws ls) {m:Nat} (en:c8 ws ls ns m):lX ws ls (cP ws.length ns) (cP ws.length (aY ws ls ns m)):=by
 have grow:∀ k,∀ x ∈ ns,x ∈ aY ws ls ns k:=fun k x hx=>by
  induction k with
  | zero=>exact hx
  | succ k ih=>exact be7 _ ih
 refine⟨List.filter_eq_self.mpr fun h hh=>?_,fun x hx=>?_,fun U hU us x hx=>?_⟩
 ·have hm:=fW.mp hh
  have h1:=List.filter_eq_nil_iff.mp (show (rng ws.length).filter (kin ws ls (aY ws ls ns m)) = [] from en.2) h hm.1
  rw [T6 wb hm.2] at h1
  simpa using h1
 ·have hm:=fW.mp hx
  exact fW.mpr ⟨hm.1,fun z=>hm.2 (grow m x z)⟩
 ·have key:∀ k,∀ y ∈ U,y ∉ aY ws ls ns k:=fun k=>by
   induction k with
   | zero=>exact fun y hy=>(fW.mp (us y hy)).2
   | succ k ih=>
    intro y hy z
    rcases bb3.mp (show y ∈ aY ws ls ns k ++ nextOf ws ls (aY ws ls ns k) from z) with z | z
    ·exact ih y hy z
    ·have hk:=(bc5.mp z).2
     rw [T6 wb (ih y hy)] at hk
     have sy:fO ws ls U y=true:=(bc5.mp (show y ∈ stay ws ls U by rw [hU]; exact hy)).2
     have:=S9 (S:=cP ws.length (aY ws ls ns k)) (fun v hv=>fW.mpr ⟨(fW.mp (us v hv)).1,ih v hv⟩) sy
     rw [this] at hk; cases hk
  exact fW.mpr ⟨(fW.mp (us x hx)).1,key m x hx⟩
end
end Core
namespace L2
open PySem PySem.Spec PyProof.Rows
theorem T7:∀ (n:Nat) (ns:List Int),n<=ns.length->preSum (fun i=>ns.getD i 0) n=(ns.take n).sum
 | 0,_,_=>by simp [preSum]
 | n+1,ns,h=>by
  show preSum (fun i=>ns.getD i 0) n+ns.getD n 0=_
  have h1:ns[n]? = some (ns[n]'(by omega)):=aZ0 (by omega)
  have h2:ns.take (n+1)=ns.take n ++ [ns[n]'(by omega)]:=by rw [bd6,h1]; rfl
  have h3:ns.getD n 0=ns[n]'(by omega):=by rw [aZ7,h1]; rfl
  rw [T7 n ns (by omega),h2,h3,List.sum_append,List.sum_cons,List.sum_nil]
  omega
section
variable {X : Cx}
theorem aK0 (hc:X.calm=true):cK X (.builtin "sum") (fun xs H Q=>∃ (a:Addr) (ns:List Int),xs = [.ref a]/\(aG X.K H a (ns.map V.int) ∨ aD X.K H a (ns.map V.int))/\Q (.int ns.sum) H):=by
 intro pins s σ H xs us Q I r h
 obtain ⟨a,ns,rfl,hq,q⟩:=h
 obtain ⟨u,rfl,ru⟩:=fY r
 cases ru
 have hh:X.A.in1.handled=none:=I.ok.hd hc
 have fin:∀ (its:List Value) (o:Obj) (wr:List Addr) (hw:∀ b ∈ wr,s.heap.objs.size<=b),aH (ns.map V.int) its->∀ s' t',Moved wr (fun a b=>b=a) { s with heap:=s.heap.push o } s'->
   ∃ x H',a6 X pins σ H' s'/\aO x (.int (preSum (fun i=>ns.getD i 0) its.toArray.size) t')/\Q x H':=fun its o wr hw rv s' t' hm=>by
  have hl:=rv.length
  rw [ba3] at hl
  have e:=Moved.eq_with hm
  have e2:preSum (fun i=>ns.getD i 0) its.toArray.size=ns.sum:=by rw [aZ2,<- hl,T7 _ _ (aZ3 _),bc6]
  rw [e2,e]
  refine⟨.int ns.sum,H,I.kept (t':=s'.toks) (h':=s'.heap) fun b o' eb=>hm.heap b o' (fun z=>?_) (aZ1 _ eb),⟨t',rfl⟩,q⟩
  exact absurd (ba4 eb) (Nat.not_lt.mpr (hw b z))
 have val:∀ (its:List Value),aH (ns.map V.int) its->∀ (i:Nat) (v:Value),its.toArray[i]? = some v->∃ t,v = .int (ns.getD i 0) t:=fun its rv i v hv=>by
  have hi:its[i]? = some v:=by simpa using hv
  have hl:=rv.length
  rw [ba3] at hl
  have hil:i < ns.length:=by rw [hl]; exact (aZ9.mp hi).1
  obtain ⟨u,e1,e2⟩:=rv.get (i:=i) (x:=.int ns[i]) (by simp [hil])
  rw [hi] at e1; cases e1
  obtain ⟨t,rfl⟩:=e2
  exact⟨t,by rw [aZ7,aZ0 hil]; rfl⟩
 rcases hq with hq | hq
 ·obtain ⟨its,rv,p,hz⟩:=I.list hq
  have hlt:a < s.heap.objs.size:=by obtain ⟨o,e,_⟩:=p.isList; exact ba4 e
  refine call_sum_walkAnyS (wpAny_pyIter_list p.isList ?_)
  refine⟨s.heap.objs.size,_,_,_,_,_,_,fun i=>ns.getD i 0,rfl,(Walks.list hh s.heap.objs.size a (bc7 hlt) its.toArray).toS,⟨⟨_,bb2 _ rfl,rfl,rfl⟩,p.isList.push _⟩,?_,val its rv,fun s' t' hm=>fin its _ _ ?_ rv s' t' hm⟩
  ·intro b hb
   have hs:(s.heap.push { cls:=.type "list_iterator",data:=.fields #[.ref a,.int 0 0] }).objs.size=s.heap.objs.size+1:=size_push' _ _
   show b < (s.heap.push _).objs.size
   rw [size_push']
   rcases aZ6.mp hb with rfl | hb
   ·exact Nat.lt_succ_self _
   ·rw [aZ4.mp hb]; exact Nat.lt_succ_of_lt hlt
  ·intro b hb
   rw [aZ4.mp hb]; exact aZ3 _
 ·obtain ⟨its,rv,p,hz⟩:=I.tuple hq
  have hlt:a < s.heap.objs.size:=by obtain ⟨o,e,_⟩:=p; exact ba4 e
  refine call_sum_walkAnyS (bl4 p ?_)
  refine⟨s.heap.objs.size,_,_,_,_,_,_,fun i=>ns.getD i 0,rfl,(Walks.tuple hh s.heap.objs.size a (bc7 hlt) its.toArray).toS,⟨⟨_,bb2 _ rfl,rfl,rfl⟩,?_⟩,?_,val its rv,fun s' t' hm=>fin its _ _ ?_ rv s' t' hm⟩
  ·obtain ⟨o,e,h⟩:=p
   exact⟨o,aZ1 _ e,h⟩
  ·intro b hb
   show b < (s.heap.push _).objs.size
   rw [size_push']
   rcases aZ6.mp hb with rfl | hb
   ·exact Nat.lt_succ_self _
   ·rw [aZ4.mp hb]; exact Nat.lt_succ_of_lt hlt
  ·intro b hb
   rw [aZ4.mp hb]; exact aZ3 _
theorem aK1 (hc:X.calm=true):cK X (.builtin "any") (fun xs H Q=>∃ (a:Addr) (bs:List Bool),xs = [.ref a]/\aG X.K H a (bs.map V.bl)/\Q (.bl (bs.any id)) H):=by
 intro pins s σ H xs us Q I r h
 obtain ⟨a,bs,rfl,hq,q⟩:=h
 obtain ⟨u,rfl,ru⟩:=fY r
 cases ru
 obtain ⟨its,rv,p,hz⟩:=I.list hq
 have hl:=rv.length
 rw [ba3] at hl
 have hlt:a < s.heap.objs.size:=by obtain ⟨o,e,_⟩:=p.isList; exact ba4 e
 refine call_any_walk (wpAny_pyIter_list p.isList ?_)
 have hh:X.A.in1.handled=none:=I.ok.hd hc
 refine⟨s.heap.objs.size,_,_,_,_,_,fun i=>bs.getD i false,rfl,Walks.list hh s.heap.objs.size a (bc7 hlt) its.toArray,⟨⟨_,bb2 _ rfl,rfl,rfl⟩,p.isList.push _⟩,?_,fun h' tk kp=>?_⟩
 ·intro i v s' Q' E' hP hQ'
  have hi:its[i]? = some v:=by simpa using hP
  have hil:i < bs.length:=by rw [hl]; exact (aZ9.mp hi).1
  obtain ⟨u,e1,e2⟩:=rv.get (i:=i) (x:=.bl bs[i]) (by simp [hil])
  rw [hi] at e1; cases e1
  cases e2
  have:bs.getD i false=bs[i]:=by rw [aZ7,aZ0 hil]; rfl
  have hQ2:Q' (bs.getD i false) s':=hQ'
  rw [this] at hQ2
  exact bh6 hQ2
 ·have any_eq:(List.range its.toArray.size).any (fun i=>bs.getD i false)=bs.any id:=by
   rw [aZ2,<- hl]
   clear q rv hz hl hq hlt p hh kp
   induction bs with
   | nil=>rfl
   | cons b r ih=>
    rw [bd5,List.range_succ_eq_map,bn0,List.any_map,bn0,<- ih]
    rfl
  rw [any_eq]
  refine⟨.bl (bs.any id),H,I.kept (t':=tk) (h':=h') fun b o e=>kp b o (fun z=>?_) (aZ1 _ e),rfl,q⟩
  rw [aZ4.mp z] at e
  exact absurd (ba4 e) (bg3 _)
end
end L2
namespace PP
open PySem L2 PyProof.Rows
section
variable {X : Cx} {a b e : Expr} {ta tb te : aB} {tr : cH} {pos p2 : Pos}
def rD:List PV->(PV->Prop)->Prop:=fun xs Q=>∃ x ns,xs = [x]/\iF x=some (intz ns)/\Q (.int ns.sum)
theorem aK2:eV X rD (fun xs H Q=>∃ (a:Addr) (ns:List Int),xs = [.ref a]/\(aG X.K H a (ns.map V.int) ∨ aD X.K H a (ns.map V.int))/\Q (.int ns.sum) H):=by
 rintro H vs xs Q Q' r ⟨x,ns,rfl,e,q⟩ k
 obtain ⟨v,rfl,r1⟩:=r.one
 obtain ⟨a,us,rfl,hs,r2⟩:=r1.seq e
 obtain rfl:=r2.ofInts
 exact⟨a,ns,rfl,hs,k _ _ _ (a9.refl _) (.int _) q⟩
theorem T8 (B:Bt X.mg) (hc:X.calm=true) (ha:QA X [e] tr) (hg:Gl X "sum":=by rfl) (he:starEach [e] X.env=(false,eval e X.env) :: starEach [] X.env:=by rfl) (hpl:(backTo pos (starEach [] X.env)).any (·.1)=false:=by rfl):QE X (.Call (.Name "sum" p2) [e] [] pos) (aF rD tr):=
 iL (aK0 hc) aK2 hg B.sum PyProof.Rows.boot_sum ha (he:=he) (hpl:=hpl)
def rE:List PV->(PV->Prop)->Prop:=fun xs Q=>∃ bs:List Bool,xs = [.lst (bs.map PV.bl)]/\Q (.bl (bs.any id))
theorem aK3:eV X rE (fun xs H Q=>∃ (a:Addr) (bs:List Bool),xs = [.ref a]/\aG X.K H a (bs.map V.bl)/\Q (.bl (bs.any id)) H):=by
 rintro H vs xs Q Q' r ⟨bs,rfl,q⟩ k
 obtain ⟨v,rfl,r1⟩:=r.one
 obtain ⟨a,us,rfl,_,h,r2⟩:=r1.sqL
 obtain rfl:=r2.ofBls
 exact⟨a,bs,rfl,aG.of h,k _ _ _ (a9.refl _) (.bl _) q⟩
theorem T9 (B:Bt X.mg) (hc:X.calm=true) (ha:QA X [e] tr) (hg:Gl X "any":=by rfl) (he:starEach [e] X.env=(false,eval e X.env) :: starEach [] X.env:=by rfl) (hpl:(backTo pos (starEach [] X.env)).any (·.1)=false:=by rfl):QE X (.Call (.Name "any" p2) [e] [] pos) (aF rE tr):=
 iL (aK1 hc) aK3 hg B.any PyProof.Rows.boot_any ha (he:=he) (hpl:=hpl)
end
end PP
namespace Core
open PySem L2 PP
theorem pE {ls:List (Int × Int)}{wts:List Int} (e:wts.length=ls.length):(ls.zip wts).map (·.2)=wts:=by
 rw [List.map_snd_zip]; omega
theorem aK4 (n:Nat):(rng n).Pairwise (· < ·):=by
 unfold rng
 rw [bj5]
 exact (bm8 (n:=n)).imp fun h=>by omega
section
variable {ws : List Int} {ls : List (Int × Int)} {ns wts : List Int} {m : Nat}
def loose (ls:List (Int × Int)) (wts ns:List Int):List ((Int × Int) × Int):=(ls.zip wts).filter fun z=>!(decide (z.1.1 ∈ ns) && decide (z.1.2 ∈ ns))
end
end Core
set_option maxHeartbeats 1000000
set_option maxHeartbeats 1000000
set_option maxHeartbeats 1000000
set_option maxHeartbeats 1000000
namespace PP
open PySem L2 PyProof.Rows
abbrev dM:=(Str->Prop)->bD
def EX (K:PySem.W.Frag) (H0:Hp) (Ep:Str->Prop):XK:=fun c d H'=>d=none/\a9 H0 H'/\∃ n C,c = .ref C/\PySem.W.nsIn K mainGlobals n=some (some (.ref C))/\Ep n
def U0 (K:PySem.W.Frag) (p:dM):Sp:=fun vs H Q E=>∃ xs Qp Ep,Reps K (fun _=>True) H vs xs/\p Ep xs Qp/\(∀ v H' x,a9 H H'->aE K (fun a=>H a=none) H' v x->Qp x->Q v H')/\
 ∀ n C H',a9 H H'->PySem.W.nsIn K mainGlobals n=some (some (.ref C))->Ep n->E (.ref C) none H'
structure bY (P:Program) (w:World) (K:PySem.W.Frag) (mg:Str->Option Value) (base:Heap) (k:Nat) (x:Str) (ps:List Str) (p:dM):Prop where
 ex:∃ f fd,cG P w K mg base (dJ P w) k f fd ps (U0 K p)/\fZ K fd ps []/\PySem.W.keepIn K (.ref f)=true/\mg x=some (.ref f)
section
variable {X : Cx} {σ : L2.St} {H : Hp} {D : c8} {tr : cH} {Q' : VK} {a b c e : Expr} {es : List Expr} {pos p2 cp np hp : Pos} {t : aK} {te : aB} {tc : cC}
def jJ (Ep:Str->Prop) (p:dM) (t:cH):aB:=aF (p Ep) t
theorem U1 {p:dM}{Ep:Str->Prop} (h:LE X (jJ Ep p tr) σ H Q'):tD (U0 X.K p) [] (EX X.K X.H₀ Ep) (LA X tr) σ H Q':=by
 obtain ⟨W,ρ,Q,px,q,k⟩:=h
 refine⟨W,ρ,_,px,q,fun vs H1 xs s1 r1 q1=>⟨_,_,Ep,by rw [bd0]; exact r1.any,q1,fun v H' x s2 r2 q2=>k v H' x .fr (s1.trans s2) (r2.same (a9.refl _) fun _ z=>s1.free z) q2,fun n C H' s2 z1 z2=>⟨rfl,(px.same.trans s1).trans s2,n,C,rfl,z1,z2⟩⟩⟩
theorem lY {Ep:Str->Prop}{k j:Nat}{x:Str}{ps:List Str}{p:dM} (hX:lV X (EX X.K X.H₀ Ep)) (d:bY X.prog X.w X.K X.mg X.base k x ps p) (hr:bR j X.A) (ha:QA X (e :: es) tr) (hkj:k<=j:=by decide) (hg:Gl X x:=by rfl) (hdb:(x == ("__debug__" : Str))=false:=by decide)
  (he:starEach (e :: es) X.env=(false,eval e X.env) :: starEach es X.env:=by rfl) (hpl:(backTo pos (starEach es X.env)).any (·.1)=false:=by rfl):QE X (.Call (.Name x p2) (e :: es) [] pos) (jJ Ep p tr):=by
 obtain ⟨f,fd,F,b,kp,m⟩:=d.ex
 exact c9 (tE F (hr.mono hkj) hg m kp b .nil hX.pass ha hdb he hpl) fun _ _ _=>U1
theorem U2 {k j:Nat}{x:Str}{ps:List Str}{p:dM} (d:bY X.prog X.w X.K X.mg X.base k x ps p) (hr:bR j X.A) (ha:QA X (e :: es) tr) (hkj:k<=j:=by decide) (hg:Gl X x:=by rfl) (hdb:(x == ("__debug__" : Str))=false:=by decide)
  (he:starEach (e :: es) X.env=(false,eval e X.env) :: starEach es X.env:=by rfl) (hpl:(backTo pos (starEach es X.env)).any (·.1)=false:=by rfl):QE X (.Call (.Name x p2) (e :: es) [] pos) (aF (p fun _=>False) tr):=by
 obtain ⟨f,fd,F,b,kp,m⟩:=d.ex
 refine c9 (tE F (E:=EX X.K X.H₀ fun _=>False) (hr.mono hkj) hg m kp b .nil (fun _ _ _ _ _ _ _ h=>?_) ha hdb he hpl) fun _ _ _ h=>U1 (Ep:=fun _=>False) h
 obtain ⟨_,_,_,_,_,_,_,_,_,_,_,_,z⟩:=h
 exact z.elim
def lZ (Ep:Str->Prop) (n:Str) (t:cH):aK:=fun _ ρ=>t ρ fun xs=>xs.length<=1000/\Ep n
theorem aK5 {Ep:Str->Prop}{n:Str}{C:Addr} (hn:PySem.W.nsIn X.K mainGlobals n=some (some (.ref C))) (h:LS X (lZ Ep n tr) D σ H):O2 (EX X.K X.H₀ Ep) C (LA X tr) D σ H:=by
 obtain ⟨W,ρ,D',px,q,k⟩:=h
 exact⟨W,ρ,_,px,q,fun vs H1 xs s1 r z=>⟨by rw [r.length]; exact uJ z.1,rfl,px.same.trans s1,n,C,rfl,hn,z.2⟩⟩
structure Xc (K:PySem.W.Frag) (mg:Str->Option Value) (base:Heap) (n:Str):Prop where
 ex:∃ C B newId initId bm,OwnCls n C bm newId mg base/\ExcBaseFacts B newId initId bm/\PySem.W.nsIn K mainGlobals n=some (some (.ref C))
theorem rF {Ep:Str->Prop}{n:Str} (hX:lV X (EX X.K X.H₀ Ep)) (x:Xc X.K X.mg X.base n) (ha:QA X (e :: es) tr) (hc:X.calm=true:=by rfl) (hg:Gl X n:=by rfl) (hd:(n == ("__debug__" : Str))=false:=by decide)
  (he:starEach (e :: es) X.env=(false,eval e X.env) :: starEach es X.env:=by rfl) (hpl:(backTo cp (starEach es X.env)).any (·.1)=false:=by rfl):QS X (.Raise (some (.Call (.Name n np) (e :: es) [] cp)) none pos) (lZ Ep n tr):=by
 obtain ⟨C,B,newId,initId,bm,O,FB,hn⟩:=x.ex
 exact fH (aC1 hX hc O FB ha hg hd he hpl) fun _ _ _=>aK5 hn
abbrev m3:=j7->(Str->Prop)->bA->Prop
def LB (X:Cx) (t:m3):TB:=fun D Ex σ H=>∃ (W:Addr->Prop) (ρ:bA) (D':j7) (Ep:Str->Prop),PX X.K X.H₀ W σ ρ H/\t D' Ep ρ/\nK X W H D' D/\∀ n C H',a9 H H'->PySem.W.nsIn X.K mainGlobals n=some (some (.ref C))->Ep n->Ex (.ref C) none H'
def QB (X:Cx) (sts:List Stmt) (t:m3):Prop:=PB X sts (LB X t)
theorem pbI {sts:List Stmt}{t t':TB} (h:PB X sts t) (m:∀ D Ex σ H,t' D Ex σ H->t D Ex σ H):PB X sts t':=fun pins s σ H D Ex I q=>h pins s σ H D Ex I (m D Ex σ H q)
def U3 (p:dM) (t:cH):m3:=fun D Ep ρ=>t ρ fun xs=>p Ep (xs.map (·.1)) fun _=>D.nx ρ
theorem aK6 {k j:Nat}{x:Str}{ps:List Str}{p:dM} (d:bY X.prog X.w X.K X.mg X.base k x ps p) (hr:bR j X.A) (ha:∀ E,QA (X.wish E) (e :: es) tr) (hkj:k<=j:=by decide) (hg:Gl X x:=by rfl) (hdb:(x == ("__debug__" : Str))=false:=by decide)
  (he:starEach (e :: es) X.env=(false,eval e X.env) :: starEach es X.env:=by rfl) (hpl:(backTo cp (starEach es X.env)).any (·.1)=false:=by rfl) (hsw:swapsWith (.Call (.Name x p2) (e :: es) [] cp) none pos.line X.env=pure false:=by rfl):QB X [.Expr (.Call (.Name x p2) (e :: es) [] cp) pos] (U3 p tr):=by
 obtain ⟨f,fd,F,b,kp,m⟩:=d.ex
 refine pbI (aC5 (t:=LA X tr) F (hr.mono hkj) hg m kp b (fun E=>ha E) hdb he hpl hsw) fun D Ex σ H h=>?_
 obtain ⟨W,ρ,D',Ep,px,q,k,ke⟩:=h
 exact⟨W,ρ,_,px,q,fun vs H1 xs s1 r q1=>⟨_,_,Ep,r.any,q1,fun v H' x s2 r2 q2=>k.nx W σ H' ρ (Ev.same (s1.trans s2)) (px.mono (s1.trans s2)) q2,fun n C H' s2 z1 z2=>ke n C H' (s1.trans s2) z1 z2⟩⟩
def U4 (D:j7) (i:Nat):j7:={ nx:=fun ρ=>D.nx (ρ.set i none),rt:=D.rt,bk:=fun ρ=>D.bk (ρ.set i none),ct:=fun ρ=>D.ct (ρ.set i none) }
def m5:List Str:=["BadWeb","BadSet","BadOrder","BadPrices","BadBoard","BadDeed","NotWood","NoPaper","NoSuch","TooMany","NoText","OddRound"]
def kF (n m:Str):Option Bool:=if m5.contains n then some (n == m || m == "HearthError" || m == "ValueError") else none
def wQ (m:Str) (i:Nat) (tb:m3) (ts:aK):aK:=fun D ρ=>tb D (fun n=>kF n m=some true/\ts (U4 D i) (ρ.set i (some (.sh true (.exc n))))) ρ
theorem aK7 {m:Str}{Ch:Addr}{i:Nat}{tb:m3}{ts:aK} (hs:∀ n C,kF n m=some true->PySem.W.nsIn X.K mainGlobals n=some (some (.ref C))->PySem.W.subIn X.K (.ref C) (.ref Ch)=some true) (h:LS X (wQ m i tb ts) D σ H):O4 X.K Ch i (LB X tb) (LS X ts) D σ H:=by
 obtain ⟨W,ρ,D',px,q,k⟩:=h
 refine⟨W,ρ,D',_,px,q,k,fun n C H' s z1 z2 a C' oe hc na hcl=>?_⟩
 cases hc
 refine⟨hs n C z2.1 z1,W,_,U4 D' i,(px.mono (s.trans (b7 na _))).setSh (g:=true) (.exc b9 z1 hcl),z2.2,?_⟩
 have k':=k.step (Ev.same (W:=W) (s.trans (b7 na (.frz oe (.own a)))))
 exact⟨fun W' σ' H2 ρ' ev px' q'=>k'.nx W' _ H2 _ ev px'.setNone q',k'.rt,fun W' σ' H2 ρ' ev px' q'=>k'.bk W' _ H2 _ ev px'.setNone q',fun W' σ' H2 ρ' ev px' q'=>k'.ct W' _ H2 _ ev px'.setNone q'⟩
structure wR (K:PySem.W.Frag) (mg:Str->Option Value) (m:Str):Prop where
 ex:∃ Ch,mg m=some (.ref Ch)/\vX K Ch/\∀ n C,kF n m=some true->PySem.W.nsIn K mainGlobals n=some (some (.ref C))->PySem.W.subIn K (.ref C) (.ref Ch)=some true
theorem aK8 (i:Nat) {m n:Str}{b₀:Stmt}{suite body:List Stmt}{tb:m3}{ts:aK} (ct:wR X.K X.mg m) (hN:X.N.Nodup) (hb:QB X body tb) (hs:∀ a,eD (X.suite a) (b₀ :: suite) ts) (hstk:X.stack=X.env :: X.outer/\X.env.frame=some X.env.locals:=by exact⟨rfl,rfl⟩) (hi:X.N[i]? = some n:=by rfl) (hl:X.env.scope.names.lookup n=some .local:=by rfl) (hg:Gl X m:=by rfl)
  (hd:(m == ("__debug__" : Str))=false:=by decide):QS X (.Try body [.ExceptHandler (some (.Name m np)) (some n) (b₀ :: suite) hp] [] [] pos) (wQ m i tb ts):=by
 obtain ⟨Ch,hm,c,sub⟩:=ct.ex
 exact fH (aC6 (ts:=LS X ts) hstk hb hg hm c hN hi hl (fun a=>vB (hs a) fun _ _ _ ⟨W,ρ,D',px,q,k⟩=>⟨W,ρ,D',px,q,⟨k.nx,k.rt,k.bk,k.ct⟩⟩) hd) fun _ _ _=>aK7 sub
def gB:V->Value
 | .ref a=>.ref a
 | .ty n=>.type n
 | _=>.none
def aK9 (K:PySem.W.Frag):List V->Hp->VK->Prop:=fun xs H Q=>∃ v v2 b,xs = [v,v2]/\gB v2 ≠ .none/\((∃ a o C,v = .ref a/\H a=some (.frz o (.own a))/\o.cls = .ref C/\gY K C/\PySem.W.kitOne K (.ref C) (gB v2)=some b) ∨ (v = .non/\PySem.W.kitOne K (.type "NoneType") (gB v2)=some b))/\Q (.bl b) H
theorem aL0:cK X (.builtin "isinstance") (aK9 X.K):=by
 intro pins s σ H xs us Q I r h
 obtain ⟨v,v2,b,rfl,hv,hk,q⟩:=h
 obtain ⟨u,u',rfl,ru,ru'⟩:=mS r
 obtain rfl:u'=gB v2:=by
  cases v2 <;> first | exact ru' | exact absurd rfl hv
 rcases hk with ⟨a,o,C,rfl,hH,hc,F,e⟩ | ⟨rfl,e⟩
 ·obtain ⟨h1,_⟩:=I.hok a _ hH
  cases (show u=Value.ref a from ru)
  exact bf7 (aD3 F) I.kIn ⟨o,h1,hc⟩ e (fun z=>nomatch z) fun tk=>⟨.bl b,H,I.tok tk,rfl,q⟩
 ·cases (show u=Value.none from ru)
  exact bf7 PySem.W.kitx_none I.kIn trivial e (fun z=>nomatch z) fun tk=>⟨.bl b,H,I.tok tk,rfl,q⟩
def aL1 (m:Str):PV->Option Bool
 | .exc n=>kF n m
 | .non=>some false
 | _=>none
def m6 (m:Str) (te:aB):aB:=fun ρ Q=>te ρ fun x _=>∃ b,aL1 m x=some b/\Q (.bl b) .fr
structure wS (K:PySem.W.Frag) (m:Str) (v2:V):Prop where
 nn:gB v2 ≠ .none
 ex:∀ n C b,PySem.W.nsIn K mainGlobals n=some (some (.ref C))->kF n m=some b->gY K C/\PySem.W.kitOne K (.ref C) (gB v2)=some b
 no:PySem.W.kitOne K (.type "NoneType") (gB v2)=some false
theorem U5 {x:Str}{v2:V}{px:Pos} (B:Bt X.mg) (A:wS X.K x v2) (hx:PE X (.Name x px) (tC v2)) (ha:QE X a te) (hg:Gl X "isinstance":=by rfl)
  (he:starEach [a,.Name x px] X.env=(false,eval a X.env) :: starEach [.Name x px] X.env:=by rfl) (he2:starEach [.Name x px] X.env=(false,eval (.Name x px) X.env) :: starEach [] X.env:=by rfl) (hpl:(backTo pos (starEach [.Name x px] X.env)).any (·.1)=false:=by rfl):QE X (.Call (.Name "isinstance" p2) [a,.Name x px] [] pos) (m6 x te):=
 c9 (mU aL0 hg B.isinst PyProof.Rows.boot_isinstance (cQ ha (cQ hx dD he2) he) (he:=he) (hpl:=hpl)) fun σ H Q' h=>by
  obtain ⟨W,ρ,Q,px,q,k⟩:=h
  refine⟨W,ρ,_,px,q,?_⟩
  rintro v H1 y g s r ⟨b,e,q⟩
  refine⟨v,v2,b,rfl,A.nn,?_,k _ _ _ .fr s (.bl _) q⟩
  cases r with
  | exc h z c=>
   obtain ⟨F,kt⟩:=A.ex _ _ _ z e
   exact .inl ⟨_,_,_,rfl,h,c,F,kt⟩
  | non=>cases e; exact .inr ⟨rfl,A.no⟩
  | _=>cases e
end
section
variable {X : Cx} {a : Expr} {pos p2 px : Pos} {te : aB}
structure oM (K:PySem.W.Frag) (mg:Str->Option Value) (m:Str):Prop where
 ex:∃ C,mg m=some (.ref C)/\wS K m (.ref C)
structure wT (K:PySem.W.Frag) (mg:Str->Option Value):Prop where
 mg:mg "ValueError" = none
 is:wS K "ValueError" (.ty "ValueError")
theorem U6 {x:Str} (B:Bt X.mg) (A:oM X.K X.mg x) (ha:QE X a te) (hgx:Gl X x:=by rfl) (hdx:(x == ("__debug__" : Str))=false:=by decide) (hg:Gl X "isinstance":=by rfl)
  (he:starEach [a,.Name x px] X.env=(false,eval a X.env) :: starEach [.Name x px] X.env:=by rfl) (he2:starEach [.Name x px] X.env=(false,eval (.Name x px) X.env) :: starEach [] X.env:=by rfl) (hpl:(backTo pos (starEach [.Name x px] X.env)).any (·.1)=false:=by rfl):QE X (.Call (.Name "isinstance" p2) [a,.Name x px] [] pos) (m6 x te):=by
 obtain ⟨C,m,i⟩:=A.ex
 exact U5 B i (xK hgx m rfl hdx) ha hg he he2 hpl
theorem aL2 (B:Bt X.mg) (A:wT X.K X.mg) (ha:QE X a te) (hgx:Gl X "ValueError":=by rfl) (hg:Gl X "isinstance":=by rfl)
  (he:starEach [a,.Name "ValueError" px] X.env=(false,eval a X.env) :: starEach [.Name "ValueError" px] X.env:=by rfl) (he2:starEach [.Name "ValueError" px] X.env=(false,eval (.Name "ValueError" px) X.env) :: starEach [] X.env:=by rfl) (hpl:(backTo pos (starEach [.Name "ValueError" px] X.env)).any (·.1)=false:=by rfl):QE X (.Call (.Name "isinstance" p2) [a,.Name "ValueError" px] [] pos) (m6 "ValueError" te):=
 U5 B A.is (xL (v:=.ty "ValueError") hgx A.mg PyProof.Rows.Boot.«ValueError» rfl (by decide) (by decide)) ha hg he he2 hpl
end
structure jK (K:PySem.W.Frag) (C:Addr):Prop where
 cls:PySem.W.isClsIn K C=true
 ty:PySem.W.typeIn K (.ref C)=some (.type "type")
 ga:PySem.W.findIn K (.ref C) "__getattribute__" = some (some (.builtin "BaseException.__getattribute__"))
 gt:PySem.W.findIn K (.ref C) "__getattr__" = some none
 fc:PySem.W.findIn K (.ref C) "__class__" = some (some (.builtin "object.__class__"))
 fg:PySem.W.specialIn K (.builtin "object.__class__") "__get__" = some (some (.builtin "getset_descriptor.__get__"))
 ft:PySem.W.takesIn K (.builtin "object.__class__")=some true
 ob:PySem.W.mroIn K C (.type "object")=some true
 be:PySem.W.mroIn K C (.type "BaseException")=some true
theorem jK.exc {K:PySem.W.Frag}{C:Addr} (h:jK K C):gY K C:=⟨h.cls,h.ga,h.gt,h.fc,h.fg,h.ft,h.ob,h.be⟩
theorem wU {K:PySem.W.Frag}{h₀:Heap}{mg:Str->Option Value}{x:Str}{C:Addr}{bmB:List Value}{newId:String} (X:K.In h₀) (m:mg x=some (.ref C)) (q:PySem.W.excIn K C bmB newId=true):OwnCls x C bmB newId mg h₀:=by
 refine⟨m,?_⟩
 unfold PySem.W.excIn at q
 split at q
 case h_2=>cases q
 rename_i dd cd sl ho
 split at q
 case h_2=>cases q
 rename_i C' bm k0 k1 k2 k3 n k5 hm hs
 simp only [bf3,beq_iff_eq,Bool.not_eq_true'] at q
 obtain ⟨⟨⟨⟨⟨rfl,rfl⟩,dl⟩,ht⟩,hok⟩,hni⟩:=q
 obtain ⟨nm,bs,mro,ns,qn,hd,sn,sub,ab,col,del⟩:=cd
 dsimp only at hm dl hok hni
 subst hm dl
 obtain rfl:sl = #[k0,k1,k2,k3,some (.builtin n),k5]:=by
  obtain ⟨l⟩:=sl
  exact congrArg Array.mk hs
 exact⟨bm,ns,nm,qn,bs,hd,sn,sub,ab,col,dd,k0,k1,k2,k3,k5,_,X _ _ ho,.of_isNs (PySem.W.isNs_of_in X hok),PySem.W.nsMap_none_of_in X hok hni,PySem.W.tail_of_in X ht⟩
theorem rG {n m:Str}{b:Bool} (h:kF n m=some b):n ∈ m5/\b=(n == m || m == "HearthError" || m == "ValueError"):=by
 unfold kF at h
 split at h
 ·rename_i z
  exact⟨by simpa using z,by cases h; rfl⟩
 ·cases h
theorem rH {K:PySem.W.Frag}{C D:Addr}{b:Bool} (hd:jK K D) (ne:(C == D)=false) (s:PySem.W.subIn K (.ref C) (.ref D)=some b):PySem.W.kitOne K (.ref C) (.ref D)=some b:=by
 have ne':(Value.ref C == Value.ref D)=false:=by
  rw [beq_eq_false_iff_ne] at ne ⊢
  exact fun z=>ne (Value.ref.inj z)
 have c:=hd.cls
 unfold PySem.W.isClsIn at c
 unfold PySem.W.kitOne PySem.W.kitCls
 rw [if_neg (by rw [ne']; decide)]
 dsimp only
 rw [if_pos (by rw [c,hd.ty]; decide)]
 exact s
theorem U7 {K:PySem.W.Frag}{C:Addr}:PySem.W.kitOne K (.ref C) (.ref C)=some true:=by
 unfold PySem.W.kitOne
 rw [if_pos (bh5 _)]
theorem wV {K:PySem.W.Frag}{C:Addr} (s:PySem.W.subIn K (.ref C) (.type "ValueError")=some true):PySem.W.kitOne K (.ref C) (.type "ValueError")=some true:=by
 unfold PySem.W.kitOne PySem.W.kitCls
 rw [if_neg (fun z=>by cases beq_iff_eq.mp z)]
 dsimp only
 rw [if_pos (by decide +kernel)]
 exact s
theorem U8 {K:PySem.W.Frag}{D:Addr} (hd:jK K D) (s:PySem.W.subIn K (.type "NoneType") (.ref D)=some false):PySem.W.kitOne K (.type "NoneType") (.ref D)=some false:=by
 have c:=hd.cls
 unfold PySem.W.isClsIn at c
 unfold PySem.W.kitOne PySem.W.kitCls
 rw [if_neg (fun z=>by cases beq_iff_eq.mp z)]
 dsimp only
 rw [if_pos (by rw [c,hd.ty]; decide)]
 exact s
theorem aL3 {K:PySem.W.Frag}:PySem.W.kitOne K (.type "NoneType") (.type "ValueError")=some false:=by
 have e:(if PySem.W.kitMeta "ValueError" = true then (fastBuiltinMro "NoneType").map (·.contains (Value.type "ValueError")) else none)=some false:=by decide +kernel
 unfold PySem.W.kitOne
 rw [if_neg (by decide)]
 exact e
theorem bY.of {P:Program}{w:World}{K:PySem.W.Frag}{mg:Str->Option Value}{base:Heap}{k:Nat}{x:Str}{ps N:List Str}{p:dM}{st:Stmt}{f:Addr}{fd:FuncData} (F:dX K x x st f fd) (m:mg x=some (.ref f)) (S:FnScope N ps (aS st))
  (hb:∀ (kV doc pm:Value) (an:Option Addr) (cdv ct:Value) (us:List Value),us.length=ps.length->bindArgs (PySem.W.fnOf x x (iB st) (dW st) (aS st) .none kV doc pm an cdv ct) ⟨us,[]⟩=pure (ps.zip us))
  (t:(Str->Prop)->aK) (len:∀ Ep xs Q,p Ep xs Q->xs.length=ps.length) (rd:∀ Ep xs Q,p Ep xs Q->t Ep { nx:=fun _=>Q .non,rt:=Q } (fA N xs))
  (body:∀ (cdv:Value) (A:Around) (outer:List Env) (s:Shared) (H:Hp) (E:XK) (Ep:Str->Prop),bR k (A.deeper (envOfC x (aS st) s.heap.objs.size f cdv))->lV (cW (dJ P w) P w K mg base N x (aS st) f cdv A outer s H E) (EX K H Ep)->
   eD (cW (dJ P w) P w K mg base N x (aS st) f cdv A outer s H E) (dW st) (t Ep)):bY P w K mg base (k+1) x ps p:=by
 refine⟨f,fd,F.okX S (fun vs H Q E h=>?_) (fun cdv A outer s H vs Q E hr h=>?_),F.binds hb,F.kp,m⟩
 ·obtain ⟨xs,Qp,Ep,r,q,_⟩:=h
  rw [r.length]; exact len Ep xs Qp q
 ·obtain ⟨xs,Qp,Ep,r,q,k,ke⟩:=h
  have ht:=body cdv A outer s H E Ep hr (aC0 fun c d H' z=>?_)
  ·refine⟨_,ht,fun _=>False,fA N xs,_,vJ r,rd Ep xs Qp q,?_,?_,?_,?_⟩
   ·exact fun W' σ' H' ρ' e px q=>k _ _ _ px.same .non q
   ·exact fun v H' x s r q=>k _ _ _ s r q
   ·exact fun W' σ' H' ρ' e px q=>q
   ·exact fun W' σ' H' ρ' e px q=>q
  ·obtain ⟨rfl,s1,n,C,rfl,z1,z2⟩:=z
   exact ke n C H' s1 z1 z2
end PP
namespace Core
open PySem L2 PP
abbrev kG (t:(Str->Prop)->aK) (N:List Str) (p:dM):Prop:=∀ Ep xs Q,p Ep xs Q->t Ep { nx:=fun _=>Q .non,rt:=Q } (fA N xs)
def rJ:dM:=fun Ep xs Q=>∃ ws ls x ns,xs = [bH ws ls,x]/\cJ x ns/\ns.length<=1000/\(bC ws.length ns=true->Q (.tup (intz ns)))/\(bC ws.length ns=false->Ep "BadSet")
def U9 (Ep:Str->Prop):aK:=(aL (cI (gH (aV (aF qW (a7 (a5 0) (a7 (a5 1) aA))))) (lZ Ep "BadSet" (a7 (qC (.str "a set is of rising hearths of the web")) aA)) cX)
 (bK (aF k8 (a7 (a5 1) aA))))
theorem aL4:kG U9 ["web","hearths"] rJ:=by
 rintro Ep xs Q ⟨ws,ls,x,ns,rfl,hx,hl,q1,q2⟩
 refine⟨_,rfl,_,rfl,ws,ls,x,ns,rfl,hx,hl,_,rfl,?_⟩
 cases h:bC ws.length ns with
 | true=>exact b6 ⟨_,rfl,⟨_,_,rfl,hx.seqT,cZ _,trivial,q1 h⟩,hx.noscr⟩
 | false=>exact bI ⟨by decide,q2 h⟩
end Core
namespace PP
open PySem L2
theorem m7 {us:List Value} (h:us.length=1):∃ a,us = [a]:=List.length_eq_one_iff.mp h
theorem wW {us:List Value} (h:us.length=2):∃ a b,us = [a,b]:=by
 cases us with
 | nil=>cases h
 | cons a r=>
  obtain ⟨b,rfl⟩:=m7 (us:=r) (by simpa using h)
  exact⟨a,b,rfl⟩
theorem V0 {us:List Value} (h:us.length=3):∃ a b c,us = [a,b,c]:=by
 cases us with
 | nil=>cases h
 | cons a r=>
  obtain ⟨b,c,rfl⟩:=wW (us:=r) (by simpa using h)
  exact⟨a,b,c,rfl⟩
end PP
namespace Core
open PySem L2 PP
def NN (zs:List Int):Prop:=∀ z ∈ zs,(0:Int)<=z
theorem NN.app {zs:List Int}{z:Int} (h:NN zs) (hz:0<=z):NN (zs ++ [z]):=fun y hy=>by
 rcases bb3.mp hy with hy | hy
 ·exact h y hy
 ·rw [aZ4.mp hy]; exact hz
theorem NN.set {zs:List Int}{z:Int} (h:NN zs) (hz:0<=z) (j:Nat):NN (zs.set j z):=fun y hy=>by
 rcases List.mem_or_eq_of_mem_set hy with hy | rfl
 ·exact h y hy
 ·exact hz
def wX (i:Nat) (S:List Int):Prop:=S.Pairwise (· < ·)/\∀ x ∈ S,0<=x/\x < (i:Int)
theorem wX.set {i:Nat}{S:List Int} (h:wX i S):bC i S=true:=by
 unfold bC
 rw [vY h.1,Bool.true_and,bi2]
 intro b hb
 obtain ⟨x,hx,rfl⟩:=be0.mp hb
 have:=h.2 x hx
 unfold inB
 simp only [id,bf3,bc0]
 exact this
end Core
namespace PP
open PySem L2
section
variable {X : Cx} {a b e : Expr} {ta tb : aB} {tr : cH} {D : c8} {σ : St} {H : Hp} {pos p2 p3 p4 : Pos}
def rK (i:Nat) (ta tb:aB):aK:=fun D ρ=>∃ xs,ρ[i]? = some (some (.own (.lst xs)))/\ta ρ fun x _=>∃ k:Nat,x = .int k/\k<=xs.length/\xs.length < 16000000/\tb ρ fun y g=>Nw g y/\D.nx (ρ.set i (some (.own (.lst (xs.take k ++ y :: xs.drop k)))))
end
section
variable {X : Cx} {e : Expr} {tr : cH} {pos p2 : Pos}
def rL:List PV->(PV->Prop)->Prop:=fun xs Q=>∃ ys:List (List Int),xs = [.lst (ys.map fun r=>PV.tup (intz r))]/\ys.length<=4096/\(∀ y ∈ ys,y.length=2)/\∀ zs:List (List Int),zs.Perm ys->zs.Pairwise (fun u v=>HT.aQ v u=false)->Q (.lst (zs.map fun r=>PV.tup (intz r)))
theorem aL5:eV X rL (O1 X.K):=by
 rintro H vs xs Q Q' r ⟨ys,rfl,hl,hne,q⟩ k
 obtain ⟨v,rfl,r1⟩:=r.one
 obtain ⟨a,us,rfl,_,h,r2⟩:=r1.sqL
 obtain ⟨h1,h2⟩:=wE r2
 have lr:=r2.length
 rw [ba3] at lr
 refine⟨a,us,iU H,rfl,aG.of h,by omega,fun y hy=>?_,fun l zs hl' pm so=>?_⟩
 ·obtain ⟨b,rfl,hb⟩:=h2 y hy
  refine⟨b,rfl,aD.of hb,hne _ ?_⟩
  rw [<- h1]; exact be0.mpr ⟨_,hy,rfl⟩
 ·have hz:∀ u ∈ zs,∃ b,u = .ref b/\H b=some (.tup ((iU H u).map V.int)):=fun u hu=>h2 u (pm.mem_iff.mp hu)
  refine k _ _ _ (b7 hl' _) (.lst hl' b9 ((wF hz).same (b7 hl' _) fun _ z=>z)) (q _ ?_ ?_)
  ·rw [<- h1]; exact pm.map _
  ·rw [bj5]; exact so
theorem aL6 (B:Bt X.mg) (ha:QA X [e] tr) (hg:Gl X "sorted":=by rfl) (he:starEach [e] X.env=(false,eval e X.env) :: starEach [] X.env:=by rfl) (hpl:(backTo pos (starEach [] X.env)).any (·.1)=false:=by rfl):QE X (.Call (.Name "sorted" p2) [e] [] pos) (aF rL tr):=
 iL aB7 aL5 hg B.sorted PyProof.Rows.boot_sorted ha (he:=he) (hpl:=hpl)
end
end PP
namespace Core
open PySem L2 PP
structure WL (n:Int) (ws:List Int) (ls:List (Int × Int)):Prop where
 many:(ws.length:Int)=n
 inn:∀ l ∈ ls,0<=l.1/\l.1 < l.2/\l.2 < n
 most:ls.length<=1700
 ord:ls.Pairwise wC
 pos:∀ w ∈ ws,0<=w
theorem WL.perm {n:Int}{ws:List Int}{ls ls':List (Int × Int)} (h1:(ws.length:Int)=n) (h2:∀ l ∈ ls,0<=l.1/\l.1 < l.2/\l.2 < n) (h3:ls.length<=1700) (nd:ls.Nodup) (h4:∀ w ∈ ws,0<=w) (p:ls'.Perm ls) (so:(ls'.map two).Pairwise fun u v=>HT.aQ v u=false):WL n ws ls':=
 ⟨h1,fun l hl=>h2 l (p.mem_iff.mp hl),by rw [p.length_eq]; exact h3,aF7 so (p.nodup_iff.mpr nd),h4⟩
theorem WL.wb {n:Int}{ws:List Int}{ls:List (Int × Int)} (h:WL n ws ls) (hn:n<=40):Wb ws ls:=
 ⟨by have:=h.many; omega,h.most,fun l hl=>by have:=h.inn l hl; have:=h.many; omega⟩
def rM:dM:=fun Ep xs Q=>∃ ws ls x S,xs = [bH ws ls,x]/\Wb ws ls/\cJ x S/\S.length<=1000/\(bC ws.length S=true->Q (.bl (decide (stay ws ls S=S))))/\(bC ws.length S=false->Ep "BadSet")
def V1 (Ep:Str->Prop):aK:=(aL (aX 2 (jJ Ep rJ (a7 (a5 0) (a7 (a5 1) aA))))
 (bK (q2 (jC 2 false) (aF rC (a7 (a5 0) (a7 (aF oD (a7 (a5 0) aA)) (a7 (a5 2) aA)))) (a5 2))))
theorem aL7:kG V1 ["web","block","chosen"] rM:=by
 rintro Ep xs Q ⟨ws,ls,x,S,rfl,wb,hx,hl,q,qe⟩
 refine⟨_,rfl,_,rfl,ws,ls,x,S,rfl,hx,hl,fun hs=>⟨trivial,?_⟩,qe⟩
 have q:=q hs
 refine⟨_,rfl,_,rfl,ws,ls,rfl,wb,_,rfl,ws,ls,_,S,rfl,wb,.inl rfl,hs,_,rfl,.inl ⟨_,_,rfl,rfl⟩,pQ 2 _ _,trivial,?_⟩
 show Q (.bl (bZ 3 (.tup (intz (stay ws ls S))) (.tup (intz S))))
 rw [pP]; exact q
theorem aL8 (ws:List Int) (S:List Int):(cP ws.length S).length=cold ws S:=rfl
section
variable {ws : List Int} {ls : List (Int × Int)} {S : List Int}
def m8 (ws:List Int) (ls:List (Int × Int)) (S:List Int):List Int:=dB ws ls S S.length
theorem V2 (ws:List Int) (ls:List (Int × Int)) (S:List Int):∀ k,stay ws ls (dB ws ls S k)=dB ws ls S k ∨ (dB ws ls S k).length+k<=S.length
 | 0=>.inr (aZ3 _)
 | k+1=>by
  rcases V2 ws ls S k with h | h
  ·left
   show stay ws ls (stay ws ls (dB ws ls S k))=stay ws ls (dB ws ls S k)
   rw [h,h]
  ·by_cases e:stay ws ls (dB ws ls S k)=dB ws ls S k
   ·left
    show stay ws ls (stay ws ls (dB ws ls S k))=stay ws ls (dB ws ls S k)
    rw [e,e]
   ·right
    have:=aJ3 e
    show (stay ws ls (dB ws ls S k)).length+(k+1)<=S.length
    unfold stay at this ⊢
    omega
theorem aL9 (ws:List Int) (ls:List (Int × Int)) (S:List Int):stay ws ls (m8 ws ls S)=m8 ws ls S:=by
 rcases V2 ws ls S S.length with h | h
 ·exact h
 ·have e:dB ws ls S S.length = []:=bj4 (by omega)
  unfold m8; rw [e]; rfl
theorem V3 (ws:List Int) (ls:List (Int × Int)) (S:List Int):lX ws ls S (m8 ws ls S):=aJ6 (aL9 ws ls S)
theorem aM0 (hs:bC ws.length S=true):bC ws.length (m8 ws ls S)=true:=S8 hs _
end
theorem aM1 {A B:List Int}:∀ ns:List Int,(∀ y ∈ ns,y ∈ A ↔ y ∈ B)->gN ns A=gN ns B:=fun ns h=>by
 unfold gN
 rw [List.filter_congr fun x hx=>show decide (x ∈ A)=decide (x ∈ B) by rw [decide_eq_decide]; exact h x hx]
theorem aM2:∀ (g:Bool) {x:PV},flat x=true->Nw (Slot.sh g x).tag x
 | true,_,_=>trivial
 | false,_,h=>h
def aW (hs:List Int):List (List Int):=hs.foldl (fun acc h=>acc ++ acc.map fun p=>p ++ [h]) [[]]
theorem hG (hs:List Int) (h:Int):aW (hs ++ [h])=aW hs ++ (aW hs).map fun p=>p ++ [h]:=by
 unfold aW; rw [List.foldl_append]; rfl
theorem iW (n:Nat):rng (n+1)=rng n ++ [(n:Int)]:=by
 unfold rng; rw [List.range_succ,bc2]; rfl
theorem V4:∀ hs:List Int,∀ k,(aW (hs.take k)).length=2 ^ min k hs.length:=by
 intro hs k
 induction k with
 | zero=>simp [aW]
 | succ k ih=>
  by_cases h:k < hs.length
  ·have tk:hs.take (k+1)=hs.take k ++ [hs[k]]:=by rw [bd6,aZ0 h]; rfl
   rw [tk,hG,ba8,ba3,ih,show min (k+1) hs.length=min k hs.length+1 by omega,Nat.pow_succ]
   omega
  ·rw [bd9 (by omega),show min (k+1) hs.length=min k hs.length by omega,<- ih,bd9 (by omega)]
theorem kH (n:Nat):(aW (rng n)).length=2 ^ n:=by
 have:=V4 (rng n) n
 rw [bd9 (by rw [fJ]; exact aZ3 _),fJ,Nat.min_self] at this
 exact this
theorem m9 (n:Nat):∀ (p:Nat) (S:List Int),(aW (rng n))[p]? = some S->(∀ x ∈ S,0<=x/\x < (n:Int))/\(p=0 ↔ S = [])/\∀ h ∈ S,2 ^ h.toNat<=p/\(aW (rng n))[p - 2 ^ h.toNat]? = some (S.filter fun z=>!decide (z=h)):=by
 induction n with
 | zero=>
  intro p S e
  have e0:aW (rng 0) = [[]]:=rfl
  rw [e0] at e
  cases p with
  | zero=>cases e; exact⟨(fun _ h=>by cases h),⟨fun _=>rfl,fun _=>rfl⟩,(fun _ h=>by cases h)⟩
  | succ p=>cases e
 | succ n ih=>
  intro p S e
  rw [iW,hG] at e
  have ln:=kH n
  rcases bd1 p (2 ^ n) with hp | hp
  ·rw [bd2 (by omega)] at e
   obtain ⟨h1,h2,h3⟩:=ih p S e
   refine⟨fun x hx=>by have:=h1 x hx; omega,h2,fun h hh=>⟨(h3 h hh).1,?_⟩⟩
   rw [iW,hG,bd2 (by rw [ln]; exact Nat.lt_of_le_of_lt (Nat.sub_le _ _) hp)]
   exact (h3 h hh).2
  ·rw [be2 (by omega),ln,ba1] at e
   cases e2:(aW (rng n))[p - 2 ^ n]? with
   | none=>rw [e2] at e; cases e
   | some T=>
    rw [e2] at e
    have e:T ++ [(n:Int)]=S:=bc1 e
    subst e
    obtain ⟨h1,h2,h3⟩:=ih _ T e2
    have nT:(n:Int) ∉ T:=fun z=>by have:=h1 _ z; omega
    have p0:0 < 2 ^ n:=Nat.pow_pos (by decide)
    refine⟨fun x hx=>?_,⟨fun z=>absurd z (by omega),fun z=>by simp at z⟩,fun h hh=>?_⟩
    ·rcases bb3.mp hx with z | z
     ·have:=h1 x z; omega
     ·rw [aZ4.mp z]; omega
    ·rcases bb3.mp hh with z | z
     ·have hb:=h1 h z
      obtain ⟨a1,a2⟩:=h3 h z
      refine⟨by omega,?_⟩
      rw [iW,hG,be2 (by omega),ln,ba1,show p - 2 ^ h.toNat - 2 ^ n=p - 2 ^ n - 2 ^ h.toNat by omega,a2,List.filter_append]
      have:([(n:Int)]:List Int).filter (fun z=>!decide (z=h)) = [(n:Int)]:=by
       rw [bg1,aZ8 (by omega : ¬ (n:Int)=h)]; rfl
      rw [this]; rfl
     ·have hn:h=(n:Int):=aZ4.mp z
      subst hn
      rw [show ((n:Int)).toNat=n from rfl]
      refine⟨hp,?_⟩
      have lt:p - 2 ^ n < 2 ^ n:=by
       have:=(aZ9.mp e2).1
       omega
      rw [iW,hG,bd2 (by omega),e2,List.filter_append]
      have a1:T.filter (fun z=>!decide (z=(n:Int)))=T:=List.filter_eq_self.mpr fun x hx=>by
       rw [aZ8 (fun z:x=(n:Int)=>nT (by rw [<- z]; exact hx))]; rfl
      have a2:([(n:Int)]:List Int).filter (fun z=>!decide (z=(n:Int))) = []:=by
       rw [bg1,ba2 rfl]; rfl
      rw [a1,a2,bd0]
theorem mB (n:Nat):∀ S:List Int,S ∈ aW (rng n) ↔ S.Sublist (rng n):=by
 induction n with
 | zero=>
  intro S
  show S ∈ [[]] ↔ S.Sublist []
  rw [aZ4,List.sublist_nil]
 | succ n ih=>
  intro S
  rw [iW,hG,bb3]
  refine⟨fun h=>?_,fun h=>?_⟩
  ·rcases h with h | h
   ·exact ((ih S).mp h).trans (List.sublist_append_left _ _)
   ·obtain ⟨T,hT,rfl⟩:=be0.mp h
    exact ((ih T).mp hT).append (List.Sublist.refl _)
  ·obtain ⟨p1,p2,rfl,s1,s2⟩:=List.sublist_append_iff.mp h
   cases s2 with
   | cons _ s3=>rw [List.sublist_nil.mp s3,bd0]; exact .inl ((ih p1).mpr s1)
   | cons_cons _ s3=>rw [List.sublist_nil.mp s3]; exact .inr (be0.mpr ⟨p1,(ih p1).mpr s1,rfl⟩)
theorem oN {n:Nat}{S:List Int}:S.Sublist (rng n) ↔ bC n S=true:=by
 refine⟨fun h=>?_,fun h=>?_⟩
 ·have up:(rng n).Pairwise (· < ·):=by
   unfold rng
   rw [bj5]
   exact bm8.imp fun h=>by omega
  have u:oJ (n:Int) S:=⟨up.sublist h,fun x hx=>fK.mp (h.subset hx),by have:=h.length_le; rw [fJ] at this; omega⟩
  exact u.set
 ·have e:S=(rng n).filter fun x=>decide (x ∈ S):=by
   refine T4 h ?_ fun x=>?_
   ·exact S6 (show bC n (rng n)=true by have:=wP n []; unfold cP at this; rwa [List.filter_eq_self.mpr fun x _=>by simp] at this) _
   ·rw [bc5,bc0]
    exact⟨fun z=>⟨fK.mpr ((dL h).2 x z),z⟩,fun z=>z.2⟩
  rw [e]; exact List.filter_sublist
section
variable {ws : List Int} {ls : List (Int × Int)}
def HC (ws:List Int) (ls:List (Int × Int)) (S:List Int):Prop:=∃ U,stay ws ls U=U/\U ≠ []/\∀ x ∈ U,x ∈ S
theorem aM3 {U S:List Int} (hU:stay ws ls U=U) (h:∀ x,x ∈ S ↔ x ∈ U):stay ws ls S=S:=by
 refine List.filter_eq_self.mpr fun y hy=>?_
 have:=List.filter_eq_self.mp hU y ((h y).mp hy)
 unfold fO at this ⊢
 rw [aM1 (bJ ls y) fun z _=>h z]
 exact this
theorem aM4 (S:List Int):HC ws ls S ↔ (S ≠ []/\stay ws ls S=S) ∨ ∃ h ∈ S,HC ws ls (S.filter fun z=>!decide (z=h)):=by
 refine⟨fun ⟨U,hU,nU,sub⟩=>?_,fun h=>?_⟩
 ·by_cases all:∀ x ∈ S,x ∈ U
  ·refine .inl ⟨fun z=>?_,aM3 hU fun x=>⟨all x,sub x⟩⟩
   cases hu:U with
   | nil=>exact nU hu
   | cons u r=>
    have:=sub u (by rw [hu]; exact bb1)
    rw [z] at this; cases this
  ·obtain ⟨h,hh⟩:=Classical.not_forall.mp all
   have hS:h ∈ S:=Classical.byContradiction fun z=>hh fun y=>absurd y z
   have hU2:h ∉ U:=fun z=>hh fun _=>z
   refine .inr ⟨h,hS,U,hU,nU,fun x hx=>bc5.mpr ⟨sub x hx,?_⟩⟩
   rw [aZ8 (fun z:x=h=>hU2 (by rw [<- z]; exact hx))]; rfl
 ·rcases h with h | ⟨h,hh,U,hU,nU,sub⟩
  ·exact⟨S,h.2,h.1,fun _ z=>z⟩
  ·exact⟨U,hU,nU,fun x hx=>(bc5.mp (sub x hx)).1⟩
end
def rN:bD:=fun xs Q=>∃ x hs,xs = [x]/\cJ x hs/\hs.length<=12/\Q (.lst (tups (aW hs)))
def V5:aK:=(aL (aX 1 (eU (a7 (fU aA) aA)))
 (aL (eZ (dH (a5 0)) (bS 2)
  (aX 1 (r9 (a5 1) (dA (dH (a5 1)) [none,some 2] (bS 0) dZ (wO (a5 0) (fU (a7 (a5 1) aA)))))))
 (j8 1)))
theorem aM5:cO V5 ["hearths","chosen","hearth"] rN:=by
 rintro xs Q ⟨x,S,rfl,hx,hl,q⟩
 refine⟨by decide,rfl,by show 1<=1000; decide,rfl,trivial,?_⟩
 refine⟨_,rfl,_,hx.seq,jH hx,fun i ρ=>∃ (y:Option Slot),ρ = [some (.sh (flat x) x),some (.sh true (.lst (tups (aW (S.take i))))),y],⟨none,rfl⟩,?_,?_⟩
 ·rintro i y ρ hy ⟨y0,rfl⟩
  obtain ⟨h,rfl,hi⟩:=gL hy
  have il:i < S.length:=(aZ9.mp hi).1
  have sl:=V4 S i
  have p8:(aW (S.take i)).length<=4096:=by
   rw [sl]
   exact bd4 (bm2 (by decide) (show min i S.length<=12 by omega)) (by decide)
  have shr:∀ p ∈ aW (S.take i),p.length<=12:=by
   have gen:∀ hs:List Int,∀ p ∈ aW hs,p.length<=hs.length:=by
    intro hs
    have:∀ (n:Nat) (hs:List Int),hs.length=n->∀ p ∈ aW hs,p.length<=hs.length:=by
     intro n
     induction n with
     | zero=>intro hs e p hp; rw [bj4 e] at hp ⊢; rw [aZ4.mp (show p ∈ [[]] from hp)]; exact aZ3 _
     | succ n ih=>
      intro hs e p hp
      rcases List.eq_nil_or_concat hs with z | ⟨l,a,z⟩
      ·rw [z] at e; cases e
      ·have z:hs=l ++ [a]:=by rw [z]; simp
       subst z
       have le:l.length=n:=by simpa using e
       rw [hG] at hp
       rw [ba8,bg6]
       rcases bb3.mp hp with z | z
       ·have:=ih l le p z; omega
       ·obtain ⟨r,hr,rfl⟩:=be0.mp z
        have:=ih l le r hr
        rw [ba8,bg6]; omega
    exact this hs.length hs rfl
   intro p hp
   have:=gen _ p hp
   rw [bh3] at this
   omega
  have tk:S.take (i+1)=S.take i ++ [h]:=by rw [bd6,hi]; rfl
  refine gZ ?_
  refine⟨_,rfl,_,rfl,_,rfl,(fun z=>by cases z),by rw [eI]; omega,fun j acc=>acc=tups (((aW (S.take i)).take j).map fun p=>p ++ [h]),rfl,?_,?_⟩
  ·rintro j z acc hz rfl
   obtain ⟨p,rfl,hj⟩:=oE hz
   refine⟨_,rfl,_,rfl,by show 1<=1000; decide,rfl,_,_,rfl,rfl,cZ _,rfl,?_,trivial,?_⟩
   ·have:=shr p (bb4 hj)
    rw [aZ]
    show p.length+1<=16000000
    omega
   ·show tups _ ++ [PV.tup (intz p ++ intz [h])]=tups (((aW (S.take i)).take (j+1)).map fun p=>p ++ [h])
    rw [bd6,hj,<- gM]
    unfold tups
    rw [bc2,bc2]
    rfl
  ·rintro acc rfl
   rw [eI,bc6]
   refine⟨_,_,rfl,rfl,oF _,oF _,?_,trivial,some (.sh true (.int h)),?_⟩
   ·rw [eI,eI,ba3]; omega
   ·rw [tk,hG]
    unfold tups
    rw [bc2]; rfl
 ·rintro ρ ⟨y,rfl⟩
  rw [aZ,bc6]
  exact⟨_,rfl,trivial,q⟩
abbrev fC (bs:List Bool):List PV:=bs.map PV.bl
def mC (bs:List Bool) (p:Nat) (S:List Int):Bool:=S.any fun h=>bs.getD (p - 2 ^ h.toNat) false
def rO:bD:=fun xs Q=>∃ (bs:List Bool) (p:Nat) (S:List Int),xs = [.lst (fC bs),.int p,.tup (intz S)]/\S.length<=1000/\(∀ h ∈ S,0<=h/\h<=12/\2 ^ h.toNat<=p/\p - 2 ^ h.toNat < bs.length)/\Q (.bl (mC bs p S))
def V6:aK:=(bK (aF rE (a7 (dA (dH (a5 2)) [none,some 0,some 1] (bS 0) dZ (bG (a5 1) (k7 (a5 2) (aw5 (qC (.int 1)) (a5 0))))) aA)))
theorem aM6:cO V6 ["holds","place","some"] rO:=by
 rintro xs Q ⟨bs,p,S,rfl,hl,hb,q⟩
 refine⟨_,rfl,_,rfl,(fun _=>qU S),by rw [aZ]; omega,fun i acc=>acc=fC ((S.take i).map fun h=>bs.getD (p - 2 ^ h.toNat) false),rfl,?_,?_⟩
 ·rintro i z acc hz rfl
  obtain ⟨h,rfl,hh⟩:=gL hz
  obtain ⟨b1,b2,b3,b4⟩:=hb h (bb4 hh)
  have ix:L2.atI (fC bs) ((p:Int) - 1 * 2 ^ h.toNat)=some (.bl (bs.getD (p - 2 ^ h.toNat) false)):=by
   have e:((p:Int) - 1 * 2 ^ h.toNat)=((p - 2 ^ h.toNat:Nat):Int):=by
    rw [Int.ofNat_sub b3]; simp
   rw [e]
   exact iZ (by rw [ba1,aZ7,aZ0 b4]; rfl)
  refine⟨_,rfl,_,rfl,_,rfl,_,_,rfl,rfl,⟨b1,by omega,by decide⟩,_,_,rfl,rfl,_,_,_,rfl,rfl,ix,rfl,?_⟩
  dsimp only
  rw [bd6,hh,bc2]
  show _=List.map PV.bl (_ ++ _)
  rw [bc2]; rfl
 ·rintro acc rfl
  rw [aZ,bc6]
  refine⟨_,rfl,trivial,?_⟩
  have e:(S.map fun h=>bs.getD (p - 2 ^ h.toNat) false).any id=mC bs p S:=by
   unfold mC; rw [List.any_map]; rfl
  rw [e]; exact q
def rP:dM:=fun Ep xs Q=>∃ ws ls,xs = [bH ws ls]/\ws.length<=40/\(ws.length<=12->Q (.lst (tups (aW (rng ws.length)))))/\(12 < ws.length->Ep "TooMany")
def V7 (Ep:Str->Prop):aK:=(aL (cI (aV (lK (aF iR (a7 (a5 0) aA)) (qC (.int 12)))) (lZ Ep "TooMany" (a7 (qC (.str "webs of at most 12 hearths are searched through")) aA)) cX)
 (bK (aF rN (a7 (P7 (aF iR (a7 (a5 0) aA))) aA))))
theorem aM7:kG V7 ["web"] rP:=by
 rintro Ep xs Q ⟨ws,ls,rfl,few,q,qe⟩
 refine⟨_,rfl,ws,ls,rfl,_,_,rfl,rfl,_,rfl,?_⟩
 by_cases h:(12:Int) < (ws.length:Int)
 ·dsimp only
  rw [ba2 h]
  exact bI ⟨by decide,qe (by omega)⟩
 ·dsimp only
  rw [aZ8 h]
  refine b6 ⟨_,rfl,ws,ls,rfl,_,rfl,by omega,by omega,?_⟩
  rw [aF5]
  exact⟨_,rng ws.length,rfl,.inr rfl,by rw [fJ]; omega,trivial,q (by omega)⟩
def rQ:dM:=fun Ep xs Q=>∃ ws ls,xs = [bH ws ls,.lst (tups (aW (rng ws.length)))]/\Wb ws ls/\ws.length<=12/\∀ bs:List Bool,bs.length=2 ^ ws.length->(∀ p S,(aW (rng ws.length))[p]? = some S->(bs.getD p false=true ↔ HC ws ls S))->Q (.lst (fC bs))
def V8 (Ep:Str->Prop):aK:=(aL (gU 2 (eU (a7 (qC (.bl false)) aA)))
 (aL (eZ (pL (qC (.int 1)) (aF cM (a7 (a5 1) aA))) (bS 3)
  (j9 2 (uH (aF rO (a7 (a5 2) (a7 (a5 3) (a7 (bG (a5 1) (a5 3)) aA)))) (jJ Ep rM (a7 (a5 0) (a7 (bG (a5 1) (a5 3)) aA))))))
 (j8 2)))
theorem aM8 {ws:List Int}{ls:List (Int × Int)}{bs:List Bool}{p:Nat}{S:List Int} (at_:(aW (rng ws.length))[p]? = some S) (hb:∀ q S,q < p->(aW (rng ws.length))[q]? = some S->(bs.getD q false=true ↔ HC ws ls S)) :
  mC bs p S=true ↔ ∃ h ∈ S,HC ws ls (S.filter fun z=>!decide (z=h)):=by
 obtain ⟨h1,h2,h3⟩:=m9 _ p S at_
 unfold mC
 rw [List.any_eq_true]
 refine⟨fun ⟨h,hh,e⟩=>⟨h,hh,?_⟩,fun ⟨h,hh,e⟩=>⟨h,hh,?_⟩⟩
 ·have:=Nat.pow_pos (n:=h.toNat) (show 0 < 2 by decide)
  exact (hb _ _ (by have:=(h3 h hh).1; omega) (h3 h hh).2).mp e
 ·have:=Nat.pow_pos (n:=h.toNat) (show 0 < 2 by decide)
  exact (hb _ _ (by have:=(h3 h hh).1; omega) (h3 h hh).2).mpr e
theorem aM9 {n:Nat}{bs:List Bool}{p:Nat}{S:List Int} (hn:n<=12) (at_:(aW (rng n))[p]? = some S) (hb:p<=bs.length):S.length<=1000/\∀ h ∈ S,0<=h/\h<=12/\2 ^ h.toNat<=p/\p - 2 ^ h.toNat < bs.length:=by
 obtain ⟨h1,h2,h3⟩:=m9 _ p S at_
 have sl:=((mB n S).mp (bb4 at_)).length_le
 rw [fJ] at sl
 refine⟨by omega,fun h hh=>?_⟩
 have:=Nat.pow_pos (n:=h.toNat) (show 0 < 2 by decide)
 have a:=(h3 h hh).1
 have b:=h1 h hh
 exact⟨b.1,by omega,a,by omega⟩
theorem aN0:kG V8 ["web","chosen","holds","place"] rQ:=by
 rintro Ep xs Q ⟨ws,ls,rfl,wb,few,q⟩
 have ln:=kH ws.length
 have l0:0 < 2 ^ ws.length:=Nat.pow_pos (by decide)
 have l12:2 ^ ws.length<=4096:=bd4 (bm2 (by decide) few) (by decide)
 generalize hC:aW (rng ws.length)=C at ln q
 have cat:∀ {p:Nat}{S:List Int},C[p]? = some S->(aW (rng ws.length))[p]? = some S:=fun {p S} e=>by rw [hC]; exact e
 have tac:∀ {p:Nat}{S:List Int},(aW (rng ws.length))[p]? = some S->C[p]? = some S:=fun {p S} e=>by rw [<- hC]; exact e
 refine⟨by decide,rfl,rfl,rfl,?_⟩
 refine⟨_,rfl,_,_,rfl,rfl,1,(C.length:Int),rfl,by rw [eI],⟨by omega,by omega,by omega,by omega⟩,fun i ρ=>∃ (bs:List Bool) (y:Option Slot),ρ = [some (.sh (flat (bH ws ls)) (bH ws ls)),some (.sh (flat (.lst (tups C))) (.lst (tups C))),some (.own (.lst (fC bs))),y]/\bs.length=i+1/\∀ p S,p < i+1->C[p]? = some S->(bs.getD p false=true ↔ HC ws ls S),⟨[false],none,rfl,rfl,fun p S hp hS=>?_⟩,?_,?_⟩
 ·have e:p=0:=by omega
  subst e
  obtain ⟨_,h2,_⟩:=m9 _ 0 S (cat hS)
  rw [h2.mp rfl]
  refine⟨fun z=>(by cases z),fun ⟨U,_,nU,sub⟩=>?_⟩
  cases hu:U with
  | nil=>exact absurd hu nU
  | cons u r=>
   have:=sub u (by rw [hu]; exact bb1)
   cases this
 ·rintro i y ρ hy ⟨bs,y0,rfl,bl,hb⟩
  obtain ⟨rfl,hi⟩:=iQ hy
  have hp:i+1 < C.length:=by omega
  obtain ⟨S,hS⟩:∃ S,C[i+1]? = some S:=⟨C[i+1],aZ0 hp⟩
  have ix:L2.atI (tups C) (1+(i:Int))=some (.tup (intz S)):=by
   have:=iZ (xs:=tups C) (j:=i+1) (by unfold tups; rw [ba1,hS]; rfl)
   rwa [show (((i+1:Nat)):Int)=1+(i:Int) by omega] at this
  obtain ⟨k1,k2⟩:=aM9 (bs:=bs) few (cat hS) (by omega)
  have sub:=(mB _ S).mp (bb4 (cat hS))
  have sS:=oN.mp sub
  have ne:S ≠ []:=fun z=>by have:=(m9 _ _ S (cat hS)).2.1.mpr z; omega
  have hi2:=aM8 (bs:=bs) (cat hS) fun p S hp e=>hb p S hp (tac e)
  have st:=aM4 (ws:=ws) (ls:=ls) S
  refine gZ ?_
  have fin:∀ v:Bool,(v=true ↔ HC ws ls S)->∃ (bs':List Bool) (y:Option Slot),[some (.sh (flat (bH ws ls)) (bH ws ls)),some (.sh (flat (.lst (tups C))) (.lst (tups C))),some (.own (.lst (fC bs ++ [.bl v]))),si (1+(i:Int))] = [some (.sh (flat (bH ws ls)) (bH ws ls)),some (.sh (flat (.lst (tups C))) (.lst (tups C))),some (.own (.lst (fC bs'))),y]/\bs'.length=i+1+1/\∀ p S,p < i+1+1->C[p]? = some S->(bs'.getD p false=true ↔ HC ws ls S):=fun v hv=>by
   refine⟨bs ++ [v],si (1+(i:Int)),by rw [show fC (bs ++ [v])=fC bs ++ [.bl v] from bc2],by rw [ba8,bl]; rfl,fun p T hp hT=>?_⟩
   rcases bd1 p (i+1) with z | z
   ·rw [aZ7,bd2 (by omega),<- aZ7]
    exact hb p T z hT
   ·have e:p=i+1:=by omega
    subst e
    rw [hS] at hT
    cases hT
    rw [aZ7,be2 (by omega),bl,Nat.sub_self]
    exact hv
  refine⟨_,rfl,_,rfl,_,rfl,_,rfl,_,rfl,_,_,_,rfl,rfl,ix,bs,i+1,S,?_,k1,k2,_,rfl,?_⟩
  ·show [PV.lst (fC bs),PV.int (1+(i:Int)),PV.tup (intz S)] = [PV.lst (fC bs),PV.int (((i+1:Nat)):Int),PV.tup (intz S)]
   rw [show (((i+1:Nat)):Int)=1+(i:Int) by omega]
  have bl2:(fC bs).length < 16000000:=by show (List.map PV.bl bs).length < _; rw [ba3]; omega
  cases hw:mC bs (i+1) S with
  | true=>exact bI ⟨trivial,bl2,fin true ⟨fun _=>st.mpr (.inr (hi2.mp hw)),fun _=>rfl⟩⟩
  | false=>
   refine b6 ⟨_,rfl,_,rfl,_,rfl,_,_,_,rfl,rfl,ix,ws,ls,_,S,rfl,wb,.inl rfl,k1,fun _=>⟨trivial,bl2,fin _ ?_⟩,fun z=>by rw [sS] at z; cases z⟩
   rw [bc0]
   refine⟨fun z=>st.mpr (.inl ⟨ne,z⟩),fun z=>?_⟩
   rcases st.mp z with z | z
   ·exact z.2
   ·rw [hi2.mpr z] at hw; cases hw
 ·rintro ρ ⟨bs,y,rfl,bl,hb⟩
  rw [eC] at bl hb
  refine⟨_,rfl,trivial,q bs (by omega) fun p S hS=>hb p S ?_ hS⟩
  have:=(aZ9.mp hS).1
  omega
theorem V9 (n:Nat) (a:Int):(List.replicate n [PV.int a]).flatten=intz (List.replicate n a):=by
 induction n with
 | zero=>rfl
 | succ n ih=>rw [bi3,bi3,bm3,ih]; rfl
section
variable {ws : List Int} {ls : List (Int × Int)}
def cne (ws:List Int) (ls:List (Int × Int)) (S:List Int):Bool:=!decide (S = []) && decide (stay ws ls S=S)
end
theorem wY {b:Bool}{A B:Prop} (a:A) (c:B):if b=true then A else B:=by
 cases b with
 | true=>exact bI a
 | false=>exact b6 c
theorem aN1 {ws:List Int}{ls:List (Int × Int)}{S:List Int}{k:Nat} (hS:bC ws.length S=true):decide (((aY ws ls S k).length:Int)=(ws.length:Int))=decide (cP ws.length (aY ws ls S k) = []):=by
 have len:(aY ws ls S k).length+(cP ws.length (aY ws ls S k)).length<=ws.length:=by
  have h1:=w5 ws ls S k
  have h2:=O5 (iP (dL hS).1) (dL hS).2
  rw [aL8]; omega
 rw [bg9,bc0,bc0]
 refine⟨fun z=>bj4 (by omega),fun z=>?_⟩
 have all:∀ x ∈ rng ws.length,x ∈ aY ws ls S k:=fun x hx=>Decidable.byContradiction fun y=>by
  have:=fW.mpr ⟨hx,y⟩
  rw [z] at this; cases this
 have:=(wH ws.length).length_le_of_subset all
 rw [fJ] at this
 omega
end Core
namespace PP
open PySem L2
section
variable {X : Cx} {σ : St} {H : Hp} {D : c8} {te : aB} {e : Expr} {pos : Pos}
def aN2 (i:Nat) (tk:aB):aK:=fun D ρ=>∃ xs,ρ[i]? = some (some (.own (.lst xs)))/\tk ρ fun n _=>∃ m:Nat,n = .int m/\xs.length<=16000000/\m < xs.length/\D.nx (ρ.set i (some (.own (.lst (xs.eraseIdx m)))))
end
end PP
namespace Core
open PySem L2 PP
def W0 (ws:List Int) (ls:List (Int × Int)):List Int->List Int->Bool
 | _,[]=>true
 | B,h :: R=>inB ws.length h && (kin ws ls B h && W0 ws ls (B ++ [h]) R)
def sp6:aK:=(cI (aV (lK (a5 7) (qC (.int 5)))) (rK 4 (a5 6) (bG (eU (a7 (nO (qC (.int 1))) (a7 (a5 2) (a7 (k7 (nO (qC (.int 1))) (a5 5)) (a7 (cL (a5 2) (a5 5)) aA))))) (bW (fG (a5 3) (qC (.int 97))) (qC (.int 4))))) cX)
def sp5:aK:=(cI (j5 (aV (gI (a5 7) (qC (.int 5)))) (aV (lK (a5 2) (qC (.int 0))))) (rK 4 (a5 6) (bW (fG (a5 3) (qC (.int 97))) (a5 2))) sp6)
def sp4:aK:=(cI (j5 (aV (gI (a5 7) (qC (.int 4)))) (aV (lK (aF cM (a7 (a5 1) aA)) (qC (.int 0))))) (rK 4 (a5 6) (bG (a5 1) (bW (fG (a5 3) (qC (.int 97))) (aF cM (a7 (a5 1) aA))))) sp5)
def sp3:aK:=(cI (j5 (aV (gI (a5 7) (qC (.int 3)))) (aV (lK (aF cM (a7 (a5 4) aA)) (qC (.int 0))))) (rK 4 (a5 6) (bG (a5 4) (bW (fG (a5 3) (qC (.int 97))) (aF cM (a7 (a5 4) aA))))) sp4)
def wZ:aK:=(cI (j5 (aV (gI (a5 7) (qC (.int 2)))) (aV (lK (aF cM (a7 (a5 4) aA)) (qC (.int 0))))) (aN2 4 (bW (a5 6) (aF cM (a7 (a5 4) aA)))) sp3)
end Core
namespace Raw
open PySem PySem.W PySem.Calls PyProof.Rows
theorem x3 {xs:List Nat} (a:xs.Pairwise (· < ·)) {i k:Nat} (hk:k < xs.length) (h:i<=k):xs.getD i 0<=xs.getD k 0:=by
 rcases bd1 i k with z | z
 ·have:=bd3.mp a i k (by omega) hk z
  rw [aZ7,aZ7,aZ0 (by omega),aZ0 hk]
  exact bi9 this
 ·rw [Nat.le_antisymm h z]; exact aZ3 _
theorem aN3 {xs:Array Nat}{i j:Nat} (h:i < xs.size):xs.getD i j=xs.toList.getD i 0:=by
 rw [aZ7,bi5,Array.getD_eq_getD_getElem?,Array.getElem?_eq_getElem h]; rfl
theorem x4 {xs:Array Nat}{j:Nat} (a:xs.toList.Pairwise (· < ·)):∀ (fuel lo hi:Nat),lo<=hi->hi<=xs.size->hi - lo<=fuel->(∀ i,i < lo->xs.toList.getD i 0 < j)->(∀ i,hi<=i->i < xs.size->j<=xs.toList.getD i 0)->
  SetTable.below.go xs j fuel lo hi<=xs.size/\(∀ i,i < SetTable.below.go xs j fuel lo hi->xs.toList.getD i 0 < j)/\∀ i,SetTable.below.go xs j fuel lo hi<=i->i < xs.size->j<=xs.toList.getD i 0
 | 0,lo,hi,h1,h2,h3,h4,h5=>by
  have e:lo=hi:=by omega
  subst e
  exact⟨h2,h4,h5⟩
 | fuel+1,lo,hi,h1,h2,h3,h4,h5=>by
  have sz:xs.toList.length=xs.size:=bg7
  unfold SetTable.below.go
  by_cases lt:lo < hi
  ·rw [if_pos lt]
   dsimp only
   have m1:lo<=(lo+hi) / 2:=by omega
   have m2:(lo+hi) / 2 < hi:=by omega
   rw [aN3 (by omega)]
   by_cases c:xs.toList.getD ((lo+hi) / 2) 0 < j
   ·rw [if_pos c]
    exact x4 a fuel _ _ (by omega) h2 (by omega) (fun i hi'=>Nat.lt_of_le_of_lt (x3 a (by omega) (by omega)) c) h5
   ·rw [if_neg c]
    exact x4 a fuel _ _ (by omega) (by omega) (by omega) h4 fun i h6 h7=>bd4 (Nat.le_of_not_lt c) (x3 a (by omega) h6)
  ·rw [if_neg lt]
   have e:lo=hi:=by omega
   subst e
   exact⟨h2,h4,h5⟩
theorem aN4 {xs:Array Nat}{j:Nat} (a:xs.toList.Pairwise (· < ·)):SetTable.below xs j<=xs.size/\(∀ i,i < SetTable.below xs j->xs.toList.getD i 0 < j)/\∀ i,SetTable.below xs j<=i->i < xs.size->j<=xs.toList.getD i 0:=
 x4 a xs.size 0 xs.size (be8 _) (aZ3 _) (by omega) (fun i h=>absurd h (Nat.not_lt_zero _)) fun i h1 h2=>absurd h2 (by omega)
theorem aN5 {α:Type} (xs:Array α) (p:Nat) (x:α):(SetTable.insertAt xs p x).toList=xs.toList.take p ++ x :: xs.toList.drop p:=by
 unfold SetTable.insertAt
 simp
 exact bd9 (by simp)
theorem aN6 {xs:Array Nat}{j:Nat} (a:xs.toList.Pairwise (· < ·)) (ne:xs[SetTable.below xs j]? ≠ some j):(SetTable.insertAt xs (SetTable.below xs j) j).toList.Pairwise (· < ·):=by
 obtain ⟨b1,b2,b3⟩:=aN4 (j:=j) a
 have sz:xs.toList.length=xs.size:=bg7
 rw [aN5]
 refine bf1.mpr ⟨a.sublist (List.take_sublist _ _),List.pairwise_cons.mpr ⟨fun x hx=>?_,a.sublist (List.drop_sublist _ _)⟩,fun x hx y hy=>?_⟩
 ·obtain ⟨i,hi,e⟩:=bj3 hx
  rw [bf8] at hi
  rw [List.getElem_drop] at e
  have h1:=b3 (SetTable.below xs j) (aZ3 _) (by omega)
  have h2:=x3 a (i:=SetTable.below xs j) (k:=SetTable.below xs j+i) (by omega) (by omega)
  have h3:xs.toList.getD (SetTable.below xs j+i) 0=x:=by rw [aZ7,aZ0 (by omega),e]; rfl
  rcases bd1 j x with z | z
  ·exact z
  ·exfalso
   have h4:xs.toList.getD (SetTable.below xs j) 0=j:=by omega
   rw [aZ7,aZ0 (by omega)] at h4
   refine ne ?_
   rw [<- bi5,aZ0 (by omega)]
   exact congrArg some h4
 ·have hx':x < j:=by
   obtain ⟨i,hi,e⟩:=bj3 hx
   rw [bh3] at hi
   rw [List.getElem_take] at e
   have:=b2 i (by omega)
   rw [aZ7,aZ0 (by omega),e] at this
   exact this
  rcases aZ6.mp hy with e | hy
  ·rw [e]; exact hx'
  ·obtain ⟨i,hi,e⟩:=bj3 hy
   rw [bf8] at hi
   rw [List.getElem_drop] at e
   have:=b3 (SetTable.below xs j+i) (by omega) (by omega)
   rw [aZ7,aZ0 (by omega),e] at this
   exact ba5 hx' this
structure gO (b:Bool) (t:SetTable):Prop where
 asc:t.place.toList.Pairwise (· < ·)
 dm:t.dummies = #[]
 led:t.led=b
theorem W5 (j:Nat):SetTable.has #[] j=false:=by
 unfold SetTable.has
 simp
theorem W6 {t:SetTable} (dm:t.dummies = #[]) {h:Int}{j:Nat}{d:Option Nat}:∀ (fuel:Nat) (p:SetTable.Probe),p.dummy=none->SetTable.probe.go t (fun _=>h+1) h fuel p=some (.empty j d)->d=none/\t.slot j = .empty
 | 0,p,_,e=>by cases e
 | fuel+1,p,hp,e=>by
  unfold SetTable.probe.go at e
  have adv:∀ p:SetTable.Probe,p.dummy=none->(t.advance p).dummy=none:=fun p hp=>by
   unfold SetTable.advance
   split <;> exact hp
  cases hs:t.slot p.j with
  | empty=>
   rw [hs] at e
   cases e
   exact⟨hp,hs⟩
  | dummy=>
   exfalso
   unfold SetTable.slot at hs
   dsimp only at hs
   rw [dm,W5] at hs
   split at hs <;> cases hs
  | live i=>
   rw [hs] at e
   dsimp only at e
   rw [if_neg (by simp; omega)] at e
   exact W6 dm fuel _ (adv p hp) e
theorem aN7 {t:SetTable} (dm:t.dummies = #[]) {h:Int}{sl:Nat}{d:Bool} (e:t.freeSlot h=some (sl,d)):t.slot sl = .empty:=by
 unfold SetTable.freeSlot at e
 split at e
 ·rename_i j dummy hm
  obtain ⟨e1,e2⟩:=W6 dm _ _ rfl hm
  subst e1
  cases e
  exact e2
 ·cases e
theorem rR {b:Bool}{t:SetTable} (h:gO b t) (n:Nat):gO b (t.standIn n):=⟨by
 show (Array.range n).toList.Pairwise (· < ·)
 rw [Array.toList_range]; exact bm8,rfl,h.led⟩
theorem aN8 {b:Bool}{t:SetTable} (h:gO b t) {j:Nat} (hs:t.slot j = .empty):gO b (t.put j).1:=by
 refine⟨?_,?_,h.led⟩
 ·refine aN6 h.asc fun e=>?_
  unfold SetTable.slot at hs
  dsimp only at hs
  rw [if_pos (by rw [e]; exact bh5 _)] at hs
  cases hs
 ·show (if SetTable.has t.dummies j then SetTable.eraseAt t.dummies (SetTable.below t.dummies j) else t.dummies) = #[]
  rw [h.dm,W5]; rfl
theorem aN9 {b:Bool}{t:SetTable} (h:gO b t) (es:Array (Int × Value)) (k:Int) (x:Value):gO b (layNew t es k x).2.1:=by
 unfold layNew
 split
 ·rename_i sl wd e
  have p:=aN8 h (aN7 h.dm e)
  show gO b (SetTable.orStandIn _ _)
  unfold SetTable.orStandIn
  split
  ·exact p
  ·exact rR p _
 ·exact rR h _
theorem aO0 {b:Bool}{t:SetTable} (h:gO b t) (es:Array (Int × Value)) (n:Nat):gO b (relayAll t es n).2.1:=by
 unfold relayAll
 split
 ·rename_i t' order e
  dsimp only
  split
  ·show gO b t'
   unfold SetTable.relaid SetTable.laid at e
   cases hc:SetTable.layClean (SetTable.sizeAbove n - 1) (es.map (·.1)) with
   | none=>rw [hc] at e; cases e
   | some owner=>
    rw [hc] at e
    cases e
    refine⟨?_,rfl,h.led⟩
    show (List.map _ _).Pairwise (· < ·)
    refine bj5.mpr (List.Pairwise.filterMap _ (R:=(· < ·)) ?_ bm8)
    intro i i' hlt x hx y hy
    cases ho:owner.getD i none with
    | none=>rw [ho] at hx; cases hx
    | some v=>
     rw [ho] at hx
     cases ho2:owner.getD i' none with
     | none=>rw [ho2] at hy; cases hy
     | some v2=>
      rw [ho2] at hy
      cases hx; cases hy
      exact hlt
  ·exact rR h _
 ·exact rR h _
theorem W7 {us vs:List Value} (p:us.Perm vs):∀ {ns:List Int},IntsAre vs ns->∃ ms,IntsAre us ms/\ms.Perm ns:=by
 induction p with
 | nil=>intro ns h; exact⟨ns,h,List.Perm.refl _⟩
 | cons x _ ih=>
  intro ns h
  cases h with
  | cons n t r=>
   obtain ⟨ms,h1,h2⟩:=ih r
   exact⟨n :: ms,.cons n t h1,h2.cons n⟩
 | swap x y l=>
  intro ns h
  cases h with
  | cons n t r=>
   cases r with
   | cons n' t' r=>
    exact⟨n' :: n :: _,.cons n' t' (.cons n t r),List.Perm.swap _ _ _⟩
 | trans _ _ ih1 ih2=>
  intro ns h
  obtain ⟨ms,h1,h2⟩:=ih2 h
  obtain ⟨ms',h3,h4⟩:=ih1 h1
  exact⟨ms',h3,h4.trans h2⟩
theorem W8:∀ {us:List Value}{ns:List Int},IntsAre us ns->∀ (k:Int) (t:Nat),IntsAre (us ++ [.int k t]) (ns ++ [k])
 | _,_,.nil,k,t=>.cons k t .nil
 | _,_,.cons n u r,k,t=>.cons n u (W8 r k t)
theorem rS:∀ {us:List Value}{ns:List Int},IntsAre us ns->∀ k:Int,k ∈ ns ↔ ∃ t,Value.int k t ∈ us
 | _,_,.nil,k=>⟨(fun h=>nomatch h),(fun ⟨_,h⟩=>nomatch h)⟩
 | _,_,.cons n u r,k=>by
  constructor
  ·intro h
   rcases aZ6.mp h with e | h
   ·exact⟨u,by rw [e]; exact bb1⟩
   ·obtain ⟨t,ht⟩:=(rS r k).mp h
    exact⟨t,bb0 _ ht⟩
  ·rintro ⟨t,h⟩
   rcases aZ6.mp h with e | h
   ·cases e; exact bb1
   ·exact bb0 _ ((rS r k).mpr ⟨t,h⟩)
abbrev oO (es:Array (Int × Value)) (ep:Nat) (t:SetTable):Obj:={ cls:=.type "set",dict:=none,data:=.set es ep t,slots:=#[] }
section
variable {prog : Program} {w : World} {A : Around} {E : Value → Shared → Prop} {s : Shared}
def aO1 (prog:Program) (w:World) (es:Array (Int × Value)) (t:SetTable) (ms:List Int):Prop:=ElemsOf (intKind prog w) es.toList/\IntsAre (es.toList.map (·.2)) ms/\es.size < scanBound/\t.fits es.size=true/\gO (!w.params.followText "set-order") t
def W9 (prog:Program) (w:World) (h:Heap) (a:Addr) (ms:List Int):Prop:=∃ es ep t,h.get? a=some (oO es ep t)/\aO1 prog w es t ms
theorem X0 {h:Heap}{a:Addr}{es es':Array (Int × Value)}{ep:Nat}{t t':SetTable} (ho:h.get? a=some (oO es ep t)):(h.update a (Obj.putSet es' t')).get? a=some (oO es' (ep+1) t'):=by
 have:=bn7 (Obj.putSet es' t') ho (by rw [putSet_of es' t' (rfl:(oO es ep t).data=_)]; rfl)
 rw [putSet_of es' t' (rfl:(oO es ep t).data=_)] at this
 exact this
theorem add_int {a:Addr}{ms:List Int}{k:Int}{u:Nat}{Q:Bool->Shared->Prop} (hS:W9 prog w s.heap a ms) (room:ms.length+1 < scanBound)
  (h:∀ b h' ms',Heap.SameBut a s.heap h'->W9 prog w h' a ms'->(k ∈ ms->ms'.Perm ms)->(k ∉ ms->ms'.Perm (ms ++ [k]))->Q b { s with heap:=h' }) :
  wpAny (model prog w) A (setAddHashed a (.int k u) ((intKind prog w).hash k)) Q E s:=by
 obtain ⟨es,ep,t,ho,hel,hi,hb,hf,tk⟩:=hS
 have key:(intKind prog w).is k (.int k u)=true:=intKind_is _ _ _ _
 have ln:ms.length=es.size:=by
  have:=IntsAre.length hi
  rw [ba3,bg7] at this
  exact this.symm
 have isk:∀ v,(intKind prog w).is k v=true->∃ u,v = .int k u:=fun v hv=>Value.isInt_shape hv
 unfold setAddHashed setAddHashedIn
 refine bh7 (aY9 (wpAny_setState_of ho rfl hf ?_))
 dsimp only
 rw [byScan_of (knd:=intKind prog w) (x:=.int k u) rfl hb hel,if_pos rfl]
 unfold setAddByScan
 refine aY9 (aY9 (bm5 ?_))
 refine aY9 (wpAny_setScan_of key ho rfl hf hel ?_)
 cases hr:List.findIdx? (fun e=>(intKind prog w).is k e.2) es.toList with
 | some j=>
  dsimp only
  obtain ⟨hj,hp,_⟩:=List.findIdx?_eq_some_iff_getElem.mp hr
  have km:k ∈ ms:=by
   obtain ⟨u',e⟩:=isk _ hp
   exact (rS hi k).mpr ⟨u',by rw [<- e]; exact be0.mpr ⟨_,bj1 hj,rfl⟩⟩
  have e:s={ s with heap:=s.heap }:=by cases s; rfl
  rw [e]
  exact aZ5 (aZ5 (h _ s.heap ms (Heap.SameBut.refl a s.heap) ⟨es,ep,t,ho,hel,hi,hb,hf,tk⟩ (fun _=>List.Perm.refl _) fun n=>absurd km n))
 | none=>
  dsimp only
  have km:k ∉ ms:=fun z=>by
   obtain ⟨u',hm⟩:=(rS hi k).mp z
   obtain ⟨e,he,e2⟩:=be0.mp hm
   have:=List.findIdx?_eq_none_iff.mp hr e he
   rw [e2,intKind_is _ _ _ _] at this; cases this
  have lp:=layNew_perm t es ((intKind prog w).hash k) (.int k u)
  have lf:=layNew_fits t es ((intKind prog w).hash k) (.int k u)
  have lk:=aN9 tk es ((intKind prog w).hash k) (.int k u)
  generalize hL:layNew t es ((intKind prog w).hash k) (.int k u)=L at lp lf lk ⊢
  obtain ⟨es1,t1,wd,gave⟩:=L
  dsimp only at lp lf lk ⊢
  rw [Array.toList_push] at lp
  have el1:ElemsOf (intKind prog w) es1.toList:=(hel.push key rfl).perm lp
  have sz1:es1.size=es.size+1:=by rw [<- bg7,lp.length_eq,ba8,bg7]; rfl
  obtain ⟨ms1,i1,p1⟩:∃ ms1,IntsAre (es1.toList.map (·.2)) ms1/\ms1.Perm (ms ++ [k]):=W7 (lp.map (·.2)) (by rw [bc2]; exact W8 hi k u)
  have hb1:es1.size < scanBound:=by omega
  have gw:∀ (b:Bool) (s₁:Shared) (Q':Unit->Shared->Prop),Q' () s₁->wpAny (model prog w) A (match b with | true=>rule "set.scan.the-table-gave-way" | false=>pure ()) Q' E s₁:=fun b s₁ Q' hq=>by
   cases b
   ·exact aZ5 hq
   ·exact bm5 hq
  refine aY9 (gw _ _ _ ?_)
  split <;> (
   show wpAny _ _ (storeSet a es1 t1 >>= _) _ _ _
   simp only [↓reduceIte]
   refine aY9 (wpAny_storeSet_of ho rfl ?_ (fits_of_scanBound hb1))
   have ho1:=X0 (es':=es1) (t':=t1) ho
   have sb1:=Heap.SameBut.update s.heap a (Obj.putSet es1 t1)
   split
   ·have rp:=relayAll_perm t1 es1 (SetTable.grown es1.size)
    have rf:=relayAll_fits t1 es1 (SetTable.grown es1.size)
    have rk:=aO0 lk es1 (SetTable.grown es1.size)
    generalize relayAll t1 es1 (SetTable.grown es1.size)=L at rp rf rk ⊢
    obtain ⟨es2,t2,gave2⟩:=L
    dsimp only at rp rf rk ⊢
    have sz2:es2.size=es1.size:=by rw [<- bg7,rp.length_eq,bg7]
    obtain ⟨ms2,i2,p2⟩:=W7 (rp.map (·.2)) i1
    refine aY9 (gw _ _ _ ?_)
    refine aY9 (wpAny_storeSet_of ho1 rfl ?_ (fits_of_scanBound (by omega)))
    exact aZ5 (aZ5 (h _ _ ms2 (sb1.trans (Heap.SameBut.update _ a _)) ⟨es2,_,t2,X0 ho1,el1.perm rp,i2,by omega,rf,rk⟩ (fun z=>absurd z km) fun _=>p2.trans p1))
   ·exact aZ5 (aZ5 (h _ _ ms1 sb1 ⟨es1,_,t1,ho1,el1,i1,hb1,lf,lk⟩ (fun z=>absurd z km) fun _=>p1)))
end
end Raw
namespace Core
open PySem L2 PP
section
variable {ws : List Int} {ls : List (Int × Int)} {A T : List Int} {m : Nat}
theorem aO2:∀ m,∀ y ∈ A,y ∈ aY ws ls A m:=fun m y hy=>by
 induction m with
 | zero=>exact hy
 | succ m ih=>exact be7 _ ih
theorem aO3 (en:c8 ws ls A m):fN ws ls (aY ws ls A m):=fun h hh=>by
 have:=List.filter_eq_nil_iff.mp (show (rng ws.length).filter (kin ws ls (aY ws ls A m)) = [] from en.2) h hh
 simpa using this
end
def kI:bD:=fun xs Q=>∃ a k:Int,xs = [.int a,.int k]/\0<=k/\k<=1000/\∀ z,0<=z->Q (.int z)
def X1:aK:=(aL (aX 2 (bW (cL (cL (cL (bW (a5 0) (qC (.int 2147483647))) (nP (nP (qC (.int 69621)) (a5 1)) (a5 1))) (nP (qC (.int 40692)) (a5 1))) (qC (.int 1))) (qC (.int 2147483647))))
 (aL (aX 2 (bW (nP (a5 2) (qC (.int 48271))) (qC (.int 2147483647))))
 (bK (bW (nP (a5 2) (a5 2)) (qC (.int 2147483647))))))
theorem aO4:cO X1 ["number","k","turn"] kI:=by
 rintro xs Q ⟨a,k,rfl,k0,k1,q⟩
 have big:(0:Int) < 2147483647:=by decide
 refine⟨_,rfl,_,_,rfl,rfl,big,_,rfl,_,_,rfl,rfl,.inl ⟨by decide,by decide⟩,_,rfl,_,_,rfl,rfl,.inr ⟨by show -(2 ^ 64) < k; omega,by show k < 2 ^ 64; omega⟩,_,_,rfl,rfl,_,rfl,_,_,rfl,rfl,.inl ⟨by decide,by decide⟩,_,_,rfl,rfl,_,_,rfl,rfl,_,_,rfl,rfl,big,trivial,?_⟩
 refine⟨_,rfl,_,_,rfl,rfl,.inr ⟨by decide,by decide⟩,_,_,rfl,rfl,big,trivial,?_⟩
 dsimp only
 have t0:0<=(a % 2147483647+69621 * k * k+40692 * k+1) % 2147483647 * 48271 % 2147483647:=bh1 _ (by decide)
 have t1:(a % 2147483647+69621 * k * k+40692 * k+1) % 2147483647 * 48271 % 2147483647 < 2147483647:=bn6 _ (by decide)
 generalize (a % 2147483647+69621 * k * k+40692 * k+1) % 2147483647 * 48271 % 2147483647=t at t0 t1
 exact⟨_,rfl,_,rfl,_,_,rfl,rfl,.inl ⟨by show -(2 ^ 64) < t; omega,by show t < 2 ^ 64; omega⟩,_,_,rfl,rfl,big,trivial,q _ (bh1 _ (by decide))⟩
def rT:bD:=fun xs Q=>∃ (ns:List Int) (most:Int),xs = [.scr ns,.int most]/\0<=most/\∀ z,0<=z->z<=most->Q (.int z)
def X2:aK:=(aL (aX 2 (aF fL (a7 (a5 0) (a7 (qC (.int 0)) aA))))
 (aL (cI (aV (gI (bW (a5 2) (qC (.int 3))) (qC (.int 0)))) (bK (aF pK (a7 (a5 1) (a7 (aF uQ (a7 (qC (.int 0)) (a7 (k7 (aF cM (a7 (a5 0) aA)) (qC (.int 4))) aA))) aA)))) cX)
 (aL (cI (aV (gI (bW (a5 2) (qC (.int 8))) (qC (.int 1)))) (bK (bW (cL (fG (a5 2) (qC (.int 24))) (qC (.int 5))) (cL (a5 1) (qC (.int 1))))) cX)
 (bK (bW (cL (fG (a5 2) (qC (.int 3))) (qC (.int 2))) (cL (aF pK (a7 (qC (.int 6)) (a7 (a5 1) aA))) (qC (.int 1))))))))
theorem aO5:cO X2 ["script","most","number"] rT:=by
 rintro xs Q ⟨ns,most,rfl,hm,q⟩
 refine⟨_,rfl,_,ns,0,rfl,.inl rfl,by decide,trivial,?_⟩
 generalize ns.getD (0:Int).toNat 0=c
 refine⟨_,rfl,_,_,rfl,rfl,(by show (0:Int) < 3; decide),.inl ⟨_,_,rfl,rfl,_,rfl,wY ?_ ?_⟩⟩
 ·refine⟨_,rfl,_,rfl,_,_,rfl,rfl,_,_,rfl,rfl,_,_,rfl,_,_,rfl,trivial,q _ ?_ ?_⟩ <;> split <;> split <;> omega
 refine⟨_,rfl,_,_,rfl,rfl,(by show (0:Int) < 8; decide),.inl ⟨_,_,rfl,rfl,_,rfl,wY ?_ ?_⟩⟩
 ·have hp:0 < most+1:=by omega
  refine⟨_,rfl,_,_,rfl,rfl,⟨by decide,by decide⟩,_,_,rfl,rfl,_,rfl,_,_,rfl,rfl,_,_,rfl,rfl,hp,trivial,q _ (bh1 _ (by omega)) ?_⟩
  have:=bn6 (c / 24+5) hp
  omega
 ·have hp:0 < (if most < 6 then most else 6)+1:=by split <;> omega
  refine⟨_,rfl,_,_,rfl,rfl,⟨by decide,by decide⟩,_,_,rfl,rfl,_,rfl,_,_,rfl,_,_,rfl,rfl,_,_,rfl,rfl,hp,trivial,q _ (bh1 _ (by omega)) ?_⟩
  have:=bn6 (c / 3+2) hp
  have hm:(if most < 6 then most else 6)<=most:=by split <;> omega
  omega
def X3 (mx:Int):bD:=fun xs Q=>∃ (ns:List Int) (most:Int),xs = [.scr ns,.int most]/\ns.length<=63/\0<=most/\most<=mx/\∀ n ws ls,0<=n->n<=most->WL n ws ls->Q (bH ws ls)
def X4 (R:List PV->(PV->Prop)->Prop):aK:=(aL (aX 13 (dA (iG (a5 2)) [none,some 5,some 8] (bS 0) dZ (bW (bG (a5 1) (a5 0)) (cL (bG (a5 2) (a5 0)) (qC (.int 2))))))
 (bK (fU (a7 (aF k8 (a7 (a5 13) aA)) (a7 (aF k8 (a7 (aF R (a7 (a5 7) aA)) aA)) aA)))))
def X5:aK:=(aL (aX 12 (a5 10))
   (aL (aX 10 (fG (a5 10) (a5 3)))
   (aL (cI (gH (aV (a5 4))) (aX 12 (aF kI (a7 (bG (a5 5) (a5 9)) (a7 (cL (a5 11) (qC (.int 60))) aA)))) cX)
   (cI (aV (gI (bW (a5 12) (a5 3)) (qC (.int 1)))) (aL (j9 7 (fU (a7 (a5 11) (a7 (a5 9) aA))))
    (aL (jA 8 (a5 11) (cL (bG (a5 8) (a5 11)) (qC (.int 1))))
    (jA 8 (a5 9) (cL (bG (a5 8) (a5 9)) (qC (.int 1)))))) cX))))
def x5 (R:List PV->(PV->Prop)->Prop):aK:=(aL (eZ (iG (a5 2)) (bS 9)
  (aL (aX 10 (fG (bG (a5 5) (a5 9)) (qC (.int 64))))
  (eZ (iG (a5 9)) (bS 11) X5)))
 (X4 R))
def X6 (R:List PV->(PV->Prop)->Prop):aK:=(aL (aX 2 (aF rT (a7 (a5 0) (a7 (a5 1) aA))))
 (aL (aX 3 (cL (qC (.int 2)) (bW (aF fL (a7 (a5 0) (a7 (qC (.int 1)) aA))) (qC (.int 4)))))
 (aL (aX 4 (gI (bW (fG (aF fL (a7 (a5 0) (a7 (qC (.int 1)) aA))) (qC (.int 8))) (qC (.int 2))) (qC (.int 1))))
 (aL (gU 5 (v9 (a5 0) (pR (qC (.int 4))) (pR (cL (qC (.int 4)) (a5 2)))))
 (aL (eZ (pL (aF cM (a7 (a5 5) aA)) (a5 2)) (bS 6)
  (j9 5 (aF kI (a7 (aF fL (a7 (a5 0) (a7 (qC (.int 1)) aA))) (a7 (a5 6) aA)))))
 (aL (gU 7 (eU aA))
 (aL (gU 8 (R5 (eU (a7 (qC (.int 0)) aA)) (a5 2)))
 (x5 R))))))))
structure LK (i j:Nat) (ls:List (Int × Int)):Prop where
 inn:∀ l ∈ ls,0<=l.1/\l.1 < l.2/\(l.2 < (i:Int) ∨ (l.2=(i:Int)/\l.1 < (j:Int)))
 nd:ls.Nodup
 few:ls.length<=40 * i+j
theorem LK.same {i j:Nat}{ls:List (Int × Int)} (h:LK i j ls):LK i (j+1) ls:=
 ⟨fun l hl=>by have:=h.inn l hl; omega,h.nd,by have:=h.few; omega⟩
theorem LK.app {i j:Nat}{ls:List (Int × Int)} (h:LK i j ls) (hj:j < i):LK i (j+1) (ls ++ [((j:Int),(i:Int))]):=by
 refine⟨fun l hl=>?_,List.nodup_append.mpr ⟨h.nd,bf5 _ _,fun a ha b hb e=>?_⟩,by rw [ba8,bg6]; have:=h.few; omega⟩
 ·rcases bb3.mp hl with z | z
  ·have:=h.inn l z; omega
  ·rw [aZ4.mp z]; dsimp only; omega
 ·rw [aZ4.mp hb] at e
  subst e
  have:=h.inn _ ha
  dsimp only at this
  omega
theorem LK.next {i:Nat}{ls:List (Int × Int)} (h:LK i i ls) (hi:i<=40):LK (i+1) 0 ls:=
 ⟨fun l hl=>by have:=h.inn l hl; omega,h.nd,by have:=h.few; omega⟩
theorem mD {ws:List Int}{j:Nat} (h:j < ws.length):L2.atI (intz ws) (j:Int)=some (.int (ws.getD j 0)):=by
 have gw:ws[j]? = some (ws.getD j 0):=by rw [aZ7,aZ0 h]; rfl
 exact iZ (by rw [ba1,gw]; rfl)
theorem x6 {ws:List Int} (h:NN ws) (j:Nat):0<=ws.getD j 0:=by
 rw [aZ7]
 cases hj:ws[j]? with
 | none=>exact bm1 0
 | some w=>exact h w (bb4 hj)
theorem C6 (ns:List Int) (lo hi:Option Int):∃ zs:List Int,gV (intz ns) lo hi=intz zs/\zs.length<=ns.length:=by
 refine⟨(ns.drop (HT.aR (intz ns).length 0 lo)).take (HT.aR (intz ns).length (intz ns).length hi - HT.aR (intz ns).length 0 lo),?_,?_⟩
 ·unfold gV intz; rw [List.map_take,List.map_drop]
 ·rw [bh3,bf8]; omega
def rV (R:List PV->(PV->Prop)->Prop) (m:Nat):Prop:=∀ (ls:List (Int × Int)) (Q:PV->Prop),ls.length<=40 * m->(∀ ls':List (Int × Int),ls'.Perm ls->(ls'.map two).Pairwise (fun u v=>HT.aQ v u=false)->Q (.lst (fB ls')))->(∀ l ∈ ls,0<=l.1/\l.1 < l.2/\l.2 < (m:Int))->ls.Nodup->R [.lst (fB ls)] Q
theorem aO6 {m:Nat}{sp:Int}{dg:Bool}{cs cts:List Int}{lks:List (Int × Int)}{i j:Nat}{nb:Int}{s0 s1 y6 y12 y13:Option Slot}{D:bA->Prop}{Q:PV->Prop}{ct bk:bA->Prop} (wZ:2<=sp/\sp<=5) (hc:m<=cs.length) (hi:i < m) (hj:j < i) (m40:m<=40) (lk:LK i j lks) (cl:cts.length=m) (nn:NN cts)
  (k:∀ (nb dr:Int) (lks':List (Int × Int)) (cts':List Int),LK i (j+1) lks'->cts'.length=m->NN cts'->D [s0,s1,si m,si sp,some (.sh true (.bl dg)),some (.own (.lst (intz cs))),y6,some (.own (.lst (fB lks'))),some (.own (.lst (intz cts'))),si i,si nb,si j,si dr,y13]) :
  X5 { nx:=D,rt:=Q,ct:=ct,bk:=bk } [s0,s1,si m,si sp,some (.sh true (.bl dg)),some (.own (.lst (intz cs))),y6,some (.own (.lst (fB lks))),some (.own (.lst (intz cts))),si i,si nb,si j,y12,y13]:=by
 refine⟨_,rfl,trivial,?_⟩
 refine⟨_,rfl,_,rfl,_,_,rfl,rfl,⟨by omega,by omega⟩,trivial,?_⟩
 dsimp only
 generalize nb / sp=nb2
 have fin:∀ dr:Int,(cI (aV (gI (bW (a5 12) (a5 3)) (qC (.int 1)))) (aL (j9 7 (fU (a7 (a5 11) (a7 (a5 9) aA))))
    (aL (jA 8 (a5 11) (cL (bG (a5 8) (a5 11)) (qC (.int 1))))
    (jA 8 (a5 9) (cL (bG (a5 8) (a5 9)) (qC (.int 1)))))) cX) { nx:=D,rt:=Q,ct:=ct,bk:=bk } [s0,s1,si m,si sp,some (.sh true (.bl dg)),some (.own (.lst (intz cs))),y6,some (.own (.lst (fB lks))),some (.own (.lst (intz cts))),si i,si nb2,si j,si dr,y13]:=fun dr=>by
  refine⟨_,rfl,_,rfl,_,_,rfl,rfl,by show 0 < sp; omega,.inl ⟨_,_,rfl,rfl,_,rfl,wY ?_ (k nb2 dr lks cts lk.same cl nn)⟩⟩
  have pl:(fB lks).length=lks.length:=ba3 _
  have fw:=lk.few
  refine⟨_,rfl,_,rfl,_,rfl,by show 2<=1000; decide,rfl,trivial,by rw [pl]; omega,?_⟩
  have a1:=mD (ws:=cts) (j:=j) (by omega)
  refine⟨_,rfl,_,rfl,_,_,_,rfl,rfl,a1,_,_,rfl,rfl,_,rfl,_,rfl,j,j,rfl,?_,trivial,?_⟩
  ·rw [aZ]; unfold eQ; rw [if_pos (by omega),if_pos (by omega)]; rfl
  have e1:(intz cts).set j (.int (cts.getD j 0+1))=intz (cts.set j (cts.getD j 0+1)):=(List.map_set ..).symm
  have n1:NN (cts.set j (cts.getD j 0+1)):=nn.set (by have:=x6 nn j; omega) _
  dsimp only
  rw [e1]
  have l1:(cts.set j (cts.getD j 0+1)).length=m:=by rw [bd8]; exact cl
  generalize cts.set j (cts.getD j 0+1)=ct2 at n1 l1
  have a2:=mD (ws:=ct2) (j:=i) (by omega)
  refine⟨_,rfl,_,rfl,_,_,_,rfl,rfl,a2,_,_,rfl,rfl,_,rfl,_,rfl,i,i,rfl,?_,trivial,?_⟩
  ·rw [aZ]; unfold eQ; rw [if_pos (by omega),if_pos (by omega)]; rfl
  have e2:(intz ct2).set i (.int (ct2.getD i 0+1))=intz (ct2.set i (ct2.getD i 0+1)):=(List.map_set ..).symm
  have n2:NN (ct2.set i (ct2.getD i 0+1)):=n1.set (by have:=x6 n1 i; omega) _
  dsimp only
  rw [e2]
  have:=k nb2 dr (lks ++ [((j:Int),(i:Int))]) (ct2.set i (ct2.getD i 0+1)) (lk.app hj) (by rw [bd8]; exact l1) n2
  unfold fB at this ⊢
  rw [bc2] at this
  exact this
 refine⟨_,rfl,_,rfl,?_⟩
 cases dg with
 | true=>exact b6 (fin nb)
 | false=>
  have a0:=mD (ws:=cs) (j:=i) (by omega)
  exact bI ⟨_,rfl,_,rfl,_,_,_,rfl,rfl,a0,_,rfl,_,_,rfl,rfl,_,_,rfl,by omega,by omega,fun z _=>⟨trivial,fin z⟩⟩
theorem aO7 {R:List PV->(PV->Prop)->Prop}{m:Nat}{cs cts:List Int}{lks:List (Int × Int)}{s0 s1 y3 y4 y6 y9 y10 y11 y12:Option Slot}{Q:PV->Prop} (hR:rV R m) (hc:m<=cs.length) (m40:m<=40) (lk:LK m 0 lks) (cl:cts.length=m) (nn:NN cts) (q:∀ ws ls,WL m ws ls->Q (bH ws ls)) :
  X4 R { nx:=fun _=>Q .non,rt:=Q } [s0,s1,si m,y3,y4,some (.own (.lst (intz cs))),y6,some (.own (.lst (fB lks))),some (.own (.lst (intz cts))),y9,y10,y11,y12,none]:=by
 refine⟨_,rfl,m,rfl,by omega,by omega,by rw [eC]; omega,fun i acc=>∃ zs:List Int,acc=intz zs/\zs.length=i/\NN zs,⟨[],rfl,rfl,fun z hz=>by cases hz⟩,?_,?_⟩
 ·rintro i y acc hy ⟨zs,rfl,zl,zn⟩
  obtain ⟨rfl,hi⟩:=iQ hy
  have hi:i < m:=by omega
  refine gZ ?_
  rw [Int.zero_add]
  have a1:=mD (ws:=cs) (j:=i) (by omega)
  have a2:=mD (ws:=cts) (j:=i) (by omega)
  have p1:=x6 nn i
  refine⟨_,rfl,_,rfl,_,_,_,rfl,rfl,a1,_,rfl,_,rfl,_,_,_,rfl,rfl,a2,_,_,rfl,rfl,_,_,rfl,rfl,by show 0 < cts.getD i 0+2; omega,trivial,zs ++ [cs.getD i 0 % (cts.getD i 0+2)],by rw [gM]; rfl,by rw [ba8,zl]; rfl,zn.app (bh1 _ (by omega))⟩
 rintro acc ⟨ws,rfl,wl,wn⟩
 rw [eC,be3] at wl
 refine⟨trivial,?_⟩
 have fp:∀ ls:List (Int × Int),flats (fB ls)=true:=O6
 have inn:∀ l ∈ lks,0<=l.1/\l.1 < l.2/\l.2 < (m:Int):=fun l hl=>by have:=lk.inn l hl; omega
 refine⟨_,rfl,⟨_,_,rfl,rfl,cZ _,?_⟩,(fun ns e=>by cases e)⟩
 refine⟨_,rfl,hR lks _ (by have:=lk.few; omega) (fun ls' pl so=>?_) inn lk.nd⟩
 refine⟨⟨_,_,rfl,rfl,fp _,by show 2<=1000; decide,?_,trivial,?_⟩,(fun ns e=>by cases e)⟩
 ·show (flats (intz ws) && (flats (fB ls') && true))=true
  rw [cZ,fp]; rfl
 ·exact q ws ls' (WL.perm (by omega) inn (by have:=lk.few; omega) lk.nd wn pl so)
theorem aO8 {R:List PV->(PV->Prop)->Prop}{m:Nat}{sp:Int}{dg:Bool}{cs cts:List Int}{s0 s1 y6:Option Slot}{Q:PV->Prop} (hR:rV R m) (wZ:2<=sp/\sp<=5) (hc:m<=cs.length) (m40:m<=40) (cl:cts.length=m) (nn:NN cts) (q:∀ ws ls,WL m ws ls->Q (bH ws ls)) :
  x5 R { nx:=fun _=>Q .non,rt:=Q } [s0,s1,si m,si sp,some (.sh true (.bl dg)),some (.own (.lst (intz cs))),y6,some (.own (.lst [])),some (.own (.lst (intz cts))),none,none,none,none,none]:=by
 refine⟨_,rfl,m,rfl,by omega,by omega,fun i ρ=>∃ (lks:List (Int × Int)) (cts:List Int) (y9 y10 y11 y12:Option Slot),ρ = [s0,s1,si m,si sp,some (.sh true (.bl dg)),some (.own (.lst (intz cs))),y6,some (.own (.lst (fB lks))),some (.own (.lst (intz cts))),y9,y10,y11,y12,none]/\LK i 0 lks/\cts.length=m/\NN cts,⟨[],cts,none,none,none,none,rfl,⟨(fun l hl=>by cases hl),bo0,be8 _⟩,cl,nn⟩,?_,?_⟩
 ·rintro i y ρ hy ⟨lks,cts,y9,y10,y11,y12,rfl,lk,cl,nn⟩
  obtain ⟨rfl,hi⟩:=iQ hy
  have hi:i < m:=by omega
  refine gZ ?_
  rw [Int.zero_add]
  have a1:=mD (ws:=cs) (j:=i) (by omega)
  refine⟨_,rfl,_,rfl,_,_,_,rfl,rfl,a1,_,_,rfl,rfl,⟨by decide,by decide⟩,trivial,?_⟩
  dsimp only
  generalize cs.getD i 0 / 64=nb
  refine⟨_,rfl,i,rfl,by omega,by omega,fun j ρ=>∃ (nb:Int) (lks:List (Int × Int)) (cts:List Int) (y11 y12:Option Slot),ρ = [s0,s1,si m,si sp,some (.sh true (.bl dg)),some (.own (.lst (intz cs))),y6,some (.own (.lst (fB lks))),some (.own (.lst (intz cts))),si i,si nb,y11,y12,none]/\LK i j lks/\cts.length=m/\NN cts,⟨nb,lks,cts,y11,y12,rfl,lk,cl,nn⟩,?_,?_⟩
  ·rintro j y ρ hy ⟨nb,lks,cts,y11,y12,rfl,lk,cl,nn⟩
   obtain ⟨rfl,hj⟩:=iQ hy
   have hj:j < i:=by omega
   refine gZ ?_
   rw [Int.zero_add]
   exact aO6 wZ hc hi hj m40 lk cl nn fun nb dr lks' cts' h1 h2 h3=>⟨nb,lks',cts',si j,si dr,rfl,h1,h2,h3⟩
  ·rintro ρ ⟨nb,lks,cts,y11,y12,rfl,lk,cl,nn⟩
   rw [eC,be3] at lk
   exact⟨lks,cts,si i,si nb,y11,y12,rfl,lk.next (by omega),cl,nn⟩
 ·rintro ρ ⟨lks,cts,y9,y10,y11,y12,rfl,lk,cl,nn⟩
  rw [eC,be3] at lk
  exact aO7 hR hc m40 lk cl nn q
theorem aO9 {R:List PV->(PV->Prop)->Prop}{mx:Int} (mx40:mx<=40) (hR:∀ m:Nat,(m:Int)<=mx->rV R m):cO (X6 R) ["script","most","many","sparse","digits","cells","k","links","counts","other","number","one","draw","wants"] (X3 mx):=by
 rintro xs Q ⟨ns,most,rfl,hl,h0,h1,q⟩
 refine⟨_,rfl,_,rfl,ns,most,rfl,h0,fun z z0 z1=>⟨trivial,?_⟩⟩
 obtain ⟨m,rfl⟩:∃ m:Nat,z=m:=⟨z.toNat,by omega⟩
 refine⟨_,rfl,_,ns,1,rfl,.inl rfl,by decide,_,_,rfl,rfl,(by show (0:Int) < 4; decide),_,_,rfl,rfl,trivial,?_⟩
 dsimp only
 have s2:2<=2+ns.getD (1:Int).toNat 0 % 4/\2+ns.getD (1:Int).toNat 0 % 4<=5:=by
  have:=bh1 (ns.getD (1:Int).toNat 0) (show (4:Int) ≠ 0 by decide)
  have:=bn6 (ns.getD (1:Int).toNat 0) (show (0:Int) < 4 by decide)
  omega
 generalize 2+ns.getD (1:Int).toNat 0 % 4=sp at s2
 refine⟨_,rfl,_,ns,1,rfl,.inl rfl,by decide,_,_,rfl,rfl,⟨by decide,by decide⟩,_,_,rfl,rfl,(by show (0:Int) < 2; decide),.inl ⟨_,_,rfl,rfl,trivial,?_⟩⟩
 generalize (if false=true then !decide (ns.getD (1:Int).toNat 0 / 8 % 2=1) else decide (ns.getD (1:Int).toNat 0 / 8 % 2=1))=dg
 obtain ⟨zs,ez,zl⟩:=C6 ns (some 4) (some (4+(m:Int)))
 refine⟨_,rfl,_,rfl,_,rfl,_,_,rfl,rfl,_,rfl,_,rfl,cZ _,rfl,?_,?_⟩
 ·show flats (gV (intz ns) (some 4) (some (4+(m:Int))))=true
  rw [ez]; exact cZ _
 show (aL _ _) _ [_,_,_,_,_,some (Slot.own (.lst (gV (intz ns) (some 4) (some (4+(m:Int)))))),_,_,_,_,_,_,_,_]
 rw [ez]
 refine⟨_,rfl,_,_,rfl,rfl,_,rfl,(zs.length:Int),(m:Int),by rw [aZ],rfl,⟨by omega,by omega,by omega,by omega⟩,fun i ρ=>∃ (cs:List Int) (y6:Option Slot),ρ = [some (.sh (flat (.scr ns)) (.scr ns)),si most,si m,si sp,some (.sh true (.bl dg)),some (.own (.lst (intz cs))),y6,none,none,none,none,none,none,none]/\cs.length=zs.length+i,⟨zs,none,rfl,rfl⟩,?_,?_⟩
 ·rintro i y ρ hy ⟨cs,y6,rfl,cl⟩
  obtain ⟨rfl,hi⟩:=iQ hy
  refine gZ ?_
  refine⟨_,rfl,_,rfl,_,ns,1,rfl,.inl rfl,by decide,_,rfl,_,_,rfl,by omega,by omega,fun z _=>⟨trivial,by rw [aZ]; omega,cs ++ [z],_,by rw [gM]; rfl,by rw [ba8,cl]; rfl⟩⟩
 rintro ρ ⟨cs,y6,rfl,cl⟩
 rw [eC] at cl
 have hc:m<=cs.length:=by omega
 refine⟨by decide,rfl,rfl,rfl,?_⟩
 refine⟨by show 1<=1000; decide,rfl,_,rfl,_,_,rfl,rfl,rfl,by omega,by omega,by show 1<=10; decide,rfl,?_,?_⟩
 ·show flats (List.replicate (m:Int).toNat [PV.int 0]).flatten=true
  rw [V9]; exact cZ _
 show x5 R _ [_,_,_,_,_,_,_,_,some (Slot.own (.lst (List.replicate (m:Int).toNat [PV.int 0]).flatten)),_,_,_,_,_]
 rw [V9,be3]
 exact aO8 (hR m (by omega)) s2 hc (by omega) List.length_replicate (fun z hz=>by rw [List.eq_of_mem_replicate hz]; exact bm1 0) fun ws ls w=>q m ws ls z0 z1 w
theorem aP0 {m:Nat} (h:m<=40):rV rL m:=fun ls Q hl q inn nd=>by
 refine⟨ls.map two,by rw [Q4],by rw [ba3]; omega,fun y hy=>by obtain ⟨l,_,rfl⟩:=be0.mp hy; rfl,fun Z pz so=>?_⟩
 obtain ⟨ls',rfl,pl⟩:=aF6 pz
 have:=q ls' pl so
 rw [Q4] at this
 exact this
end Core
namespace PP
open PySem L2
section
variable {P : Program} {w : World} {K : PySem.W.Frag} {mg : Str → Option Value} {base : Heap} {k : Nat} {f : Addr} {fd : FuncData}
theorem aP1 (F:cG P w K mg base cY k f fd ["web"] r0) (b:fZ K fd ["web"] []) (kp:PySem.W.keepIn K (.ref f)=true) (m:mg "_law_beside" = some (.ref f)):Df P w K mg base k "_law_beside" ["web"] Core.oD:=by
 refine⟨f,fd,F.imp fun vs H Q E h=>?_,b,kp,m⟩
 obtain ⟨xs,Qp,r,⟨ws,ls,rfl,wb,q⟩,k⟩:=h
 obtain ⟨v,rfl,r1⟩:=r.one
 have:=wb.few
 have:=wb.most
 refine⟨v,ws,ls,rfl,Q3 r1,by omega,by omega,wb.links,fun t bs H' hb R=>k _ H' _ R.same (.lst R.new R.row ?_) q⟩
 have:=wG (K:=K) (M:=fun a=>H a=none) (H:=H') (bs:=bs) (ls:=ls) 0 (fun b hb=>(R.news b hb).1) fun k b hk=>by rw [Nat.zero_add]; exact R.rows k b hk
 rw [hb,<- List.range_eq_range'] at this
 exact this
end
end PP
namespace Core
open PySem L2 PP
noncomputable def cB (ws:List Int) (ls:List (Int × Int)) (C:List Int):Bool:=@decide (∀ U:List Int,fN ws ls U->(∀ x ∈ C,x ∈ U)->∀ h ∈ rng ws.length,h ∈ U) (Classical.propDecidable _)
section
variable {ws : List Int} {ls : List (Int × Int)} {C D : List Int}
theorem x8:cB ws ls C=true ↔ ∀ U:List Int,fN ws ls U->(∀ x ∈ C,x ∈ U)->∀ h ∈ rng ws.length,h ∈ U:=
 ⟨fun z=>@bl1 _ (Classical.propDecidable _) z,fun z=>@ba2 _ (Classical.propDecidable _) z⟩
theorem X7 {T:List Int} (sh:fN ws ls T) (sub:∀ x ∈ C,x ∈ T) (le:∀ U,fN ws ls U->(∀ x ∈ C,x ∈ U)->∀ x ∈ T,x ∈ U):cB ws ls C=true ↔ ∀ h ∈ rng ws.length,h ∈ T:=
 ⟨fun f=>x8.mp f T sh sub,fun a=>x8.mpr fun U sU hU h hh=>le U sU hU h (a h hh)⟩
theorem aP2 {m:Nat} (hs:bC ws.length C=true) (en:c8 ws ls C m):cB ws ls C=decide (((aY ws ls C m).length:Int)=(ws.length:Int)):=by
 have st:∀ m,∀ x ∈ aY ws ls C m,x ∈ rng ws.length:=fun m=>by
  induction m with
  | zero=>exact fun x hx=>fK.mpr ((dL hs).2 x hx)
  | succ m ih=>
   intro x hx
   rcases bb3.mp (show x ∈ aY ws ls C m ++ nextOf ws ls (aY ws ls C m) from hx) with hx | hx
   ·exact ih x hx
   ·exact (bc5.mp hx).1
 have nd:=S4 (ls:=ls) hs m
 have le:=nd.length_le_of_subset (st m)
 rw [fJ] at le
 rw [bg9,bc0,X7 (aO3 en) (aO2 m) fun U sU hU x hx=>R9 sU hU m x hx]
 constructor
 ·intro a
  have:=(S0 ws.length).length_le_of_subset a
  rw [fJ] at this
  omega
 ·intro e
  refine fun h hh=>Classical.byContradiction fun hn=>?_
  have:=(bn9.mpr ⟨hn,nd⟩).length_le_of_subset fun x hx=>(aZ6.mp hx).elim (fun e=>by rw [e]; exact hh) (st m x)
  rw [fJ,bd5] at this
  omega
end
abbrev X8:bD:=oD
def rW:bD:=fun xs Q=>∃ ws ls x ns,xs = [bH ws ls,x]/\Wb ws ls/\cJ x ns/\(∀ x ∈ ns,x ∈ rng ws.length)/\∀ T,fN ws ls T->(∀ x ∈ ns,x ∈ T)->(∀ U,fN ws ls U->(∀ x ∈ ns,x ∈ U)->∀ x ∈ T,x ∈ U)->Q (.lst (dS ws.length T))
def X9:aK:=(aL (aX 2 (aF X8 (a7 (a5 0) aA)))
 (aL (gU 3 (dA (iG (aF cM (a7 (bG (a5 0) (qC (.int 0))) aA))) [none,some 1] (bS 0) dZ (q2 (v8 false) (a5 0) (a5 1))))
 (aL (aX 4 (qC (.bl true)))
 (aL (uL (aV (a5 4))
  (aL (aX 4 (qC (.bl false)))
  (eZ (iG (aF cM (a7 (bG (a5 0) (qC (.int 0))) aA))) (bS 5)
   (aL (aX 6 (aF cM (a7 (dA (dH (bG (a5 2) (a5 5))) [none,some 3] (bS 0) (lF (bG (a5 1) (a5 0))) (a5 0)) aA)))
   (cI (j5 (gH (lF (bG (a5 3) (a5 5)))) (aV (vA (a5 6) (bG (bG (a5 0) (qC (.int 0))) (a5 5))))) (aL (jA 3 (a5 5) (qC (.bl true)))
    (aX 4 (qC (.bl true)))) cX)))))
 (j8 3)))))
theorem aP3:cO X9 ["web","seeds","beside","burning","left","hearth","count"] rW:=by
 rintro xs Q ⟨ws,ls,x,ns,rfl,wb,hx,inn,q⟩
 have few:=wb.few
 refine⟨_,rfl,ws,ls,rfl,wb,trivial,?_⟩
 refine⟨_,rfl,_,_,_,rfl,rfl,rfl,_,_,rfl,rfl,_,rfl,by rw [aZ]; omega,by rw [aZ]; omega,by rw [eC,aZ]; omega,fun i acc=>acc=((rng ws.length).take i).map fun i=>PV.bl (decide (i ∈ ns)),rfl,?_,?_⟩
 ·rintro i y acc hy rfl
  obtain ⟨rfl,hi⟩:=iQ hy
  rw [aZ] at hi
  have hi:i < ws.length:=by omega
  refine⟨_,rfl,_,rfl,_,ns,rfl,hx.seq,trivial,?_⟩
  have tk:=oB (f:=fun (i:Int)=>PV.bl (decide (i ∈ ns))) (qT hi)
  show _=List.map _ (List.take (i+1) _)
  rw [tk,Int.zero_add]; rfl
 rintro bu rfl
 rw [eC,aZ,bd9 (by rw [fJ]; omega)]
 have flb:∀ S,flats (dS ws.length S)=true:=fun S=>by
  rw [wA]
  intro x hx
  unfold dS at hx
  obtain ⟨i,_,rfl⟩:=be0.mp hx
  rfl
 refine⟨rfl,flb ns,?_⟩
 refine⟨trivial,?_⟩
 refine⟨fun n ρ=>∃ (T:List Int) (g:Bool) (y5 y6:Option Slot),ρ = [some (.sh (flat (bH ws ls)) (bH ws ls)),some (.sh (flat x) x),some (.sh true (.lst (jI ws.length ls))),some (.own (.lst (dS ws.length T))),some (.sh true (.bl g)),y5,y6]/\
   (∀ x ∈ ns,x ∈ T)/\(∀ U,fN ws ls U->(∀ x ∈ ns,x ∈ U)->∀ x ∈ T,x ∈ U)/\(g=false->fN ws ls T)/\n=2 * ((rng ws.length).filter fun z=>!decide (z ∈ T)).length+(if g=true then 1 else 0),⟨_,ns,true,none,none,rfl,fun _ h=>h,fun _ _ h=>h,(fun z=>by cases z),rfl⟩,?_⟩
 rintro n ρ ⟨T,g,y5,y6,rfl,sub,le,sh,rfl⟩
 refine⟨_,rfl,_,rfl,?_⟩
 cases g with
 | false=>exact b6 ⟨_,rfl,trivial,q T (sh rfl) sub le⟩
 | true=>
  refine bI ⟨trivial,?_⟩
  refine⟨_,rfl,_,_,_,rfl,rfl,rfl,_,_,rfl,rfl,_,rfl,by rw [aZ]; omega,by rw [aZ]; omega,fun i ρ=>∃ (T2:List Int) (g2:Bool) (y5 y6:Option Slot),ρ = [some (.sh (flat (bH ws ls)) (bH ws ls)),some (.sh (flat x) x),some (.sh true (.lst (jI ws.length ls))),some (.own (.lst (dS ws.length T2))),some (.sh true (.bl g2)),y5,y6]/\
   (∀ x ∈ ns,x ∈ T2)/\(∀ U,fN ws ls U->(∀ x ∈ ns,x ∈ U)->∀ x ∈ T2,x ∈ U)/\(g2=false->T2=T/\∀ j:Nat,j < i->kin ws ls T j=false)/\(g2=true->((rng ws.length).filter fun z=>!decide (z ∈ T2)).length < ((rng ws.length).filter fun z=>!decide (z ∈ T)).length),⟨T,false,y5,y6,rfl,sub,le,(fun _=>⟨rfl,fun j hj=>absurd hj (Nat.not_lt_zero _)⟩),fun z=>by cases z⟩,?_,?_⟩
  ·rintro i y ρ hy ⟨T2,g2,y5,y6,rfl,sub2,le2,h0,h1⟩
   obtain ⟨rfl,hi⟩:=iQ hy
   have hi:i < ws.length:=by rw [aZ,be3] at hi; exact hi
   refine gZ ?_
   rw [Int.zero_add]
   have hr:(i:Int) ∈ rng ws.length:=fK.mpr ⟨by omega,by omega⟩
   refine⟨_,rfl,_,rfl,_,_,_,rfl,rfl,P6 (by omega) (by omega),_,rfl,(fun z=>by cases z),?_,fun j acc=>acc=intz (((bJ ls (i:Int)).take j).filter fun z=>decide (z ∈ T2)),rfl,?_,?_⟩
   ·rw [aZ]; have:=l9 ls (i:Int); have:=wb.most; omega
   ·rintro j z acc hz rfl
    obtain ⟨o,rfl,ho⟩:=gL hz
    have tk:=oC (p:=fun z=>decide (z ∈ T2)) ho
    have om:=fK.mp (T5 wb (bb4 ho))
    refine⟨_,rfl,_,rfl,_,_,_,rfl,rfl,Q5 om.1 om.2,_,rfl,?_⟩
    show if decide (o ∈ T2)=true then _ else _
    cases hm:decide (o ∈ T2) with
    | true=>
     rw [hm] at tk
     refine bI ⟨_,rfl,trivial,?_⟩
     dsimp only
     rw [tk,gM]; rfl
    | false=>
     rw [hm] at tk
     refine b6 ?_
     dsimp only
     rw [tk]; exact congrArg intz (bd0 _).symm
   rintro acc rfl
   rw [aZ,bc6]
   have ix:L2.atI (intz ws) (i:Int)=some (.int (ws.getD (i:Int).toNat 0)):=wB (by omega) (by omega)
   refine⟨_,_,rfl,rfl,trivial,?_⟩
   refine⟨_,rfl,_,rfl,_,_,_,rfl,rfl,Q5 (by omega) (by omega),_,rfl,?_⟩
   show if (!decide ((i:Int) ∈ T2))=true then _ else _
   have stay:kin ws ls T2 (i:Int)=false->∃ (T3:List Int) (g3:Bool) (y5 y6':Option Slot),[some (Slot.sh (flat (bH ws ls)) (bH ws ls)),some (.sh (flat x) x),some (.sh true (.lst (jI ws.length ls))),some (.own (.lst (dS ws.length T2))),some (.sh true (.bl g2)),si (i:Int),some (.sh true (.int (((bJ ls (i:Int)).filter fun z=>decide (z ∈ T2)).length:Nat)))] = [some (.sh (flat (bH ws ls)) (bH ws ls)),some (.sh (flat x) x),some (.sh true (.lst (jI ws.length ls))),some (.own (.lst (dS ws.length T3))),some (.sh true (.bl g3)),y5,y6']/\
     (∀ x ∈ ns,x ∈ T3)/\(∀ U,fN ws ls U->(∀ x ∈ ns,x ∈ U)->∀ x ∈ T3,x ∈ U)/\(g3=false->T3=T/\∀ j:Nat,j < i+1->kin ws ls T j=false)/\(g3=true->((rng ws.length).filter fun z=>!decide (z ∈ T3)).length < ((rng ws.length).filter fun z=>!decide (z ∈ T)).length):=fun hk=>by
    refine⟨T2,g2,_,_,rfl,sub2,le2,fun z=>?_,h1⟩
    obtain ⟨e,a⟩:=h0 z
    refine⟨e,fun j hj=>?_⟩
    by_cases je:j=i
    ·rw [je,<- e]; exact hk
    ·exact a j (by omega)
   by_cases hm:(i:Int) ∈ T2
   ·have hk:kin ws ls T2 (i:Int)=false:=by unfold kin; rw [ba2 hm]; rfl
    rw [ba2 hm]
    have:=stay hk
    refine b6 (b6 ?_)
    dsimp only
    rw [aZ]
    exact this
   ·rw [aZ8 hm]
    refine bI ⟨_,rfl,_,rfl,_,_,_,rfl,rfl,rfl,_,rfl,_,_,_,rfl,rfl,ix,_,_,rfl,rfl,_,rfl,?_⟩
    have ek:kin ws ls T2 (i:Int)=decide ((((bJ ls (i:Int)).filter fun z=>decide (z ∈ T2)).length:Int) >= ws.getD (i:Int).toNat 0):=by unfold kin; rw [aZ8 hm]; rfl
    dsimp only
    rw [aZ]
    rw [<- ek]
    cases hk:kin ws ls T2 (i:Int) with
    | false=>exact b6 (stay hk)
    | true=>
     refine bI ⟨_,rfl,_,rfl,_,i,rfl,?_,trivial,?_⟩
     ·unfold eQ
      rw [lW,if_pos (by omega),if_pos (by omega),be3]
     have bs:=aF8 (n:=ws.length) (S:=T2) (x:=(i:Int)) (by omega) (by omega)
     rw [be3] at bs
     rw [bs]
     refine⟨trivial,T2 ++ [(i:Int)],true,_,_,rfl,fun x hx=>be7 _ (sub2 x hx),fun U sU hU x hx=>?_,(fun z=>by cases z),fun _=>?_⟩
     ·rcases bb3.mp hx with hx | hx
      ·exact le2 U sU hU x hx
      ·rw [aZ4.mp hx]
       refine Classical.byContradiction fun hn=>?_
       have:=R8 hk (le2 U sU hU) hn
       rw [sU (i:Int) hr] at this; cases this
     ·have lt:((rng ws.length).filter fun z=>!decide (z ∈ T2 ++ [(i:Int)])).length < ((rng ws.length).filter fun z=>!decide (z ∈ T2)).length:=by
       have n1:((rng ws.length).filter fun z=>!decide (z ∈ T2 ++ [(i:Int)])).Nodup:=(S0 _).filter _
       have n2:(i:Int) ∉ (rng ws.length).filter fun z=>!decide (z ∈ T2 ++ [(i:Int)]):=fun z=>by
        have:=(bc5.mp z).2
        rw [ba2 (bc3 _ (List.mem_singleton_self _))] at this; cases this
       have:=(bn9.mpr ⟨n2,n1⟩).length_le_of_subset (l₂:=(rng ws.length).filter fun z=>!decide (z ∈ T2)) fun z hz=>by
        rcases aZ6.mp hz with e | hz
        ·rw [e]; exact bc5.mpr ⟨hr,by rw [aZ8 hm]; rfl⟩
        ·have h2:=bc5.mp hz
         refine bc5.mpr ⟨h2.1,?_⟩
         rw [aZ8 fun w=>?_]; rfl
         rw [ba2 (be7 _ w)] at h2; exact absurd h2.2 (by decide)
       rw [bd5] at this
       omega
      cases g2 with
      | true=>have:=h1 rfl; omega
      | false=>have e:=(h0 rfl).1; rw [e] at lt ⊢; exact lt
  ·rintro ρ ⟨T2,g2,y5,y6,rfl,sub2,le2,h0,h1⟩
   rw [eC,aZ,be3] at h0
   cases g2 with
   | true=>exact⟨_,by have:=h1 rfl; rw [if_pos rfl]; omega,T2,true,y5,y6,rfl,sub2,le2,(fun z=>by cases z),rfl⟩
   | false=>
    obtain ⟨e,sh2⟩:=h0 rfl
    subst e
    refine⟨_,by rw [if_pos rfl,if_neg (by decide)]; omega,T2,false,y5,y6,rfl,sub2,le2,(fun _ h hh=>?_),rfl⟩
    have hm:=fK.mp hh
    have:=sh2 h.toNat (by omega)
    rwa [show ((h.toNat:Nat):Int)=h by omega] at this
def rX:bD:=fun xs Q=>∃ ws ls x ns,xs = [bH ws ls,x]/\Wb ws ls/\cJ x ns/\(∀ x ∈ ns,x ∈ rng ws.length)/\Q (.bl (cB ws ls ns))
def Y0:aK:=(bK (gI (aF cM (a7 (dA (dH (aF rW (a7 (a5 0) (a7 (a5 1) aA)))) [none] (bS 0) (gH (lF (a5 0))) (a5 0)) aA)) (qC (.int 0))))
theorem aP4:cO Y0 ["web","seeds"] rX:=by
 rintro xs Q ⟨ws,ls,x,ns,rfl,wb,hx,inn,q⟩
 have few:=wb.few
 refine⟨_,rfl,_,rfl,ws,ls,x,ns,rfl,wb,hx,inn,fun T sh sub le=>?_⟩
 refine⟨_,rfl,(fun z=>by cases z),by rw [lW]; omega,fun i acc=>acc.length=(((rng ws.length).take i).filter fun z=>!decide (z ∈ T)).length,rfl,?_,?_⟩
 ·rintro i y acc hy e
  unfold dS at hy
  rw [ba1] at hy
  cases hz:(rng ws.length)[i]? with
  | none=>rw [hz] at hy; cases hy
  | some z=>
   rw [hz] at hy
   cases hy
   have tk:=oC (p:=fun z=>!decide (z ∈ T)) hz
   refine⟨_,rfl,_,rfl,?_⟩
   show if (!decide (z ∈ T))=true then _ else _
   cases hm:decide (z ∈ T) with
   | true=>
    rw [hm] at tk
    refine b6 ?_
    dsimp only
    rw [tk,e]; exact congrArg List.length (bd0 _).symm
   | false=>
    rw [hm] at tk
    refine bI ⟨_,rfl,trivial,?_⟩
    dsimp only
    rw [tk,ba8,ba8,e]; rfl
 ·intro acc e
  rw [lW,bd9 (by rw [fJ]; exact aZ3 _)] at e
  refine⟨_,_,rfl,rfl,.inl ⟨_,_,rfl,rfl,trivial,?_⟩⟩
  have ef:cB ws ls ns=decide ((acc.length:Int)=0):=by
   rw [bg9,bc0,X7 sh sub le,e]
   constructor
   ·intro a
    rw [List.filter_eq_nil_iff.mpr fun z hz=>by rw [ba2 (a z hz)]; decide]; rfl
   ·intro z h hh
    have nl:(rng ws.length).filter (fun z=>!decide (z ∈ T)) = []:=bj4 (by omega)
    have:=List.filter_eq_nil_iff.mp nl h hh
    simpa using this
  rw [ef] at q
  exact q
def rY:bD:=fun xs Q=>∃ (ms:List Int) (n:Nat),xs = [.tup (intz ms),.int n]/\bC n ms=true/\Q (.bl true)
def Y1 (K:PySem.W.Frag):aK:=(aL (cI (gH (aV (k6 K "tuple" (a5 0)))) (bK (qC (.bl false))) cX)
 (aL (aX 2 (nO (qC (.int 1))))
 (aL (eZ (dH (a5 0)) (bS 3)
  (aL (cI (j6 (gH (aV (aF qZ (a7 (a5 3) aA)))) (j6 (aV (qLe (a5 3) (a5 2))) (aV (vA (a5 3) (a5 1))))) (bK (qC (.bl false))) cX)
  (aX 2 (a5 3))))
 (bK (qC (.bl true))))))
theorem aP5 {K:PySem.W.Frag} (kt:PySem.W.kitOne K (.type "tuple") (.type "tuple")=some true):cO (Y1 K) ["found","many","last","hearth"] rY:=by
 rintro xs Q ⟨ms,n,rfl,hs,q⟩
 have up:=iP (dL hs).1
 refine⟨_,rfl,_,_,rfl,kt,_,rfl,b6 ?_⟩
 refine⟨_,rfl,trivial,?_⟩
 refine⟨_,rfl,_,rfl,jH (.inl rfl),fun i ρ=>∃ (l:Int) (y3:Option Slot),ρ = [some (.sh (flat (.tup (intz ms))) (.tup (intz ms))),si n,si l,y3]/\∀ h,ms[i]? = some h->l < h,⟨-1,none,rfl,fun h hh=>by have:=(dL hs).2 h (bb4 hh); omega⟩,?_,?_⟩
 ·rintro i y ρ hy ⟨l,y3,rfl,lo⟩
  obtain ⟨h,rfl,hh⟩:=gL hy
  have b:=(dL hs).2 h (bb4 hh)
  have l1:=lo h hh
  refine gZ ?_
  refine⟨_,rfl,h,rfl,_,rfl,b6 ⟨_,rfl,_,rfl,_,_,rfl,rfl,_,rfl,?_⟩⟩
  show if decide (h<=l)=true then _ else _
  rw [aZ8 (by omega)]
  refine b6 ⟨_,rfl,_,rfl,_,_,rfl,rfl,_,rfl,?_⟩
  show if decide (h >= (n:Int))=true then _ else _
  rw [aZ8 (by omega)]
  refine b6 ⟨_,rfl,trivial,h,_,rfl,fun h2 hh2=>?_⟩
  obtain ⟨i1,e1⟩:=aZ9.mp hh
  obtain ⟨i2,e2⟩:=aZ9.mp hh2
  have:=bd3.mp up i (i+1) i1 i2 (by omega)
  rw [e1,e2] at this; exact this
 ·rintro ρ ⟨l,y3,rfl,_⟩
  exact⟨trivial,q⟩
section
variable {ws : List Int} {ls : List (Int × Int)} {ns S : List Int}
theorem Y2:∀ k,(∀ j < k,nextOf ws ls (aY ws ls ns j) ≠ [])->k<=(aY ws ls ns k).length
 | 0,_=>be8 _
 | k+1,h=>by
  have ih:=Y2 k fun j hj=>h j (by omega)
  have:=List.length_pos_iff.mpr (h k (by omega))
  show k+1<=(aY ws ls ns k ++ nextOf ws ls (aY ws ls ns k)).length
  rw [ba8]; omega
theorem aP6 (ws:List Int) (ls:List (Int × Int)) (ns:List Int):∃ m,c8 ws ls ns m:=by
 have key:∀ k,(∃ m,c8 ws ls ns m) ∨ ∀ j < k,nextOf ws ls (aY ws ls ns j) ≠ []:=fun k=>by
  induction k with
  | zero=>exact .inr fun j hj=>(by omega)
  | succ k ih=>
   rcases ih with h | h
   ·exact .inl h
   ·by_cases e:nextOf ws ls (aY ws ls ns k) = []
    ·exact .inl ⟨k,h,e⟩
    ·exact .inr fun j hj=>if z:j=k then z ▸ e else h j (by omega)
 rcases key (ns.length+cold ws ns+1) with h | h
 ·exact h
 ·have:=Y2 _ h
  have:=w5 ws ls ns (ns.length+cold ws ns+1)
  omega
def rZ (ws:List Int) (ls:List (Int × Int)) (ns:List Int):List Int:=m8 ws ls (cP ws.length ns)
theorem aP7 (wb:Wb ws ls) {m:Nat} (en:c8 ws ls ns m):cP ws.length (aY ws ls ns m)=rZ ws ls ns:=
 aJ7 (aJ9 wb en) (V3 ws ls _) (wP _ _) (aM0 (wP _ _))
theorem x9:lX ws ls (cP ws.length ns) (rZ ws ls ns):=V3 ws ls _
theorem aP8 (wb:Wb ws ls) (hs:bC ws.length ns=true):cB ws ls ns=decide (rZ ws ls ns = []):=by
 obtain ⟨m,en⟩:=aP6 ws ls ns
 rw [aP2 hs en,aN1 hs,aP7 wb en]
end
theorem aP9 (ws:List Int) (ls:List (Int × Int)):cB ws ls (rng ws.length)=true:=x8.mpr fun _ _ hU h hh=>hU h hh
theorem aQ0 (n:Nat):bC n (rng n)=true:=wX.set ⟨aK4 n,fun x hx=>fK.mp hx⟩
end Core
namespace L2
open PySem PySem.Spec PyProof.Rows
theorem aQ1 {a b c:List Int} (h1:HT.aQ a b=true) (h2:HT.aQ b c=true):HT.aQ a c=true:=by
 cases e:HT.aQ a c with
 | true=>rfl
 | false=>
  have ca:=nD (jW h2) (jW h1)
  have:=u7 e ca
  subst this
  have:=jW h1
  rw [h2] at this; cases this
theorem xA {α:Type}{p q:α->Bool}:∀ {l:List α},(∀ x ∈ l,p x=true->q x=true)->(l.filter p).length<=(l.filter q).length
 | [],_=>aZ3 _
 | x :: l,h=>by
  have ih:=xA (l:=l) fun y hy=>h y (bb0 _ hy)
  have hx:=h x bb1
  rw [bg1,bg1]
  cases ep:p x with
  | false=>cases q x <;> simp <;> omega
  | true=>rw [hx ep]; simp; omega
theorem Y3 {α:Type}{p q:α->Bool}:∀ {l:List α},(∀ x ∈ l,p x=true->q x=true)->(∃ x ∈ l,q x=true/\p x=false)->(l.filter p).length < (l.filter q).length
 | [],_,e=>by obtain ⟨_,z,_⟩:=e; cases z
 | x :: l,h,e=>by
  have hx:=h x bb1
  have h':∀ y ∈ l,p y=true->q y=true:=fun y hy=>h y (bb0 _ hy)
  have le:=xA h'
  rw [bg1,bg1]
  obtain ⟨y,hy,qy,py⟩:=e
  rcases aZ6.mp hy with rfl | hy
  ·rw [qy,py]; simp; omega
  ·have ih:=Y3 h' ⟨y,hy,qy,py⟩
   cases ep:p x with
   | false=>cases q x <;> simp <;> omega
   | true=>rw [hx ep]; simp; omega
def kJ (ys:List (List Int)) (x:List Int):Nat:=(ys.filter fun y=>HT.aQ y x).length
theorem Y4 {ys:List (List Int)}{u v:List Int} (hu:u ∈ ys) (hv:v ∈ ys):HT.aQ u v=decide ((kJ ys u:Int) < (kJ ys v:Int)):=by
 have irr:∀ a:List Int,HT.aQ a a=false:=fun a=>by
  cases e:HT.aQ a a with
  | false=>rfl
  | true=>have:=jW e; rw [e] at this; cases this
 cases e:HT.aQ u v with
 | true=>
  have:kJ ys u < kJ ys v:=Y3 (fun x _ h=>aQ1 h e) ⟨u,hu,e,irr u⟩
  exact (ba2 (by omega)).symm
 | false=>
  have:kJ ys v<=kJ ys u:=xA fun x _ h=>by
   cases e2:HT.aQ x u with
   | true=>rfl
   | false=>have:=nD e2 e; rw [h] at this; cases this
  exact (aZ8 (by omega)).symm
end L2
namespace L2
open PySem PySem.Spec PyProof.Rows SO
section
variable {prog : Program} {w : World} {A : Around} {E : Value → Shared → Prop} {s : Shared}
theorem aQ2 {l b:Addr}{items items2:Array Value}{ns ms:List Int}{Q:Bool->Shared->Prop} (hl:IsTup s.heap l items) (hb:IsTup s.heap b items2) (hi:IntsAre items.toList ns) (hj:IntsAre items2.toList ms) (hu:A.units < cLine) (h:Q (HT.aQ ns ms) s):wpAny (model prog w) A (oneLt' true (.ref l) (.ref b)) Q E s:=by
 obtain ⟨⟨cls,dd,data,sl⟩,ho,hc,n,hd⟩:=id hl
 obtain ⟨⟨cls2,dd2,data2,sl2⟩,ho2,hc2,n2,hd2⟩:=id hb
 simp only at hc hd hc2 hd2
 subst hc hd hc2 hd2
 rw [oneLt'_eq]
 simp only [if_true]
 refine aY9 (wpAny_cRoomFor hu ?_)
 refine aY9 (wpAny_callSpecialIfBound?_slot (T:="tuple") ⟨_,ho,rfl⟩ PySem.F.slot_tuple_lt (call_meets PySem.F.slot_tuple_lt ⟨_,ho,rfl⟩ PySem.F.entry_tuple_lt (PySem.F.args_tuple_lt_2 _ _) (HT.zB l b items items2 n n2 dd dd2 sl sl2 ns ms hi hj) ⟨ho,ho2,?_⟩))
 exact bh6 h
structure eJ (h:Heap) (v:Value) (ns:List Int):Prop where
 at_:∃ b ob us n,v = .ref b/\h.get? b=some ob/\ob.cls = .type "tuple"/\ob.data = .seq (List.toArray us) n/\IntsAre us ns
def xB (h:Heap) (v:Value):List Int:=match v with
 | .ref b=>match h.get? b with
  | some ob=>match ob.data with
   | .seq us _=>us.toList.map numOf
   | _=>[]
  | none=>[]
 | _=>[]
theorem Y5:∀ {us:List Value}{ns:List Int},IntsAre us ns->us.map numOf=ns
 | _,_,.nil=>rfl
 | _,_,.cons _ _ h=>by rw [be9,Y5 h]; rfl
theorem eJ.ints {h:Heap}{v:Value}{ns:List Int} (z:eJ h v ns):xB h v=ns:=by
 obtain ⟨b,ob,us,n,rfl,e2,_,e4,e5⟩:=z.at_
 unfold xB
 dsimp only
 rw [e2]; dsimp only
 rw [e4]; exact Y5 e5
def sA (h:Heap) (ys:List (List Int)) (x:Keyed):Int:=(kJ ys (xB h x.1):Int)
theorem aQ3 (ys:List (List Int)) (hu:A.units < cLine):bT prog w A E s oneType' (fun x=>∃ ns ∈ ys,eJ s.heap x.1 ns) (sA s.heap ys):=by
 rintro x y ⟨ns,m1,z⟩ ⟨ms,m2,z'⟩ st Q hk hq
 unfold sA at hq
 rw [z.ints,z'.ints,<- Y4 m1 m2] at hq
 obtain ⟨b,ob,us,n,e1,e2,e3,e4,e5⟩:=z.at_
 obtain ⟨b',ob',us',n',e1',e2',e3',e4',e5'⟩:=z'.at_
 rw [lt'_eq]
 refine ba0 (wpS_get ?_)
 rw [hk,e1,e1',keyLt'_oneType]
 refine ba0 (wpS_lift (wpAny_attempt (aQ2 (items:=us.toArray) (items2:=us'.toArray) ⟨_,e2,e3,_,e4⟩ ⟨_,e2',e3',_,e4'⟩ (by simpa using e5) (by simpa using e5') hu ?_)))
 exact⟨rfl,ba9 hq⟩
def mE (h:Heap) (v:Value):Option Value:=match v with
 | .ref b=>match h.get? b with
  | some ob=>match ob.data with
   | .seq us _=>us[0]?
   | _=>none
  | none=>none
 | _=>none
theorem eJ.first {h:Heap}{v:Value} (z:eJ h v []):mE h v=none:=by
 obtain ⟨b,ob,us,n,rfl,e2,_,e4,e5⟩:=z.at_
 cases e5
 unfold mE
 dsimp only
 rw [e2]; dsimp only
 rw [e4]; rfl
end
section
variable {M : Model} {A : Around} {E : Value → Shared → Prop} {s : Shared}
theorem Y6:∀ (vs:List Value) {Q:List (Option Value)->Shared->Prop},(∀ v ∈ vs,∃ ns,eJ s.heap v ns)->Q (vs.map (mE s.heap)) s->wpAny M A (vs.mapM firstOfTuple') Q E s
 | [],_,_,h=>by rw [List.mapM_nil]; exact aZ5 h
 | v :: vs,Q,t,h=>by
  obtain ⟨ns,z⟩:=t v bb1
  obtain ⟨b,ob,us,n,rfl,e2,e3,e4,e5⟩:=z.at_
  have ef:mE s.heap (.ref b)=us.toArray[0]?:=by
   unfold mE
   dsimp only
   rw [e2]; dsimp only
   rw [e4]
  rw [List.mapM_cons]
  refine aY9 ?_
  rw [PySem.W.kas_first_eq]
  refine aY9 (PySem.W.Looks.here (show PySem.W.Looks M s.heap (typeOf (.ref b)) ob.cls from (PySem.W.Looks.ld e2).andThen .now) ?_)
  rw [e3,if_neg (by first | decide | simp)]
  refine aY9 (listItems_at e2 e4 (aZ5 ?_))
  rw [<- ef]
  exact aY9 (Y6 vs (Q:=fun bs s'=>wpAny M A (pure (mE s.heap (.ref b) :: bs)) Q E s') (fun y hy=>t y (bb0 _ hy)) (aZ5 h))
theorem aQ4 {v:Value}{vs:List Value}{Q:SortKind->Shared->Prop} (t:∀ y ∈ v :: vs,∃ ns,eJ s.heap y ns) (t0:eJ s.heap v []) (h:Q oneType' s):wpAny M A (keyKind' (v :: vs).toArray) Q E s:=by
 rw [keyKind'_eq,List.mapM_toArray,map_eq_pure_bind]
 refine aY9 (aY9 (Y6 _ t (aZ5 ?_)))
 rw [be9,t0.first,if_neg (by simp),if_neg (by simp)]
 rw [oneTypeOnly'_eq,List.mapM_toArray,map_eq_pure_bind]
 refine aY9 (aY9 (aY9 (PySem.W.kas_mapM (r:=Value.type "tuple") _ (fun y hy Q' hq=>?_) (aZ5 ?_))))
 ·obtain ⟨ns,z⟩:=t y (by simpa using hy)
  obtain ⟨b,ob,us,n,rfl,e2,e3,e4,e5⟩:=z.at_
  refine PySem.W.Looks.here (show PySem.W.Looks M s.heap (typeOf (.ref b)) ob.cls from (PySem.W.Looks.ld e2).andThen .now) ?_
  rw [e3]; exact hq
 ·have hall2:((List.map (fun _=>Value.type "tuple") (v :: vs)).toArray.all fun x=>x == Value.type "tuple")=true:=by
   simp only [List.all_toArray,List.all_map,bi2]
   intro _ _
   rfl
  have h0:(List.map (fun _=>Value.type "tuple") (v :: vs)).toArray[0]? = some (Value.type "tuple"):=by simp
  rw [h0]
  simp only [hall2,if_true]
  exact aZ5 (aZ5 h)
end
theorem aQ5 {prog:Program}{w:World}{A:Around}{E:Value->Shared->Prop}{s:Shared}{l:Addr}{vs:List Value}{Q:Value->Shared->Prop}{κ:SortKind}{Ok:Keyed->Prop}{rk:Keyed->Int}
  (hl:s.heap.IsList l vs.toArray) (h2:2<=vs.length) (big:vs.length<=sizeLine)
  (hk:∀ (A:Around) (E:Value->Shared->Prop) (Q:SortKind->Shared->Prop),Q κ { s with heap:=cD (cA s.heap vs) (s.heap.objs.size+1) vs }->wpAny (model prog w) A (keyKind' vs.toArray) Q E { s with heap:=cD (cA s.heap vs) (s.heap.objs.size+1) vs })
  (hu:A.units+3 < cLine) (c:∀ (A:Around) (E:Value->Shared->Prop),A.units < cLine->bT prog w A E { s with heap:=cD (cA s.heap vs) (s.heap.objs.size+1) vs } κ Ok rk) (o:∀ v ∈ vs,Ok (v,v))
  (q:∀ out:List Value,out.Perm vs->out.Pairwise (fun u v=>rk (u,u)<=rk (v,v))->Q (.ref (s.heap.objs.size+1)) { s with heap:=sortedAll s.heap vs out.toArray }):wpAny (model prog w) A (call (.builtin "sorted") [.ref l]) Q E s:=by
 apply Calls.call_function_entry kind_sorted plain_sorted entry_sorted (args_sorted1 _)
 simp only [Builtin.«sorted»]
 apply aY9 (m:=checkCount "sorted" 1 1 _)
 apply aZ5
 apply aY9
 refine collect_list hl ?_ big
 apply aY9
 refine wpAny_newList ?_ big
 have one:((s.heap.push (seqObj "list" #[] 0)).update s.heap.objs.size (Obj.mapSeq (· ++ vs.toArray))).objs.size=s.heap.objs.size+1:=(Heap.size_update _ _ _).trans (size_push' _ _)
 have at1:(cA s.heap vs).get? (s.heap.objs.size+1)=some (seqObj "list" vs.toArray 0):=one ▸ bb2 _ rfl
 change wpAny _ _ _ _ _ { s with heap:=cA s.heap vs }
 rw [one]
 apply aY9
 apply bh7
 refine bi1 slot_list_sort ⟨_,at1,rfl⟩ entry_list_sort ?_ (args_list_sort _)
 exact N7 (s:={ s with heap:=cA s.heap vs }) at1 h2 big (hk _ _) (c _ _ (by show A.units+2 < cLine; omega)) o fun out a1 a2=>⟨_,rfl,aZ5 ⟨_,rfl,q out a1 a2⟩⟩
def Y7 (K:PySem.W.Frag):List V->Hp->VK->Prop:=fun xs H Q=>∃ (a:Addr) (ys:List V) (key:V->List Int),xs = [.ref a]/\aG K H a ys/\ys.length<=4096/\(∀ y ∈ ys,∃ b,y = .ref b/\aD K H b ((key y).map V.int))/\(∀ y,ys.head? = some y->key y = [])/\
 ∀ l (zs:List V),H l=none->zs.Perm ys->zs.Pairwise (fun u v=>HT.aQ (key v) (key u)=false)->Q (.ref l) (upd H l (.lst zs))
theorem aQ6 {X:Cx} (hu:X.A.units+3 < cLine):cK X (.builtin "sorted") (Y7 X.K):=by
 intro pins s σ H xs us Q I r h
 obtain ⟨a,ys,key,rfl,hs,hz4,hk,h0,q⟩:=h
 obtain ⟨u,rfl,ru⟩:=fY r
 cases ru
 obtain ⟨its,rv,p,hz⟩:=I.list hs
 have hl:=rv.length
 have hn:s.heap.objs.size<=s.heap.objs.size+1:=Nat.le_succ _
 by_cases h2:its.length < 2
 ·refine B9 p.isList h2 ?_
  obtain ⟨e,he⟩:=sortedAll_at s.heap its its.toArray
  refine⟨.ref (s.heap.objs.size+1),upd H (s.heap.objs.size+1) (.lst ys),I.laid (t':=s.toks) (fun _ _=>sortedAll_old) hn ⟨hz,its,e,rv,he⟩,rfl,q _ ys (I.hok.fresh hn) (List.Perm.refl _) ?_⟩
  match ys,hl with
  | [],_=>exact bo0
  | [_],_=>exact bf5 _ _
  | _ :: _ :: _,hl=>simp at hl; omega
 ·have pv:∀ {y:V}{v:Value},aO y v->y ∈ ys->eJ (cD (cA s.heap its) (s.heap.objs.size+1) its) v (key y):=fun {y v} ry hy=>by
   obtain ⟨b,rfl,sq⟩:=hk y hy
   cases ry
   obtain ⟨us,ru,⟨ob,e1,c1,n1,d1⟩,_⟩:=I.tuple sq
   exact⟨b,ob,us,n1,rfl,N6 (bc7 (Nat.lt_succ_of_lt (ba4 e1))) (N5 e1),c1,d1,oX ru⟩
  have pvs:∀ {xs:List V}{vs:List Value},aH xs vs->(∀ y ∈ xs,y ∈ ys)->∀ v ∈ vs,∃ ns ∈ ys.map key,eJ (cD (cA s.heap its) (s.heap.objs.size+1) its) v ns:=by
   intro xs vs r
   induction r with
   | nil=>intro _ v hv; cases hv
   | cons rx rt ih=>
    intro hh v hv
    rcases aZ6.mp hv with z | z
    ·subst z
     exact⟨_,be0.mpr ⟨_,hh _ bb1,rfl⟩,pv rx (hh _ bb1)⟩
    ·exact ih (fun y hy=>hh y (bb0 _ hy)) v z
  have allp:=pvs rv fun _ h=>h
  obtain ⟨v0,vr,ev⟩:∃ v0 vr,its=v0 :: vr:=by
   cases its with
   | nil=>simp at h2
   | cons v0 vr=>exact⟨v0,vr,rfl⟩
  have t0:eJ (cD (cA s.heap its) (s.heap.objs.size+1) its) v0 []:=by
   cases rv with
   | nil=>cases ev
   | cons rx rt=>
    cases ev
    have:=pv rx bb1
    rwa [h0 _ rfl] at this
  refine aQ5 (κ:=oneType') (Ok:=fun x=>∃ ns ∈ ys.map key,eJ (cD (cA s.heap its) (s.heap.objs.size+1) its) x.1 ns) (rk:=sA (cD (cA s.heap its) (s.heap.objs.size+1) its) (ys.map key)) p.isList (by omega) (by rw [<- hl]; exact hz)
   (fun A E Q hQ=>?_) hu (fun A E hA=>aQ3 (s:={ s with heap:=cD (cA s.heap its) (s.heap.objs.size+1) its }) (ys.map key) hA) (fun v hv=>allp v hv) fun out pm so=>?_
  ·have tt:∀ y ∈ its,∃ ns,eJ (cD (cA s.heap its) (s.heap.objs.size+1) its) y ns:=fun y hy=>(allp y hy).imp fun _ z=>z.2
   have:=aQ4 (M:=model X.prog X.w) (A:=A) (E:=E) (s:={ s with heap:=cD (cA s.heap its) (s.heap.objs.size+1) its }) (v:=v0) (vs:=vr) (Q:=Q) (by rw [<- ev]; exact tt) t0 hQ
   rw [<- ev] at this
   exact this
  ·obtain ⟨zs,pz,rz⟩:=N9 pm.symm rv
   obtain ⟨e,he⟩:=sortedAll_at s.heap its out.toArray
   refine⟨.ref (s.heap.objs.size+1),upd H (s.heap.objs.size+1) (.lst zs),I.laid (t':=s.toks) (fun _ _=>sortedAll_old) hn ⟨by rw [pz.length_eq]; exact hz,out,e,rz,he⟩,rfl,q _ zs (I.hok.fresh hn) pz ?_⟩
   have lz:=rz.length
   rw [bd3]
   intro i j hi hj hij
   have s1:=bd3.mp so i j (by omega) (by omega) hij
   have gi:=nC i hi rz
   have gj:=nC j hj rz
   simp only [aZ7,aZ0 hi,aZ0 hj,aZ0 (show i < out.length by omega),aZ0 (show j < out.length by omega),Option.getD_some] at gi gj
   have mi:=pz.mem_iff.mp (bj1 hi)
   have mj:=pz.mem_iff.mp (bj1 hj)
   have vi:=pv gi mi
   have vj:=pv gj mj
   unfold sA at s1
   rw [eJ.ints vi,eJ.ints vj] at s1
   rw [Y4 (be0.mpr ⟨_,mj,rfl⟩) (be0.mpr ⟨_,mi,rfl⟩)]
   exact aZ8 (by omega)
end L2
namespace PP
open PySem L2
section
variable {X : Cx} {e : Expr} {tr : cH} {pos p2 : Pos}
def xC:List PV->(PV->Prop)->Prop:=fun xs Q=>∃ ys:List (List Int),xs = [.lst (ys.map fun r=>PV.tup (intz r))]/\ys.length<=4096/\(∀ y,ys.head? = some y->y = [])/\∀ zs:List (List Int),zs.Perm ys->zs.Pairwise (fun u v=>HT.aQ v u=false)->Q (.lst (zs.map fun r=>PV.tup (intz r)))
theorem aQ7:eV X xC (Y7 X.K):=by
 rintro H vs xs Q Q' r ⟨ys,rfl,hl,hne,q⟩ k
 obtain ⟨v,rfl,r1⟩:=r.one
 obtain ⟨a,us,rfl,_,h,r2⟩:=r1.sqL
 obtain ⟨h1,h2⟩:=wE r2
 have lr:=r2.length
 rw [ba3] at lr
 refine⟨a,us,iU H,rfl,aG.of h,by omega,fun y hy=>?_,fun y hy=>?_,fun l zs hl' pm so=>?_⟩
 ·obtain ⟨b,rfl,hb⟩:=h2 y hy
  exact⟨b,rfl,aD.of hb⟩
 ·refine hne _ ?_
  rw [<- h1,List.head?_map,hy]; rfl
 ·have hz:∀ u ∈ zs,∃ b,u = .ref b/\H b=some (.tup ((iU H u).map V.int)):=fun u hu=>h2 u (pm.mem_iff.mp hu)
  refine k _ _ _ (b7 hl' _) (.lst hl' b9 ((wF hz).same (b7 hl' _) fun _ z=>z)) (q _ ?_ ?_)
  ·rw [<- h1]; exact pm.map _
  ·rw [bj5]; exact so
theorem aQ8 (B:Bt X.mg) (hu:X.A.units+3 < cLine) (ha:QA X [e] tr) (hg:Gl X "sorted":=by rfl) (he:starEach [e] X.env=(false,eval e X.env) :: starEach [] X.env:=by rfl) (hpl:(backTo pos (starEach [] X.env)).any (·.1)=false:=by rfl):QE X (.Call (.Name "sorted" p2) [e] [] pos) (aF xC tr):=
 iL (aQ6 hu) aQ7 hg B.sorted PyProof.Rows.boot_sorted ha (he:=he) (hpl:=hpl)
end
end PP
namespace Core
open PySem L2 PP
theorem aQ9 (n:Nat) (S:List Int) (h:(n:Int) ∉ S):cP (n+1) S=cP n S ++ [(n:Int)]:=by
 unfold cP
 rw [iW,List.filter_append]
 congr 1
 rw [bg1,aZ8 h]; rfl
theorem aR0 (n:Nat) (S:List Int):cP (n+1) (S ++ [(n:Int)])=cP n S:=by
 unfold cP
 rw [iW,List.filter_append]
 have e1 : [(n:Int)].filter (fun x=>!decide (x ∈ S ++ [(n:Int)])) = []:=by
  rw [bg1,ba2 (bb3.mpr (.inr (aZ4.mpr rfl)))]; rfl
 rw [e1,bd0]
 refine List.filter_congr fun x hx=>?_
 have:=(fK.mp hx).2
 rw [decide_eq_decide.mpr (show x ∈ S ++ [(n:Int)] ↔ x ∈ S from ⟨fun z=>(bb3.mp z).elim id fun y=>by have:=aZ4.mp y; omega,fun z=>bb3.mpr (.inl z)⟩)]
theorem xD:∀ (n p:Nat) (S:List Int),(aW (rng n))[p]? = some S->(aW (rng n))[2 ^ n - 1 - p]? = some (cP n S)
 | 0,p,S,h=>by
  have h:([[]]:List (List Int))[p]? = some S:=h
  cases p with
  | zero=>cases h; rfl
  | succ p=>cases h
 | n+1,p,S,h=>by
  have len:(aW (rng n)).length=2 ^ n:=kH n
  rw [iW,hG] at h ⊢
  have pw:2 ^ (n+1)=2 ^ n+2 ^ n:=by rw [Nat.pow_succ]; omega
  have p1:1<=2 ^ n:=Nat.one_le_two_pow
  by_cases hp:p < 2 ^ n
  ·rw [bd2 (by omega)] at h
   have ih:=xD n p S h
   have nS:(n:Int) ∉ S:=fun z=>by have:=(m9 n p S h).1 _ z; omega
   rw [be2 (by omega),len,ba1,show 2 ^ (n+1) - 1 - p - 2 ^ n=2 ^ n - 1 - p by omega,ih,aQ9 n S nS]; rfl
  ·rw [be2 (by omega),len,ba1] at h
   cases e:(aW (rng n))[p - 2 ^ n]? with
   | none=>rw [e] at h; cases h
   | some T=>
    rw [e] at h
    cases h
    have ih:=xD n (p - 2 ^ n) T e
    have lt:p - 2 ^ n < 2 ^ n:=by have:=(aZ9.mp e).1; omega
    rw [bd2 (by omega),show 2 ^ (n+1) - 1 - p=2 ^ n - 1 - (p - 2 ^ n) by omega,ih,aR0]
theorem aR1 {ws:List Int}{ls:List (Int × Int)}{S:List Int} (wb:Wb ws ls) (hs:bC ws.length S=true):cB ws ls S=true ↔ ¬ HC ws ls (cP ws.length S):=by
 rw [aP8 wb hs,bc0]
 refine⟨fun e ⟨U,cU,nU,sU⟩=>nU ?_,fun h=>Classical.byContradiction fun ne=>h ⟨rZ ws ls S,x9.cold,ne,x9.sub⟩⟩
 refine List.eq_nil_iff_forall_not_mem.mpr fun x hx=>?_
 have:=x9.most U cU sU x hx
 rw [e] at this; cases this
noncomputable def eL (ws:List Int) (ls:List (Int × Int)):List (List Int):=(aW (rng ws.length)).filter (cB ws ls)
def sB:dM:=fun Ep xs Q=>∃ ws ls,xs = [bH ws ls]/\Wb ws ls/\(ws.length<=12->Q (.lst (tups (eL ws ls))))/\(12 < ws.length->Ep "TooMany")
def Y8 (Ep:Str->Prop):aK:=(aL (aX 1 (jJ Ep rP (a7 (a5 0) aA)))
 (aL (aX 2 (jJ Ep rQ (a7 (a5 0) (a7 (a5 1) aA))))
 (aL (aX 3 (k7 (aF cM (a7 (a5 1) aA)) (qC (.int 1))))
 (bK (dA (wM (a5 1)) [none,none,some 2,some 3] (uV 0 1) (gH (lF (bG (a5 2) (k7 (a5 3) (a5 0))))) (a5 1))))))
theorem aR2:kG Y8 ["web","chosen","holds","last"] sB:=by
 rintro Ep xs Q ⟨ws,ls,rfl,wb,q,qe⟩
 refine⟨_,rfl,ws,ls,rfl,wb.few,fun few=>⟨trivial,?_⟩,qe⟩
 have q:=q few
 have ln:=kH ws.length
 have l12:2 ^ ws.length<=4096:=bd4 (bm2 (by decide) few) (by decide)
 refine⟨_,rfl,_,rfl,ws,ls,rfl,wb,few,fun bs bl hb=>⟨trivial,?_⟩⟩
 refine⟨_,rfl,_,_,rfl,rfl,_,_,rfl,rfl,trivial,?_⟩
 unfold eL at q
 have key:∀ i S,(aW (rng ws.length))[i]? = some S->cB ws ls S = !bs.getD (2 ^ ws.length - 1 - i) false:=fun i S e=>by
  have hs:=oN.mp ((mB ws.length S).mp (bb4 e))
  have h1:=hb _ _ (xD ws.length i S e)
  have h2:=aR1 wb hs
  cases b:bs.getD (2 ^ ws.length - 1 - i) false with
  | true=>
   have:=h1.mp b
   cases f:cB ws ls S with
   | false=>rfl
   | true=>exact absurd this (h2.mp f)
  | false=>exact h2.mpr fun z=>by rw [h1.mpr z] at b; cases b
 generalize aW (rng ws.length)=C at *
 refine⟨_,rfl,_,.inl rfl,(fun z=>by cases z),by rw [rA,eI]; omega,fun i acc=>acc=tups ((C.take i).filter (cB ws ls)),rfl,?_,?_⟩
 ·rintro i y acc hy rfl
  obtain ⟨y,hy2,rfl⟩:=aH7 hy
  obtain ⟨S,rfl,hS⟩:=oE hy2
  have il:=(aZ9.mp hS).1
  have tk:=oC (p:=cB ws ls) hS
  have ix:L2.atI (fC bs) (((tups C).length:Int) - 1 - (i:Int))=some (.bl (bs.getD (2 ^ ws.length - 1 - i) false)):=by
   rw [eI,ln]
   have:=iZ (xs:=fC bs) (j:=2 ^ ws.length - 1 - i) (v:=.bl (bs.getD (2 ^ ws.length - 1 - i) false)) (by show (List.map PV.bl bs)[_]? = _; rw [ba1,aZ7,aZ0 (by omega)]; rfl)
   rwa [show ((2 ^ ws.length - 1 - i:Nat):Int)=((2 ^ ws.length:Nat):Int) - 1 - (i:Int) by omega] at this
  refine⟨_,_,rfl,_,rfl,_,rfl,_,rfl,_,_,rfl,rfl,_,_,_,rfl,rfl,ix,_,rfl,?_⟩
  rw [key i S hS] at tk
  cases hbi:bs.getD (2 ^ ws.length - 1 - i) false with
  | true=>
   rw [hbi] at tk
   refine b6 ?_
   dsimp only
   rw [tk]; simp
  | false=>
   rw [hbi] at tk
   refine bI ⟨_,rfl,aM2 _ (qU S),?_⟩
   dsimp only
   rw [tk]
   unfold tups
   rw [bc2]; rfl
 rintro acc rfl
 rw [rA,eI,bc6]
 exact⟨trivial,q⟩
theorem xE {ws:List Int}{ls:List (Int × Int)}{S:List Int}:S ∈ eL ws ls ↔ bC ws.length S=true/\cB ws ls S=true:=by
 unfold eL
 rw [bc5,mB,oN]
theorem Y9 (ws:List Int) (ls:List (Int × Int)):eL ws ls ≠ []:=fun z=>by
 have:=xE.mpr ⟨aQ0 ws.length,aP9 ws ls⟩
 rw [z] at this; cases this
theorem aR3 {ws:List Int}{ls:List (Int × Int)} (few:ws.length<=12):(eL ws ls).length<=4096:=by
 have:=List.length_filter_le (cB ws ls) (aW (rng ws.length))
 have ln:=kH ws.length
 have:2 ^ ws.length<=4096:=bd4 (bm2 (by decide) few) (by decide)
 unfold eL
 omega
def sC:bD:=fun xs Q=>∃ n:Nat,xs = [.int n]/\n<=12/\∀ Z:List (List Int),Z.Perm (aW (rng n))->Z.Pairwise (fun u v=>HT.aQ v u=false)->Q (.lst (tups Z))
def Z0:aK:=(aL (aX 1 (eU (a7 (fU aA) aA)))
 (aL (eZ (iG (a5 0)) (bS 2)
  (aX 1 (r9 (a5 1) (dA (dH (a5 1)) [none,some 2] (bS 0) dZ (wO (a5 0) (fU (a7 (a5 1) aA)))))))
 (bK (aF xC (a7 (a5 1) aA)))))
theorem aR4:cO Z0 ["many","sets","hearth"] sC:=by
 rintro xs Q ⟨n,rfl,hn,q⟩
 have ln:=kH n
 have l12:2 ^ n<=4096:=bd4 (bm2 (by decide) hn) (by decide)
 refine⟨by decide,rfl,by show 1<=1000; decide,rfl,trivial,?_⟩
 refine⟨_,rfl,(n:Int),rfl,by omega,by omega,fun i ρ=>∃ y,ρ = [some (.sh true (.int (n:Int))),some (.sh true (.lst (tups (aW (rng i))))),y] , ⟨none,rfl⟩,?_,?_⟩
 ·rintro i y ρ hy ⟨y2,rfl⟩
  obtain ⟨rfl,hi⟩:=iQ hy
  have hi:i < n:=by omega
  have li:=kH i
  have l12i:2 ^ i<=4096:=bd4 (bm2 (by decide) (show i<=12 by omega)) (by decide)
  refine gZ ?_
  rw [Int.zero_add]
  have sh:∀ S ∈ aW (rng i),S.length<=12:=fun S hS=>by
   have:=oG (n:=i) (oN.mp ((mB i S).mp hS))
   omega
  have nx:aW (rng (i+1))=aW (rng i) ++ (aW (rng i)).map fun p=>p ++ [(i:Int)]:=by rw [iW,hG]
  generalize aW (rng i)=A at *
  refine⟨_,rfl,_,rfl,_,rfl,(fun z=>by cases z),by rw [eI]; omega,fun j acc=>acc=tups ((A.take j).map fun p=>p ++ [(i:Int)]),rfl,?_,?_⟩
  ·rintro j z acc hz rfl
   obtain ⟨S,rfl,hS⟩:=oE hz
   have sl:=sh S (bb4 hS)
   refine⟨_,rfl,_,rfl,by show 1<=1000; decide,rfl,intz S,intz [(i:Int)],rfl,rfl,cZ _,cZ _,by rw [aZ]; show S.length+1<=_; omega,?_⟩
   rw [<- gM]
   refine⟨trivial,?_⟩
   dsimp only
   rw [bd6,hS,bc2]
   unfold tups
   rw [bc2]; rfl
  rintro acc rfl
  rw [eI,bc6]
  refine⟨_,_,rfl,rfl,oF _,oF _,by rw [eI,eI,ba3]; omega,trivial,?_⟩
  refine⟨si i,?_⟩
  rw [nx]
  unfold tups
  rw [bc2]; rfl
 ·rintro ρ ⟨y,rfl⟩
  rw [eC,be3]
  refine⟨_,rfl,aW (rng n),rfl,by omega,fun y hy=>?_,fun Z pz so=>⟨trivial,q Z pz so⟩⟩
  have h0:(aW (rng n))[0]? = some y:=by rw [<- List.head?_eq_getElem?]; exact hy
  exact ((m9 n 0 y h0).2.1).mp rfl
abbrev sD:bD:=X3 7
abbrev Z1:aK:=X6 rL
theorem aR5:cO Z1 ["script","most","many","sparse","digits","cells","k","links","counts","other","number","one","draw","wants"] sD:=aO9 (by decide) fun m h=>aP0 (by omega)
def gP (n:Nat) (ps:List Int):Prop:=ps.length=n/\∀ w ∈ ps,0<=w
def sE:dM:=fun Ep xs Q=>∃ (x:PV) (ns:List Int) (m:Nat),xs = [x,.int m]/\cJ x ns/\ns.length<=1000/\m<=1000000/\(gP m ns->Q (.tup (intz ns)))/\(¬ gP m ns->Ep "BadPrices")
def Z2 (Ep:Str->Prop):aK:=(aL (cI (aV (qNe (aF cM (a7 (a5 0) aA)) (a5 1))) (lZ Ep "BadPrices" (a7 (qC (.str "there is one price for each")) aA)) cX)
 (aL (cI (aV (aF rE (a7 (dA (dH (a5 0)) [none] (bS 0) dZ (nR (a5 0) (qC (.int 0)))) aA))) (lZ Ep "BadPrices" (a7 (qC (.str "no price is below 0")) aA)) cX)
 (bK (aF k8 (a7 (a5 0) aA)))))
theorem aR6:kG Z2 ["prices","many"] sE:=by
 rintro Ep xs Q ⟨x,ns,m,rfl,hx,hl,hm,q,qe⟩
 refine⟨_,rfl,_,_,rfl,hx.len,_,rfl,.inl ⟨_,_,rfl,rfl,_,rfl,?_⟩⟩
 show if (!decide ((ns.length:Int)=(m:Int)))=true then _ else _
 by_cases hlm:ns.length=m
 ·rw [ba2 (by omega)]
  refine b6 ⟨_,rfl,_,hx.seq,jH hx,by rw [aZ]; omega,fun i acc=>acc=((ns.take i).map fun n=>PV.bl (decide (n < 0))),rfl,?_,?_⟩
  ·rintro i y acc hy rfl
   obtain ⟨n,rfl,hn⟩:=gL hy
   refine⟨_,rfl,_,_,rfl,rfl,trivial,?_⟩
   dsimp only
   rw [bd6,hn,bc2]; rfl
  ·rintro acc rfl
   rw [aZ,bc6]
   refine⟨ns.map fun n=>decide (n < 0),by rw [bo3]; rfl,_,rfl,?_⟩
   by_cases hp:∀ w ∈ ns,0<=w
   ·have:(ns.map fun n=>decide (n < 0)).any id=false:=by
     rw [List.any_map,List.any_eq_false]
     intro x hx
     have:=hp x hx
     simp; omega
    rw [this]
    exact b6 ⟨_,rfl,⟨_,_,rfl,hx.seqT,cZ _,trivial,q ⟨hlm,hp⟩⟩,hx.noscr⟩
   ·have:(ns.map fun n=>decide (n < 0)).any id=true:=by
     obtain ⟨w,hw⟩:=Classical.not_forall.mp hp
     obtain ⟨h1,h2⟩:=Classical.not_imp.mp hw
     rw [List.any_map,List.any_eq_true]
     exact⟨w,h1,by simp; omega⟩
    rw [this]
    exact bI ⟨by show 1<=1000; decide,qe fun z=>hp z.2⟩
 ·rw [aZ8 (by omega)]
  exact bI ⟨by show 1<=1000; decide,qe fun z=>hlm z.1⟩
def cE (ps S:List Int):Int:=(S.map fun s=>ps.getD s.toNat 0).sum
def sF:bD:=fun xs Q=>∃ p x ps S,xs = [p,x]/\cJ p ps/\cJ x S/\S.length<=1000/\(∀ s ∈ S,0<=s/\s < (ps.length:Int))/\Q (.int (cE ps S))
def Z3:aK:=(bK (aF rD (a7 (dA (dH (a5 1)) [none,some 0] (bS 0) dZ (bG (a5 1) (a5 0))) aA)))
theorem aR7:cO Z3 ["prices","some"] sF:=by
 rintro xs Q ⟨p,x,ps,S,rfl,hp,hx,hS,inn,q⟩
 refine⟨_,rfl,_,hx.seq,jH hx,by rw [aZ]; omega,fun i acc=>acc=intz ((S.take i).map fun s=>ps.getD s.toNat 0),rfl,?_,?_⟩
 ·rintro i y acc hy rfl
  obtain ⟨n,rfl,hn⟩:=gL hy
  have nn:=inn n (bb4 hn)
  have ix:L2.atI (intz ps) n=some (.int (ps.getD n.toNat 0)):=by
   have hl:n.toNat < ps.length:=by omega
   have:=iZ (xs:=intz ps) (j:=n.toNat) (v:=.int (ps.getD n.toNat 0)) (by show (List.map PV.int ps)[_]? = _; rw [ba1,aZ7,aZ0 hl]; rfl)
   rwa [Int.toNat_of_nonneg nn.1] at this
  refine⟨_,rfl,_,rfl,_,_,_,hp.seq,rfl,ix,rfl,?_⟩
  dsimp only
  rw [bd6,hn,bc2,gM]; rfl
 ·rintro acc rfl
  rw [aZ,bc6]
  exact⟨_,_,rfl,rfl,trivial,q⟩
def sG:bD:=fun xs Q=>∃ (ns:List Int) (m:Nat),xs = [.scr ns,.int m]/\ns.length<=63/\m<=40/\∀ ps,gP m ps->Q (.lst (intz ps))
def Z4:aK:=(aL (gU 2 (eU aA))
 (aL (eZ (iG (a5 1)) (bS 3)
  (aL (aX 4 (aF kI (a7 (aF fL (a7 (a5 0) (a7 (qC (.int 2)) aA))) (a7 (cL (a5 3) (qC (.int 30))) aA))))
  (aL (cI (aV (nR (cL (qC (.int 4)) (a5 3)) (aF cM (a7 (a5 0) aA)))) (aX 4 (cL (fG (bG (a5 0) (cL (qC (.int 4)) (a5 3))) (qC (.int 11))) (aF fL (a7 (a5 0) (a7 (qC (.int 2)) aA))))) cX)
  (j9 2 (bG (eU (a7 (bW (a5 4) (qC (.int 3))) (a7 (cL (qC (.int 1)) (bW (a5 4) (qC (.int 9)))) (a7 (bW (a5 4) (nQ (qC (.int 10)) (qC (.int 9)))) (a7 (cL (nQ (qC (.int 10)) (qC (.int 20))) (bW (a5 4) (qC (.int 7)))) aA))))) (bW (fG (a5 4) (qC (.int 10))) (qC (.int 4))))))))
 (j8 2)))
theorem aR8:cO Z4 ["script","many","prices","k","number"] sG:=by
 rintro xs Q ⟨ns,m,rfl,hl,hm,q⟩
 refine⟨by decide,rfl,rfl,rfl,?_⟩
 refine⟨_,rfl,(m:Int),rfl,by omega,by omega,fun i ρ=>∃ (ps:List Int) (y3 y4:Option Slot),ρ = [some (.sh (flat (.scr ns)) (.scr ns)),some (.sh (flat (.int (m:Int))) (.int (m:Int))),some (.own (.lst (intz ps))),y3,y4]/\gP i ps,⟨[],none,none,rfl,rfl,by simp⟩,?_,?_⟩
 ·rintro i y ρ hy ⟨ps,y3,y4,rfl,gp⟩
  obtain ⟨rfl,hi⟩:=iQ hy
  rw [be3] at hi
  refine gZ ?_
  rw [Int.zero_add]
  refine⟨_,rfl,_,ns,2,rfl,.inl rfl,by decide,_,rfl,_,_,rfl,rfl,_,_,rfl,by omega,by omega,fun z z0=>⟨trivial,?_⟩⟩
  have tail:∀ c:Int,(j9 2 (bG (eU (a7 (bW (a5 4) (qC (.int 3))) (a7 (cL (qC (.int 1)) (bW (a5 4) (qC (.int 9)))) (a7 (bW (a5 4) (nQ (qC (.int 10)) (qC (.int 9)))) (a7 (cL (nQ (qC (.int 10)) (qC (.int 20))) (bW (a5 4) (qC (.int 7)))) aA))))) (bW (fG (a5 4) (qC (.int 10))) (qC (.int 4)))))
    { nx:=fun ρ=>∃ (ps:List Int) (y3 y4:Option Slot),ρ = [some (.sh (flat (.scr ns)) (.scr ns)),some (.sh (flat (.int (m:Int))) (.int (m:Int))),some (.own (.lst (intz ps))),y3,y4]/\gP (i+1) ps,rt:=Q,ct:=fun ρ=>∃ (ps:List Int) (y3 y4:Option Slot),ρ = [some (.sh (flat (.scr ns)) (.scr ns)),some (.sh (flat (.int (m:Int))) (.int (m:Int))),some (.own (.lst (intz ps))),y3,y4]/\gP (i+1) ps,bk:=(j8 2) { nx:=fun _=>Q .non,rt:=Q } }
    [some (.sh (flat (.scr ns)) (.scr ns)),some (.sh (flat (.int (m:Int))) (.int (m:Int))),some (.own (.lst (intz ps))),si i,si c]:=fun c=>by
   have j0:0<=c / 10 % 4:=bh1 _ (by decide)
   have j1:c / 10 % 4 < 4:=bn6 _ (by decide)
   have odd:∃ p:Int,0<=p/\L2.atI [PV.int (c % 3),.int (1+c % 9),.int (c % 10 ^ (9:Int).toNat),.int (10 ^ (20:Int).toNat+c % 7)] (c / 10 % 4)=some (.int p):=by
    generalize c / 10 % 4=j at j0 j1
    have e1:0<=c % 3:=bh1 _ (by decide)
    have e2:0<=c % 9:=bh1 _ (by decide)
    have e3:0<=c % 10 ^ (9:Int).toNat:=bh1 _ (by decide)
    have e4:0<=c % 7:=bh1 _ (by decide)
    have e5:(0:Int)<=10 ^ (20:Int).toNat:=by decide
    rcases (show j=0 ∨ j=1 ∨ j=2 ∨ j=3 by omega) with rfl | rfl | rfl | rfl
    ·exact⟨_,e1,rfl⟩
    ·exact⟨_,by omega,rfl⟩
    ·exact⟨_,e3,rfl⟩
    ·exact⟨_,Int.add_nonneg e5 e4,rfl⟩
   obtain ⟨p,p0,at4⟩:=odd
   refine⟨_,rfl,_,rfl,_,_,rfl,rfl,(by show (0:Int) < 3; decide),_,rfl,_,_,rfl,rfl,(by show (0:Int) < 9; decide),_,_,rfl,rfl,_,rfl,_,_,rfl,rfl,⟨by decide,by decide,by decide⟩,_,_,rfl,rfl,(by show (0:Int) < 10 ^ (9:Int).toNat; decide),
    _,_,rfl,rfl,⟨by decide,by decide,by decide⟩,_,rfl,_,_,rfl,rfl,(by show (0:Int) < 7; decide),_,_,rfl,rfl,by show 4<=1000; decide,rfl,_,rfl,_,_,rfl,rfl,⟨by decide,by decide⟩,_,_,rfl,rfl,(by show (0:Int) < 4; decide),?_⟩
   refine⟨_,_,_,rfl,rfl,at4,trivial,by rw [aZ,gp.1]; omega,ps ++ [p],si i,si c,?_,?_⟩
   ·rw [gM]; rfl
   ·refine⟨by rw [ba8,gp.1]; rfl,fun w hw=>?_⟩
    rcases bb3.mp hw with hw | hw
    ·exact gp.2 w hw
    ·rw [aZ4] at hw; omega
  refine⟨_,rfl,_,_,rfl,rfl,_,rfl,_,_,rfl,rfl,_,_,rfl,rfl,_,rfl,?_⟩
  show if decide (4+(i:Int) < (ns.length:Int))=true then _ else _
  by_cases h4:4+(i:Int) < (ns.length:Int)
  ·rw [ba2 h4]
   have hl4:4+i < ns.length:=by omega
   have ix:L2.atI (intz ns) (4+(i:Int))=some (.int ns[4+i]):=by
    have:=iZ (xs:=intz ns) (j:=4+i) (v:=.int ns[4+i]) (by show (List.map PV.int ns)[_]? = _; rw [ba1,aZ0 hl4]; rfl)
    exact this
   exact bI ⟨_,rfl,_,rfl,_,_,rfl,rfl,_,_,_,rfl,rfl,ix,_,_,rfl,rfl,⟨by decide,by decide⟩,_,rfl,_,ns,2,rfl,.inl rfl,by decide,_,_,rfl,rfl,trivial,tail _⟩
  ·rw [aZ8 h4]
   exact b6 (tail z)
 ·rintro ρ ⟨ps,y3,y4,rfl,gp⟩
  rw [eC,be3] at gp
  exact⟨_,rfl,trivial,q ps gp⟩
def B8 (ws:List Int) (ls:List (Int × Int)) (ns R:List Int):Prop:=W0 ws ls ns R=true/\fN ws ls (ns ++ R)
end Core
namespace HT
open PySem PyProof.Rows
section
open PySem.SeqAt
open PySem.AutoSeq1 (wpAny_loadPart')
open PySem.MeetsSeq PySem.MeetsSeq2 PySem.MeetsSeq3
theorem aR9 (l b:Addr) (n n2:Nat) (dd dd2:Option Addr) (sl sl2:Array (Option Value)) (a c:Int) (t u:Tok) (v x:Value) (e lt:Bool) :
  Meets (Builtin.«tuple.__lt__» ⟨[.ref l,.ref b],[]⟩)
   (fun A R s=>s.heap.get? l=some { cls:=.type "tuple",dict:=dd,data:=.seq #[.int a t,v] n,slots:=sl }/\s.heap.get? b=some { cls:=.type "tuple",dict:=dd2,data:=.seq #[.int c u,x] n2,slots:=sl2 }/\
    SeqAt.EqAt A.in1 s v x e/\(∀ (prog:Program) (w:World) (E Q:Value->Shared->Prop),Q (.bool lt) s->wpAny (model prog w) A.in1 (richCompare .Lt v x) Q E s)/\
    R (.ok (.ret (.bool (if a=c then (if e then false else lt) else decide (a < c))))) s):=
 .of_wp fun prog w A R s h=>by
  obtain ⟨hp,g,d,tk,os⟩:=s; obtain ⟨hl,hb,he2,hlt,h⟩:=h
  have f2:=AutoSeq1.sub_tuple_tuple
  wp_walk using wpAny_loadPart' hl,wpAny_loadPart' hb,wpAny_forIn_list _ (fun bM z s'=>z.1=none/\s'=⟨hp,g,d,tk,os⟩/\(bM = [(Value.int a t,Value.int c u),(v,x)] ∨ (bM = [(v,x)]/\a=c) ∨ (bM = []/\a=c/\e=true))) _
  case turn=>
   rintro ⟨p,q⟩ bM z s' ⟨hz,rfl,c1 | ⟨c1,ac⟩ | ⟨c1,_⟩⟩
   ·injection c1 with c2 c3
    injection c2 with c4 c5
    subst c4 c5
    obtain ⟨e1,he1,hiff⟩:=z9 A.in1 ⟨hp,g,d,tk,os⟩ a t c u
    refine aY9 (he1 prog w _ _ ?_)
    cases e1 with
    | true=>
     wp_walk
     exact⟨rfl,rfl,.inr (.inl ⟨c3,hiff.mp rfl⟩)⟩
    | false=>
     rw [if_neg (fun q=>absurd (hiff.mpr q) ba7)] at h
     have hri:=zA A.in1 ⟨hp,g,d,tk,os⟩ a t c u prog w
     wp_walk using hri
     exact⟨_,rfl,by simpa using h⟩
   ·injection c1 with c2 c3
    injection c2 with c4 c5
    subst c4 c5
    rw [if_pos ac] at h
    refine aY9 (he2 prog w _ _ ?_)
    cases e with
    | true=>
     wp_walk
     exact⟨rfl,rfl,.inr (.inr ⟨c3,ac,rfl⟩)⟩
    | false=>
     have hri:=hlt prog w
     wp_walk using hri
     exact⟨_,rfl,by simpa using h⟩
   ·cases c1
  case fin=>
   rintro ⟨b1,b2⟩ s' ⟨hz,rfl,c1 | ⟨c1,ac⟩ | ⟨c1,ac,et⟩⟩
   ·cases c1
   ·cases c1
   ·simp only at hz
    subst hz
    subst et
    rw [if_pos ac,if_pos rfl] at h
    wp_walk
    exact⟨_,rfl,by simpa [Builtin.Tuple.tupleCompareSizes] using h⟩
  case h=>exact⟨rfl,rfl,.inl rfl⟩
end
end HT
namespace L2
open PySem PySem.Spec PyProof.Rows PP
section
variable {X : Cx} {pins : List (Addr × Obj)} {s : Shared} {σ : St} {H : Hp} {M M' : Addr → Prop}
abbrev dU (a:Int) (ns:List Int):PV:=.tup [.int a,.tup (intz ns)]
theorem mF:∀ ns:List Int,HT.aQ ns ns=false
 | []=>rfl
 | x :: xs=>by rw [HT.g9,if_pos rfl]; exact mF xs
theorem Z5 {A:Around} (hu:A.units+4 < cLine) (I:a6 X pins σ H s) {x y:V}{v u:Value}{a c:Int}{ns ms:List Int} (r1:aE X.K M H x (dU a ns)) (r2:aE X.K M' H y (dU c ms)) (e1:aO x v) (e2:aO y u)
  {prog:Program}{w:World}{E Q:Value->Shared->Prop} (h:Q (.bool (HT.aQ (a :: ns) (c :: ms))) s):wpAny (model prog w) A (richCompare .Lt v u) Q E s:=by
 obtain ⟨l,us,rfl,h1,q1⟩:=r1.sqT
 obtain ⟨b,ws,rfl,h2,q2⟩:=r2.sqT
 cases e1
 cases e2
 obtain ⟨x1,x2,rfl,p1,p2⟩:=q1.two
 obtain ⟨y1,y2,rfl,p3,p4⟩:=q2.two
 cases p1
 cases p3
 obtain ⟨its,v1,t1,_⟩:=I.tuple (aD.of (K:=X.K) h1)
 obtain ⟨its2,v2,t2,_⟩:=I.tuple (aD.of (K:=X.K) h2)
 obtain ⟨_,_,rfl,k1,k2⟩:=v1.two
 obtain ⟨_,_,rfl,k3,k4⟩:=v2.two
 obtain ⟨t,rfl⟩:=k1
 obtain ⟨t',rfl⟩:=k3
 have eq:=J5 I 2 (A:=A.in1) (by show A.units+1+2 < cLine; omega) p2 p4 k2 k4 (by exact pQ 1 ns ms)
 rw [pP 1] at eq
 obtain ⟨p,us,rfl,h3,q3⟩:=p2.sqT
 obtain ⟨q,ws,rfl,h4,q4⟩:=p4.sqT
 obtain rfl:=q3.ofInts
 obtain rfl:=q4.ofInts
 cases k2
 cases k4
 obtain ⟨its,v3,t3,_⟩:=I.tuple (aD.of (K:=X.K) h3)
 obtain ⟨its2,v4,t4,_⟩:=I.tuple (aD.of (K:=X.K) h4)
 have i3:IntsAre its.toArray.toList ns:=oX v3
 have i4:IntsAre its2.toArray.toList ms:=oX v4
 obtain ⟨⟨cls,dd,data,sl⟩,ho,hc,n,hd⟩:=t1
 obtain ⟨⟨cls2,dd2,data2,sl2⟩,ho2,hc2,n2,hd2⟩:=t2
 simp only at hc hd hc2 hd2
 subst hc hd hc2 hd2
 refine richCompare_meets_room (op:=.Lt) ⟨_,ho,rfl⟩ ⟨_,ho2,rfl⟩ PySem.F.slot_tuple_lt PySem.F.entry_tuple_lt (PySem.F.args_tuple_lt_2 _ _) (HT.aR9 l b n n2 dd dd2 sl sl2 a c t t' _ _ (decide (ns=ms)) (HT.aQ ns ms))
  ⟨ho,ho2,eq,fun prog w E Q hq=>(HT.aj7 t3 t4 i3 i4 (by show A.units+1 < cLine; omega) hq:wpAny (model prog w) A.in1 (compareOp .Lt _ _) Q E s),?_⟩ (by omega)
 have e:(if a=c then (if (decide (ns=ms))=true then false else HT.aQ ns ms) else decide (a < c))=HT.aQ (a :: ns) (c :: ms):=by
  rw [HT.g9]
  by_cases ac:a=c
  ·rw [if_pos ac,if_pos ac]
   by_cases nm:ns=ms
   ·rw [if_pos (ba2 nm),nm,mF]
   ·rw [if_neg (by rw [bc0]; exact nm)]
  ·rw [if_neg ac,if_neg ac]
 rw [e]
 exact⟨(fun x=>nomatch x),h⟩
end
section
variable {prog : Program} {w : World} {A : Around} {R : Result → Shared → Prop} {I S : Addr} {n : Nat} {l : Addr} {its : Array Value} {s0 : Shared} {bt : Nat → Nat → Bool}
abbrev at_ (s:Shared) (h:Heap) (k:Nat):Shared:={ s with heap:=h,toks:=k }
abbrev jL (g h:Heap):Prop:=∀ b o,g.get? b=some o->h.get? b=some o
def bT (prog:Program) (w:World) (A:Around) (s0:Shared) (its:Array Value) (bt:Nat->Nat->Bool):Prop:=
 ∀ (i j:Nat) (v u:Value) (h:Heap) (k:Nat) (Q E:Value->Shared->Prop),its[i]? = some v->its[j]? = some u->jL s0.heap h->Q (.bool (bt i j)) (at_ s0 h k)->wpAny (model prog w) A (richCompare .Lt v u) Q E (at_ s0 h k)
theorem aS0 (hh:A.in1.handled=none) (ne:l ≠ I) (sI:S ≠ I) (sl:S ≠ l) (fI:s0.heap.get? I=none) (fS:s0.heap.get? S=none) (ask:bT prog w A.in1 s0 its bt)
  (fin:∀ v h k,its[argBest bt (its.size - 1)]? = some v->jL s0.heap h->R (.ok (.ret v)) (at_ s0 h k)) :
  ∀ (m j:Nat) (h:Heap) (k:Nat) (v:Value) (c:Nat),its.size - (j+1)=m->j+1<=its.size->jL s0.heap h->(h.IsListIter I l (j+1)/\h.IsList l its)->its[argBest bt j]? = some v->
  h.get? S=some { cls:=.type "list",dict:=none,data:=.seq #[v,v] c,slots:=#[] }->codeAny (model prog w) A (.builtin "min.loop" ⟨[.ref I,.none,.ref S],[]⟩) R (at_ s0 h k):=by
 have W:=Walks.list (prog:=prog) (w:=w) hh I l ne its
 have nm:(toString "min" ++ toString ".loop" : String)="min.loop":=by decide
 have nS:S ∉ [I]:=fun z=>sI (aZ4.mp z)
 have put:∀ {h h':Heap},jL s0.heap h->(∀ b o,b ∉ [I]->h.get? b=some o->h'.get? b=some o)->jL s0.heap h':=fun {h h'} o1 o2 b o e=>o2 b o (fun z=>by rw [aZ4.mp z,fI] at e; cases e) (o1 b o e)
 have put2:∀ {h:Heap}{f:Obj->Obj},jL s0.heap h->jL s0.heap (h.update S f):=fun {h f} o1 b o e=>(bl0 _ _ (fun z:S=b=>by rw [<- z,fS] at e; cases e)).trans (o1 b o e)
 intro m
 induction m with
 | zero=>
  intro j h k v c hm hj old st hv hS
  have hj2:j+1=its.size:=by omega
  refine codeAny_builtin PySem.F.entry_min_loop ?_
  rw [Around.under_plainId bj2]
  refine aY9 (bj7 hS rfl ?_)
  refine aY9 (wpAny_tryCatch (W.done _ _ _ (hj2 ▸ st) fun h2 k2 o2=>?_))
  exact aY9 (wpAny_updateSeq (o2 S _ nS hS) rfl (aY9 (wpAny_letGo (aZ5 (fin v _ k2 (by rw [<- hj2]; exact hv) (put2 (put old o2)))))))
 | succ m ih=>
  intro j h k v c hm hj old st hv hS
  have lt:j+1 < its.size:=by omega
  refine codeAny_builtin PySem.F.entry_min_loop ?_
  rw [Around.under_plainId bj2]
  refine aY9 (bj7 hS rfl ?_)
  refine aY9 (wpAny_tryCatch (W.item (j+1) _ _ _ lt st fun u h2 k2 hu st2 o2=>?_))
  have hS2:=o2 S _ nS hS
  refine aY9 (aZ5 ?_)
  refine aY9 (m:=tryCatch (holding [u,u] (richCompare .Lt u v >>= _)) _) (wpAny_tryCatch (bh7 (aY9 (ask (j+1) (argBest bt j) u v h2 k2 _ _ hu hv (put old o2) ?_))))
  refine aY9 (bh7 (bh6 (aY9 (wpAny_letGo (aZ5 ?_)))))
  cases hb:bt (j+1) (argBest bt j) with
  | false=>
   simp only [bc4,bi7]
   refine aY9 (wpAny_letGo ?_)
   rw [nm]
   exact aZ5 ⟨plainId_quiet bj2 _,ih (j+1) h2 k2 v c (by omega) lt (put old o2) st2 (by simp only [argBest,hb,bc4,bi7]; exact hv) hS2⟩
  | true=>
   simp only [if_true]
   refine aY9 (wpAny_updateSeq hS2 rfl (aY9 (wpAny_letGo ?_)))
   rw [nm]
   refine aZ5 ⟨plainId_quiet bj2 _,ih (j+1) _ k2 u _ (by omega) lt (put2 (put old o2)) (W.frame _ _ _ st2 fun b hb2 o e=>?_) (by simp only [argBest,hb,if_true]; exact hu) (bn7 _ hS2 rfl)⟩
   refine (bl0 _ _ (fun z:S=b=>?_)).trans e
   rcases aZ6.mp hb2 with q | q
   ·exact sI (z.trans q)
   ·exact sl (z.trans (aZ4.mp q))
end
section
variable {prog : Program} {w : World} {A : Around} {s0 : Shared} {l : Addr} {its : Array Value} {bt : Nat → Nat → Bool}
theorem xF {h:Heap}{a:Addr} (z:h.objs.size<=a):h.get? a=none:=by
 cases q:h.get? a with
 | none=>rfl
 | some o=>exact absurd (ba4 q) (Nat.not_lt.mpr z)
theorem aS1 {Q E:Value->Shared->Prop} (hh:A.in1.handled=none) (hl:s0.heap.IsList l its) (ne:0 < its.size) (ask:bT prog w A.in1 s0 its bt)
  (fin:∀ v h k,its[argBest bt (its.size - 1)]? = some v->jL s0.heap h->Q v (at_ s0 h k)):wpAny (model prog w) A (call (.builtin "min") [.ref l]) Q E s0:=by
 have nm:(toString "min" ++ toString ".loop" : String)="min.loop":=by decide
 have lb:l < s0.heap.objs.size:=by obtain ⟨_,e,_⟩:=hl; exact ba4 e
 have nI:l ≠ s0.heap.objs.size:=bc7 lb
 have hz:(s0.heap.push { cls:=.type "list_iterator",data:=.fields #[.ref l,.int 0 0] }).objs.size=s0.heap.objs.size+1:=bj6 ..
 refine call_function_tree PySem.F.kind_min PySem.F.plain_min PySem.F.entry_min (PySem.F.args_min1 _) ?_
 refine aY9 (wpAny_of_eq (show Builtin.Builtins.bindParams "min" ["key","default"] 0 ⟨[],[]⟩=pure [none,none] from rfl) ?_)
 refine aY9 (aZ5 (aY9 (wpAny_pyIter_list hl (aY9 (bk8 ?_)))))
 rw [nm]
 refine aZ5 ⟨plainId_quiet bj2 _,codeAny_builtin PySem.F.entry_min_loop ?_⟩
 rw [Around.under_plainId bj2]
 have W:=Walks.list (prog:=prog) (w:=w) hh s0.heap.objs.size l nI its
 have st:((s0.heap.push { cls:=.type "list_iterator",data:=.fields #[.ref l,.int 0 0] }).push { cls:=.type "list",data:=.seq #[] }).IsListIter s0.heap.objs.size l 0:=⟨_,aZ1 _ (bb2 _ rfl),rfl,rfl⟩
 have sl2:((s0.heap.push { cls:=.type "list_iterator",data:=.fields #[.ref l,.int 0 0] }).push { cls:=.type "list",data:=.seq #[] }).IsList l its:=(hl.push _).push _
 have hS:=bb2 (s0.heap.push { cls:=.type "list_iterator",data:=.fields #[.ref l,.int 0 0] }) (o:={ cls:=.type "list",data:=.seq #[] }) rfl
 refine aY9 (bj7 hS rfl ?_)
 refine aY9 (wpAny_tryCatch (W.item 0 _ _ _ ne ⟨st,sl2⟩ fun v h2 k2 hv st2 o2=>?_))
 have sI:(s0.heap.push { cls:=.type "list_iterator",data:=.fields #[.ref l,.int 0 0] }).objs.size ≠ s0.heap.objs.size:=by omega
 have sl3:(s0.heap.push { cls:=.type "list_iterator",data:=.fields #[.ref l,.int 0 0] }).objs.size ≠ l:=fun z=>by rw [hz] at z; exact absurd lb (by rw [<- z]; exact Nat.not_lt.mpr (Nat.le_succ _))
 have hS2:=o2 _ _ (fun z=>sI (aZ4.mp z)) hS
 have fS:s0.heap.get? (s0.heap.push { cls:=.type "list_iterator",data:=.fields #[.ref l,.int 0 0] }).objs.size=none:=xF (by omega)
 refine aY9 (aZ5 ?_)
 refine aY9 (m:=updateSeq _ (fun _=>#[v,v])) (wpAny_updateSeq hS2 rfl ?_)
 rw [nm]
 refine aZ5 ⟨plainId_quiet bj2 _,aS0 hh nI sI sl3 (xF (aZ3 _)) fS ask (fun v h k e o=>fin v h k e o) _ 0 _ k2 v _ rfl ne (fun b o e=>?_) (W.frame _ _ _ st2 fun b hb o e=>?_) hv (bn7 _ hS2 rfl)⟩
 ·refine (bl0 _ _ (fun z:_=b=>by rw [<- z,fS] at e; cases e)).trans (o2 b o (fun z=>?_) (aZ1 _ (aZ1 _ e)))
  rw [aZ4.mp z] at e
  rw [xF (aZ3 _)] at e; cases e
 ·refine (bl0 _ _ (fun z:_=b=>?_)).trans e
  rcases aZ6.mp hb with q | q
  ·exact sI (z.trans q)
  ·exact sl3 (z.trans (aZ4.mp q))
theorem Z6 {f:Nat->List Int}:∀ k,argBest (fun i j=>HT.aQ (f i) (f j)) k<=k/\∀ j,j<=k->HT.aQ (f j) (f (argBest (fun i j=>HT.aQ (f i) (f j)) k))=false
 | 0=>⟨aZ3 _,fun j h=>by rw [Nat.le_zero.mp h]; exact mF _⟩
 | k+1=>by
  obtain ⟨h1,h2⟩:=Z6 (f:=f) k
  cases hb:HT.aQ (f (k+1)) (f (argBest (fun i j=>HT.aQ (f i) (f j)) k)) with
  | true=>
   have e:argBest (fun i j=>HT.aQ (f i) (f j)) (k+1)=k+1:=by simp only [argBest,hb,if_true]
   rw [e]
   refine⟨aZ3 _,fun j hj=>?_⟩
   rcases bd1 k j with g | g
   ·rw [show j=k+1 by omega]; exact mF _
   ·exact nD (h2 j g) (jW hb)
  | false=>
   have e:argBest (fun i j=>HT.aQ (f i) (f j)) (k+1)=argBest (fun i j=>HT.aQ (f i) (f j)) k:=by simp only [argBest,hb,bc4,bi7]
   rw [e]
   refine⟨by omega,fun j hj=>?_⟩
   rcases bd1 k j with g | g
   ·rw [show j=k+1 by omega]; exact hb
   ·exact h2 j g
end
section
variable {X : Cx}
abbrev sH (ps:List (Int × List Int)):List PV:=ps.map fun p=>dU p.1 p.2
def Z7 (K:PySem.W.Frag):List V->Hp->VK->Prop:=fun xs H Q=>∃ (a:Addr) (us:List V) (ps:List (Int × List Int)),xs = [.ref a]/\H a=some (.lst us)/\Reps K (fun _=>True) H us (sH ps)/\ps ≠ []/\∀ v p,p ∈ ps->(∀ q ∈ ps,HT.aQ (q.1 :: q.2) (p.1 :: p.2)=false)->aE K (fun _=>True) H v (dU p.1 p.2)->Q v H
theorem aS2 (hc:X.calm=true) (hu:X.A.units+6 < cLine):cK X (.builtin "min") (Z7 X.K):=by
 intro pins s σ H xs us Q I r h
 obtain ⟨a,ws,ps,rfl,ha,rr,ne,q⟩:=h
 obtain ⟨u,rfl,ru⟩:=fY r
 cases ru
 obtain ⟨its,rv,p,hz⟩:=I.list (aG.of (K:=X.K) ha)
 have lr:=rv.length
 have lp:=rr.length
 rw [ba3] at lp
 have at1:∀ (i:Nat) (v:Value),its.toArray[i]? = some v->∃ x p,aO x v/\ps[i]? = some p/\aE X.K (fun _=>True) H x (dU p.1 p.2):=fun i v hv=>by
  have hv:its[i]? = some v:=by simpa using hv
  have hi:=(aZ9.mp hv).1
  have h1:i < ws.length:=by omega
  obtain ⟨w',hw',rw'⟩:=rv.get (aZ0 h1)
  rw [hv] at hw'
  cases hw'
  obtain ⟨m,hm,rm⟩:=rr.get (aZ0 h1)
  rw [ba1] at hm
  cases hp:ps[i]? with
  | none=>rw [hp] at hm; cases hm
  | some m'=>rw [hp] at hm; cases hm; exact⟨_,_,rw',rfl,rm⟩
 have zs:its.toArray.size=ps.length:=by rw [aZ2]; omega
 have pos:0 < its.toArray.size:=by rw [zs]; exact Nat.pos_of_ne_zero fun z=>ne (List.length_eq_zero_iff.mp z)
 let f:Nat->List Int:=fun i=>match ps[i]? with | some p=>p.1 :: p.2 | none=>[]
 have fe:∀ {i p},ps[i]? = some p->f i=p.1 :: p.2:=fun {i p} e=>by show (match ps[i]? with | some p=>p.1 :: p.2 | none=>[])=_; rw [e]
 refine aS1 (bt:=fun i j=>HT.aQ (f i) (f j)) (I.ok.hd hc) p.isList pos (fun i j v u h k Q E hv hu2 old hq=>?_) fun v h k hv old=>?_
 ·obtain ⟨x,p1,r1,e1,q1⟩:=at1 i v hv
  obtain ⟨y,p2,r2,e2,q2⟩:=at1 j u hu2
  have I2:a6 X pins σ H (at_ s h k):=I.kept (t':=k) old
  refine Z5 (A:=X.A.in1) (by show X.A.units+1+4 < cLine; omega) I2 q1 q2 r1 r2 ?_
  rw [<- fe e1,<- fe e2]
  exact hq
 ·obtain ⟨x,p1,r1,e1,q1⟩:=at1 _ v hv
  obtain ⟨_,best⟩:=Z6 (f:=f) (its.toArray.size - 1)
  refine⟨x,H,I.kept (t':=k) old,r1,q x p1 (bb4 e1) (fun z hz2=>?_) q1⟩
  obtain ⟨j,hj⟩:=List.getElem?_of_mem hz2
  have:=best j (by have:=(aZ9.mp hj).1; omega)
  rwa [fe hj,fe e1] at this
end
end L2
namespace PP
open PySem L2
section
variable {X : Cx} {a b e : Expr} {ta tb : aB} {tr : cH} {pos p2 : Pos}
def xG:List PV->(PV->Prop)->Prop:=fun xs Q=>∃ ps:List (Int × List Int),xs = [.lst (sH ps)]/\ps ≠ []/\∀ p,p ∈ ps->(∀ q ∈ ps,HT.aQ (q.1 :: q.2) (p.1 :: p.2)=false)->Q (dU p.1 p.2)
theorem kK (a:Int) (ns:List Int):flat (dU a ns)=true:=by
 show (flat (.int a) && (flat (.tup (intz ns)) && true))=true
 rw [show flat (.tup (intz ns))=true from cZ ns]; rfl
theorem aS3:eV X xG (Z7 X.K):=by
 rintro H vs xs Q Q' r ⟨ps,rfl,ne,q⟩ k
 obtain ⟨v,rfl,r1⟩:=r.one
 obtain ⟨a,us,rfl,_,h,r2⟩:=r1.sqL
 exact⟨a,us,ps,rfl,h,r2,ne,fun v p hp hq rp=>k v H _ (a9.refl _) (rp.flat (kK _ _)) (q p hp hq)⟩
theorem aS4 (B:Bt X.mg) (hc:X.calm=true) (hu:X.A.units+6 < cLine) (ha:QA X [e] tr) (hg:Gl X "min":=by rfl) (he:starEach [e] X.env=(false,eval e X.env) :: starEach [] X.env:=by rfl) (hpl:(backTo pos (starEach [] X.env)).any (·.1)=false:=by rfl):QE X (.Call (.Name "min" p2) [e] [] pos) (aF xG tr):=
 iL (aS2 hc hu) aS3 hg B.min PyProof.Rows.boot_min ha (he:=he) (hpl:=hpl)
def Z8 (K:PySem.W.Frag):R2:=fun x y H Q=>∃ a c ns ms,aE K (fun _=>True) H x (dU a ns)/\aE K (fun _=>True) H y (dU c ms)/\Q (.bl (HT.aQ (a :: ns) (c :: ms))) H
theorem aS5 (hu:X.A.units+6 < cLine):bP X (compareOp .Lt) (Z8 X.K):=by
 intro pins s σ H x y v u Q I rx ry h
 obtain ⟨a,c,ns,ms,r1,r2,q⟩:=h
 exact (Z5 (by omega) I r1 r2 rx ry ⟨.bl _,H,I,rfl,q⟩:wpAny (model X.prog X.w) X.A (richCompare .Lt v u) (EP X pins σ Q) X.xe s)
def xH:PV->Tg->PV->Tg->PK->Prop:=fun x _ y _ Q=>∃ a c ns ms,x=dU a ns/\y=dU c ms/\Q (.bl (HT.aQ (a :: ns) (c :: ms))) .fr
theorem aS6:dO X xH (Z8 X.K):=by
 rintro W Hs H u v x y g g' Q Q' s n r1 r2 ⟨a,c,ns,ms,rfl,rfl,q⟩ k
 exact⟨a,c,ns,ms,r1.flat (kK _ _),r2.flat (kK _ _),k _ _ _ _ (a9.refl _) (.bl _) q⟩
theorem aS7 (hu:X.A.units+6 < cLine) (ha:QE X a ta) (hb:QE X b tb):QT X (.Compare a [.Lt] [b] pos) (aV (q2 xH ta tb)):=iH (aS5 hu) aS6 ha hb (e9 _)
end
theorem Z9 {A:Around}{k:Nat} (hr:bR k A):A.units+6 < cLine:=by have:=hr.units; omega
end PP
namespace Core
open PySem L2 PP
def oP (ws:List Int) (ls:List (Int × Int)) (ps S:List Int):Prop:=S ∈ eL ws ls/\∀ T ∈ eL ws ls,HT.aQ (cE ps T :: T) (cE ps S :: S)=false
theorem aa0 {ws:List Int}{ls:List (Int × Int)}{ps S T:List Int} (h1:oP ws ls ps S) (h2:oP ws ls ps T):S=T:=by
 have:=u7 (h2.2 S h1.1) (h1.2 T h2.1)
 exact (List.cons.inj this).2
def kL:dM:=fun Ep xs Q=>∃ ws ls p ps,xs = [bH ws ls,p]/\Wb ws ls/\ws.length<=12/\cJ p ps/\ps.length<=1000/\(gP ws.length ps->∀ S,oP ws ls ps S->Q (.tup (intz S)))/\(¬ gP ws.length ps->Ep "BadPrices")
def aa1 (Ep:Str->Prop):aK:=(aL (aX 2 (jJ Ep sB (a7 (a5 0) aA)))
 (aL (aX 3 (jJ Ep sE (a7 (a5 1) (a7 (aF iR (a7 (a5 0) aA)) aA))))
 (aL (aX 4 (aF xG (a7 (dA (dH (a5 2)) [none,some 3] (bS 0) dZ (fU (a7 (aF sF (a7 (a5 1) (a7 (a5 0) aA))) (a7 (a5 0) aA)))) aA)))
 (bK (bG (a5 4) (qC (.int 1)))))))
theorem aS8:kG aa1 ["web","prices","lighting","known","best"] kL:=by
 rintro Ep xs Q ⟨ws,ls,p,ps,rfl,wb,few,hp,hpl,q,qe⟩
 refine⟨_,rfl,ws,ls,rfl,wb,fun _=>⟨trivial,?_⟩,fun z=>absurd z (by omega)⟩
 refine⟨_,rfl,_,rfl,ws,ls,rfl,p,ps,ws.length,rfl,hp,hpl,by omega,fun g=>⟨trivial,?_⟩,qe⟩
 have q:=q g
 have ll:=aR3 (ls:=ls) few
 have lne:=Y9 ws ls
 have ok:∀ S ∈ eL ws ls,S.length<=1000/\∀ s ∈ S,0<=s/\s < (ps.length:Int):=fun S hS=>by
  have hs:=(xE.mp hS).1
  have:=oG hs
  exact⟨by omega,fun s h=>by rw [g.1]; exact (dL hs).2 s h⟩
 have q:∀ S,S ∈ eL ws ls->(∀ T ∈ eL ws ls,HT.aQ (cE ps T :: T) (cE ps S :: S)=false)->Q (.tup (intz S)):=fun S h1 h2=>q S ⟨h1,h2⟩
 generalize eL ws ls=L at ll lne ok q ⊢
 refine⟨_,rfl,_,rfl,(fun z=>by cases z),by rw [eI]; omega,fun i acc=>acc=sH ((L.take i).map fun S=>(cE ps S,S)),rfl,?_,?_⟩
 ·rintro i y acc hy rfl
  obtain ⟨S,rfl,hS⟩:=oE hy
  obtain ⟨o1,o2⟩:=ok S (bb4 hS)
  refine⟨_,rfl,_,rfl,_,_,ps,S,rfl,.inl rfl,.inl rfl,o1,o2,_,rfl,by show 2<=1000; decide,kK _ _,trivial,?_⟩
  dsimp only
  rw [bd6,hS,bc2]
  unfold sH
  rw [bc2]; rfl
 rintro acc rfl
 rw [eI,bc6]
 refine⟨_,rfl,fun z=>lne (List.map_eq_nil_iff.mp z),fun p hp hq=>⟨trivial,?_⟩⟩
 obtain ⟨S,hS,rfl⟩:=be0.mp hp
 exact⟨_,rfl,_,_,_,rfl,rfl,rfl,trivial,q S hS fun T hT=>hq _ (be0.mpr ⟨T,hT,rfl⟩)⟩
def mG:bD:=fun xs Q=>∃ ws ls p ps,xs = [bH ws ls,p]/\Wb ws ls/\ws.length<=12/\cJ p ps/\ps.length<=1000/\¬ gP ws.length ps/\Q (.bl true)
def aa2:aK:=(aL (aX 2 (qC .non))
 (aL (wQ "HearthError" 3 (U3 kL (a7 (a5 0) (a7 (a5 1) aA))) (aX 2 (eU (a7 (m6 "BadPrices" (a5 3)) (a7 (m6 "BadSet" (a5 3)) (a7 (m6 "ValueError" (a5 3)) aA))))))
 (bK (q2 (jC 2 false) (a5 2) (eU (a7 (qC (.bl true)) (a7 (qC (.bl false)) (a7 (qC (.bl true)) aA))))))))
theorem aS9:cO aa2 ["web","prices","kinds","e"] mG:=by
 rintro xs Q ⟨ws,ls,p,ps,rfl,wb,few,hp,hpl,bad,q⟩
 refine⟨trivial,_,rfl,_,rfl,ws,ls,p,ps,rfl,wb,few,hp,hpl,fun g=>absurd g bad,fun g=>?_⟩
 refine⟨by decide,_,rfl,true,(by decide),_,rfl,false,(by decide),_,rfl,true,(by decide),by show 3<=1000; decide,rfl,trivial,_,rfl,by show 3<=1000; decide,rfl,.inr ⟨_,_,rfl,rfl⟩,by decide,trivial,q⟩
def xI:bD:=Q6
section
variable {ws : List Int} {ls : List (Int × Int)} {ps S : List Int} {T : List (List Int)} {d : PV}
def kM (ws:List Int) (ls:List (Int × Int)) (ps:List Int) (T:List (List Int)) (d:PV):Prop:=(d = .non/\∀ S ∈ T,cB ws ls S=false) ∨ ∃ S,d=dU (cE ps S) S/\S ∈ T/\cB ws ls S=true/\∀ U ∈ T,cB ws ls U=true->HT.aQ (cE ps U :: U) (cE ps S :: S)=false
theorem aa3 (h:kM ws ls ps T d) (c:cB ws ls S=false):kM ws ls ps (T ++ [S]) d:=by
 rcases h with ⟨rfl,h⟩ | ⟨S',rfl,h1,h2,h3⟩
 ·refine .inl ⟨rfl,fun U hU=>?_⟩
  rcases bb3.mp hU with hU | hU
  ·exact h U hU
  ·rw [aZ4.mp hU]; exact c
 ·refine .inr ⟨S',rfl,be7 _ h1,h2,fun U hU f=>?_⟩
  rcases bb3.mp hU with hU | hU
  ·exact h3 U hU f
  ·rw [aZ4.mp hU,c] at f; cases f
theorem aT0 (h:∀ U ∈ T,cB ws ls U=false) (c:cB ws ls S=true):kM ws ls ps (T ++ [S]) (dU (cE ps S) S):=by
 refine .inr ⟨S,rfl,bc3 _ (aZ4.mpr rfl),c,fun U hU f=>?_⟩
 rcases bb3.mp hU with hU | hU
 ·rw [h U hU] at f; cases f
 ·rw [aZ4.mp hU]; exact mF _
theorem aT1 {S':List Int} (h3:∀ U ∈ T,cB ws ls U=true->HT.aQ (cE ps U :: U) (cE ps S' :: S')=false) (c:cB ws ls S=true) (lt:HT.aQ (cE ps S :: S) (cE ps S' :: S')=true):kM ws ls ps (T ++ [S]) (dU (cE ps S) S):=by
 refine .inr ⟨S,rfl,bc3 _ (aZ4.mpr rfl),c,fun U hU f=>?_⟩
 rcases bb3.mp hU with hU | hU
 ·exact nD (h3 U hU f) (jW lt)
 ·rw [aZ4.mp hU]; exact mF _
theorem aT2 {S':List Int} (h1:S' ∈ T) (h2:cB ws ls S'=true) (h3:∀ U ∈ T,cB ws ls U=true->HT.aQ (cE ps U :: U) (cE ps S' :: S')=false) (lt:HT.aQ (cE ps S :: S) (cE ps S' :: S')=false):kM ws ls ps (T ++ [S]) (dU (cE ps S') S'):=by
 refine .inr ⟨S',rfl,be7 _ h1,h2,fun U hU f=>?_⟩
 rcases bb3.mp hU with hU | hU
 ·exact h3 U hU f
 ·rw [aZ4.mp hU]; exact lt
theorem aT3 (p:T.Perm (aW (rng ws.length))) (h:kM ws ls ps T d):∃ S,d=dU (cE ps S) S/\oP ws ls ps S:=by
 have mm:∀ U,U ∈ eL ws ls ↔ U ∈ T/\cB ws ls U=true:=fun U=>by unfold eL; rw [bc5,p.mem_iff]
 rcases h with ⟨rfl,h⟩ | ⟨S',rfl,h1,h2,h3⟩
 ·obtain ⟨U,hU⟩:=List.exists_mem_of_ne_nil _ (Y9 ws ls)
  obtain ⟨h4,h5⟩:=(mm U).mp hU
  rw [h U h4] at h5; cases h5
 ·exact⟨S',rfl,(mm S').mpr ⟨h1,h2⟩,fun U hU=>h3 U ((mm U).mp hU).1 ((mm U).mp hU).2⟩
end
def aa4:aK:=(aL (aX 9 (aF fL (a7 (a5 0) (a7 (qC (.int 3)) aA))))
 (aL (jA 7 (bW (a5 9) (a5 2)) (k7 (nO (qC (.int 1))) (bW (fG (a5 9) (qC (.int 8))) (nQ (qC (.int 10)) (qC (.int 30))))))
 (bK (lD (aF mG (a7 (a5 1) (a7 (v9 (a5 3) (pR (qC (.int 1))) G5) aA))) (aF mG (a7 (a5 1) (a7 (a5 7) aA)))))))
def aa5:aK:=(aL (gU 7 (aF uO (a7 (a5 3) aA)))
 (aL (aX 8 (aF (kL fun _=>False) (a7 (a5 1) (a7 (a5 7) aA))))
 (aL (cI (j6 (gH (aV (aF rY (a7 (a5 8) (a7 (a5 2) aA))))) (j6 (aV (q2 (jC 2 true) (a5 8) (bG (a5 4) (qC (.int 1))))) (aV (q2 (jC 2 true) (a5 7) (a5 3))))) (bK (qC (.bl false))) cX)
 (aL (cI (j6 (aV (q2 (jC 2 true) (aF (kL fun _=>False) (a7 (a5 1) (a7 (aF k8 (a7 (a5 3) aA)) aA))) (a5 8))) (gH (aV (aF mG (a7 (a5 1) (a7 (r9 (a5 3) (eU (a7 (qC (.int 0)) aA))) aA)))))) (bK (qC (.bl false))) cX)
 (aL (cI (aV (gI (a5 2) (qC (.int 0)))) (bK (qC (.bl true))) cX)
 aa4)))))
def aa6:aK:=(aL (aX 1 (aF sD (a7 (a5 0) (a7 (qC (.int 7)) aA))))
 (aL (aX 2 (aF cM (a7 (bG (a5 1) (qC (.int 0))) aA)))
 (aL (aX 3 (aF sG (a7 (a5 0) (a7 (a5 2) aA))))
 (aL (aX 4 (qC .non))
 (aL (eZ (dH (aF sC (a7 (a5 2) aA))) (bS 5)
  (aL (aX 6 (aF rD (a7 (dA (dH (a5 5)) [none,some 3] (bS 0) dZ (bG (a5 1) (a5 0))) aA)))
  (cI (j5 (j6 (aV (aw6 (a5 4) (qC .non))) (aV (q2 xH (fU (a7 (a5 6) (a7 (a5 5) aA))) (a5 4)))) (aV (aF rX (a7 (a5 1) (a7 (a5 5) aA))))) (aX 4 (fU (a7 (a5 6) (a7 (a5 5) aA)))) cX)))
 aa5)))))
theorem aT4 (ps:List Int):gV (intz ps) (some 1) none=intz (ps.drop 1):=by
 unfold gV
 have e1:HT.aR (intz ps).length 0 (some 1)=min 1 ps.length:=by
  rw [aZ]
  show (if (1:Int) < 0 then ((1:Int)+(ps.length:Int)).toNat else min (1:Int).toNat ps.length)=_
  rw [if_neg (by decide)]; rfl
 rw [e1]
 show ((intz ps).drop (min 1 ps.length)).take ((intz ps).length - min 1 ps.length)=_
 rw [bd9 (by rw [bf8]; exact aZ3 _)]
 show (List.map PV.int ps).drop _=List.map PV.int _
 cases ps with
 | nil=>rfl
 | cons x xs=>rw [show min 1 (x :: xs).length=1 by simp]; rfl
theorem aT5 {ns ws:List Int}{ls:List (Int × Int)}{ps:List Int}{y4 y5 y6 y8 y9:Option Slot}{Q:PV->Prop} (wb:Wb ws ls) (few:ws.length<=12) (gp:gP ws.length ps) (w0:0 < ws.length) (q:Q (.bl true)) :
  aa4 { nx:=fun _=>Q .non,rt:=Q } [some (.sh (flat (.scr ns)) (.scr ns)),some (.sh true (bH ws ls)),si (ws.length:Nat),some (.sh true (.lst (intz ps))),y4,y5,y6,some (.own (.lst (intz ps))),y8,y9]:=by
 have pl:=gp.1
 refine⟨_,rfl,_,ns,3,rfl,.inl rfl,by decide,trivial,?_⟩
 generalize ns.getD (3:Int).toNat 0=c
 have k0:0<=c % (ws.length:Int):=bh1 _ (by omega)
 have k1:c % (ws.length:Int) < ws.length:=bn6 _ (by omega)
 refine⟨_,rfl,_,rfl,_,_,rfl,rfl,⟨by decide,by decide⟩,_,_,rfl,rfl,⟨by decide,by decide,by decide⟩,_,_,rfl,rfl,(by show (0:Int) < 10 ^ (30:Int).toNat; decide),_,_,rfl,rfl,?_⟩
 dsimp only
 have f0:0<=c / 8 % 10 ^ (30:Int).toNat:=bh1 _ (by decide)
 generalize c / 8 % 10 ^ (30:Int).toNat=f at f0
 refine⟨_,rfl,_,rfl,_,rfl,_,_,rfl,rfl,(by show (0:Int) < (ws.length:Int); omega),?_⟩
 have kl:(c % (ws.length:Int)).toNat < ps.length:=by omega
 have ixk:eQ (intz ps).length (c % (ws.length:Int))=some (c % (ws.length:Int)).toNat:=by
  unfold eQ
  rw [aZ,if_pos (by omega),if_pos (by omega)]
 refine⟨_,_,rfl,ixk,trivial,?_⟩
 generalize (c % (ws.length:Int)).toNat=k at kl
 have e3:(intz ps).set k (.int (-1 - f))=intz (ps.set k (-1 - f)):=by
  show (List.map PV.int ps).set k _=List.map PV.int _
  rw [List.map_set]
 refine⟨_,rfl,_,rfl,_,rfl,_,rfl,cZ _,ws,ls,_,ps.drop 1,rfl,wb,few,.inr (by show PV.lst (gV (intz ps) (some 1) none)=_; rw [aT4]),by rw [bf8]; omega,(fun z=>?_),_,rfl,bI ?_⟩
 ·have:=z.1
  rw [bf8] at this
  omega
 refine⟨_,rfl,_,rfl,ws,ls,_,ps.set k (-1 - f),rfl,wb,few,.inr (by show PV.lst ((intz ps).set k (.int (-1 - f)))=_; rw [e3]),by rw [bd8]; omega,(fun z=>?_),?_⟩
 ·have:=z.2 (-1 - f) (List.mem_set kl _)
  omega
 exact⟨trivial,q⟩
theorem aT6 {ns ws:List Int}{ls:List (Int × Int)}{ps S:List Int}{y5 y6:Option Slot}{Q:PV->Prop} (wb:Wb ws ls) (few:ws.length<=12) (gp:gP ws.length ps) (hS:oP ws ls ps S) (q:Q (.bl true)) :
  aa5 { nx:=fun _=>Q .non,rt:=Q } [some (.sh (flat (.scr ns)) (.scr ns)),some (.sh true (bH ws ls)),si (ws.length:Nat),some (.sh true (.lst (intz ps))),some (.sh true (dU (cE ps S) S)),y5,y6,none,none,none]:=by
 have pl:=gp.1
 have ss:=(xE.mp hS.1).1
 refine⟨_,rfl,⟨_,_,rfl,rfl,cZ _,rfl,cZ _,?_⟩⟩
 refine⟨_,rfl,_,rfl,ws,ls,_,ps,rfl,wb,few,.inr rfl,by omega,fun _ S2 h2=>?_,fun z=>absurd gp z⟩
 obtain rfl:=aa0 h2 hS
 refine⟨trivial,?_⟩
 refine⟨_,rfl,_,rfl,S2,ws.length,rfl,ss,_,rfl,b6 ?_⟩
 refine⟨_,rfl,_,rfl,_,_,_,rfl,rfl,rfl,.inl ⟨_,_,rfl,rfl⟩,pQ 2 S2 S2,_,rfl,?_⟩
 show if (!bZ 3 (.tup (intz S2)) (.tup (intz S2)))=true then _ else _
 rw [pP 2,ba2 rfl]
 refine b6 ⟨_,rfl,_,rfl,.inr ⟨_,_,rfl,rfl⟩,aw3 2 ps ps,_,rfl,?_⟩
 show if (!bZ 3 (.lst (intz ps)) (.lst (intz ps)))=true then _ else _
 rw [aw2 2,ba2 rfl]
 refine b6 ?_
 refine⟨_,rfl,_,rfl,⟨_,_,rfl,rfl,cZ _,?_⟩,fun _ z=>by cases z⟩
 refine⟨ws,ls,_,ps,rfl,wb,few,.inl rfl,by omega,fun _ S3 h3=>?_,fun z=>absurd gp z⟩
 obtain rfl:=aa0 h3 hS
 refine⟨_,rfl,.inl ⟨_,_,rfl,rfl⟩,pQ 2 S3 S3,_,rfl,?_⟩
 show if (!bZ 3 (.tup (intz S3)) (.tup (intz S3)))=true then _ else _
 rw [pP 2,ba2 rfl]
 refine b6 ⟨_,rfl,_,rfl,by show 1<=1000; decide,rfl,_,_,rfl,rfl,cZ _,rfl,by rw [aZ]; show ps.length+1<=_; omega,?_⟩
 have e1:intz ps ++ [PV.int 0]=intz (ps ++ [0]):=by rw [gM]; rfl
 refine⟨ws,ls,_,ps ++ [0],rfl,wb,few,.inr (by show PV.lst (intz ps ++ [PV.int 0])=_; rw [e1]),by rw [ba8]; show ps.length+1<=_; omega,(fun z=>?_),_,rfl,b6 ?_⟩
 ·have:=z.1
  rw [ba8] at this
  have:ps.length+1=ws.length:=this
  omega
 refine⟨_,rfl,.inl ⟨_,_,rfl,rfl,_,rfl,?_⟩⟩
 show if decide ((ws.length:Int)=0)=true then _ else _
 by_cases w0:(ws.length:Int)=0
 ·rw [ba2 w0]
  exact bI ⟨trivial,q⟩
 ·rw [aZ8 w0]
  exact b6 (aT5 (ns:=ns) wb few gp (by omega) q)
theorem aT7:cO aa6 ["script","web","many","prices","due","some","price","handed","found","cell"] xI:=by
 rintro xs Q ⟨ns,rfl,hl,q⟩
 refine⟨_,rfl,ns,7,rfl,hl,by decide,by decide,fun n ws ls n0 n1 w=>⟨trivial,?_⟩⟩
 have wl:=w.many
 have wb:Wb ws ls:=w.wb (by omega)
 have few:ws.length<=12:=by omega
 refine⟨_,rfl,_,_,_,rfl,rfl,rfl,_,_,rfl,rfl,trivial,?_⟩
 rw [aZ]
 refine⟨_,rfl,_,rfl,ns,ws.length,rfl,hl,by omega,fun ps gp=>⟨trivial,?_⟩⟩
 have pl:=gp.1
 refine⟨trivial,?_⟩
 refine⟨_,rfl,ws.length,rfl,few,fun Z pz so=>?_⟩
 refine⟨_,rfl,(fun z=>by cases z),fun i ρ=>∃ (d:PV) (y5 y6:Option Slot),ρ = [some (.sh (flat (.scr ns)) (.scr ns)),some (.sh true (bH ws ls)),si (ws.length:Nat),some (.sh true (.lst (intz ps))),some (.sh true d),y5,y6,none,none,none]/\kM ws ls ps (Z.take i) d,⟨_,none,none,rfl,.inl ⟨rfl,fun S h=>by cases h⟩⟩,?_,?_⟩
 ·rintro i y ρ hy ⟨d,y5,y6,rfl,du⟩
  obtain ⟨S,rfl,hZ⟩:=oE hy
  have hs:=oN.mp ((mB ws.length S).mp (pz.mem_iff.mp (bb4 hZ)))
  have sl:=oG hs
  have tk:Z.take (i+1)=Z.take i ++ [S]:=by rw [bd6,hZ]; rfl
  refine⟨_,rfl,_,rfl,(fun z=>?_),by rw [aZ]; omega,fun i acc=>acc=intz ((S.take i).map fun s=>ps.getD s.toNat 0),rfl,?_,?_⟩
  ·exact qU S
  ·rintro i y acc hy rfl
   obtain ⟨n,rfl,hn⟩:=gL hy
   have nn:=(dL hs).2 n (bb4 hn)
   have ix:L2.atI (intz ps) n=some (.int (ps.getD n.toNat 0)):=by
    have hl:n.toNat < ps.length:=by omega
    have:=iZ (xs:=intz ps) (j:=n.toNat) (v:=.int (ps.getD n.toNat 0)) (by show (List.map PV.int ps)[_]? = _; rw [ba1,aZ7,aZ0 hl]; rfl)
    rwa [Int.toNat_of_nonneg nn.1] at this
   refine⟨_,rfl,_,rfl,_,_,_,rfl,rfl,ix,rfl,?_⟩
   dsimp only
   rw [bd6,hn,bc2,gM]; rfl
  rintro acc rfl
  rw [aZ,bc6]
  refine⟨_,_,rfl,rfl,trivial,?_⟩
  have inn:∀ x ∈ S,x ∈ rng ws.length:=fun x hx=>fK.mpr ((dL hs).2 x hx)
  rcases du with ⟨rfl,h⟩ | ⟨S',rfl,h1,h2,h3⟩
  ·refine⟨_,rfl,rfl,_,rfl,bI (bI ?_)⟩
   refine⟨_,rfl,_,rfl,ws,ls,_,S,rfl,wb,.inl rfl,inn,_,rfl,?_⟩
   cases hf:cB ws ls S with
   | true=>exact bI ⟨_,rfl,_,rfl,by show 2<=1000; decide,kK _ _,trivial,_,_,_,rfl,by rw [tk]; exact aT0 h hf⟩
   | false=>exact b6 ⟨_,_,_,rfl,by rw [tk]; exact aa3 (.inl ⟨rfl,h⟩) hf⟩
  ·refine⟨_,rfl,rfl,_,rfl,b6 ?_⟩
   refine⟨_,rfl,_,rfl,by show 2<=1000; decide,kK _ _,_,rfl,cE ps S,cE ps S',S,S',rfl,rfl,_,rfl,?_⟩
   cases lt:HT.aQ (cE ps S :: S) (cE ps S' :: S') with
   | true=>
    refine bI ?_
    refine⟨_,rfl,_,rfl,ws,ls,_,S,rfl,wb,.inl rfl,inn,_,rfl,?_⟩
    cases hf:cB ws ls S with
    | true=>exact bI ⟨_,rfl,_,rfl,by show 2<=1000; decide,kK _ _,trivial,_,_,_,rfl,by rw [tk]; exact aT1 h3 hf lt⟩
    | false=>exact b6 ⟨_,_,_,rfl,by rw [tk]; exact aa3 (.inr ⟨S',rfl,h1,h2,h3⟩) hf⟩
   | false=>
    exact b6 (b6 ⟨_,_,_,rfl,by rw [tk]; exact aT2 h1 h2 h3 lt⟩)
 ·rintro ρ ⟨d,y5,y6,rfl,du⟩
  rw [eI,bc6] at du
  obtain ⟨S,rfl,hS⟩:=aT3 pz du
  exact aT6 (ns:=ns) wb few gp hS q
end Core
namespace K_k33
open PySem PySem.W L2 PP Core
theorem _root_.L2.FnScope.au {N P:List Str}{s:Scope} (a:s.kind=.function:=by rfl) (b:s.isCoroutine=false:=by rfl) (c:s.isGenerator=false:=by rfl) (d:N.Nodup:=by decide +kernel) (e:N.take P.length=P:=by rfl) (f:∀ x∈P,s.names.lookup x=some .local∨s.names.lookup x=some .cell:=by decide +kernel) (g:∀ y∈s.names,y.2≠.free:=by decide +kernel):FnScope N P s:=⟨a,b,c,d,e,f,g⟩
def aU (i:Nat):Stmt:=PySem.Challenge.pw_kindleweb_k33_cheapest_seeds.main.body.getD i (.Pass ⟨0,0,0,0⟩)
structure FK (K:Frag) (n:Str) (i:Nat) (f:Addr) (d:FuncData):Prop where
 a:nsIn K mainGlobals n=some (some (.ref f))
 F:dX K n n (aU i) f d
structure FM (K:Frag) (mg:Str->Option Value) (n:Str) (i:Nat) (f:Addr) (d:FuncData):Prop where
 F:dX K n n (aU i) f d
 m:mg n=some (.ref f)
theorem FK.M {K:Frag}{mg:Str->Option Value}{n:Str}{i:Nat}{f:Addr}{d:FuncData}{h:Heap} (z:FK K n i f d) (X:K.In h) (G:h.Ns mainGlobals mg):FM K mg n i f d:=⟨z.F,mg_of X G z.a⟩
abbrev Hb (x:Str) (ps:List Str) (i:Nat):Prop:=∀ (kV doc pm:Value) (an:Option Addr) (cdv ct:Value) (us:List Value),us.length=ps.length->bindArgs (fnOf x x (iB (aU i)) (dW (aU i)) (aS (aU i)) .none kV doc pm an cdv ct) ⟨us,[]⟩=pure (ps.zip us)
theorem sJ {A:Around}{k:Nat} (hr:bR k A):A.units+3 < cLine:=by have:=hr.units; omega
section
variable {P : Program} {w : World} {K : Frag} {mg : Str → Option Value} {base : Heap} {f : Addr} {fd : FuncData} {k i : Nat} {x : Str} {ps N : List Str}
theorem Df.au {p:bD} (F:FM K mg x i f fd) (S:FnScope N ps (aS (aU i))) (body:∀ (cdv:Value) (A:Around) (outer:List Env) (s:Shared) (H:Hp) (E:XK),bR k (A.deeper (PyProof.Rows.envOfC x (aS (aU i)) s.heap.objs.size f cdv))->∃ t,eD (cW cY P w K mg base N x (aS (aU i)) f cdv A outer s H E).nox (dW (aU i)) t/\∀ xs Q,p xs Q->t { nx:=fun _=>Q .non,rt:=Q } (fA N xs)) (hb:Hb x ps i:=by intro _ _ _ _ _ _ us hl; first | (obtain ⟨_,rfl⟩:=m7 hl; rfl) | (obtain ⟨_,_,rfl⟩:=wW hl; rfl) | (obtain ⟨_,_,_,rfl⟩:=V0 hl; rfl) | (obtain ⟨_,_,_,_,rfl⟩:=us4 hl; rfl) | (obtain ⟨_,_,_,_,_,rfl⟩:=us5 hl; rfl)) (len:∀ xs Q,p xs Q->xs.length=ps.length:=by intro xs Q h; repeat (first | (obtain ⟨rfl,_⟩:=h; rfl) | (obtain ⟨_,h⟩:=h))):Df P w K mg base (k+1) x ps p:=
 Df.of F.F F.m S hb len body
theorem bY.au {p:dM} (F:FM K mg x i f fd) (S:FnScope N ps (aS (aU i))) (t:(Str->Prop)->aK) (rd:∀ Ep xs Q,p Ep xs Q->t Ep { nx:=fun _=>Q .non,rt:=Q } (fA N xs)) (body:∀ (cdv:Value) (A:Around) (outer:List Env) (s:Shared) (H:Hp) (E:XK) (Ep:Str->Prop),bR k (A.deeper (PyProof.Rows.envOfC x (aS (aU i)) s.heap.objs.size f cdv))->lV (cW (dJ P w) P w K mg base N x (aS (aU i)) f cdv A outer s H E) (EX K H Ep)->eD (cW (dJ P w) P w K mg base N x (aS (aU i)) f cdv A outer s H E) (dW (aU i)) (t Ep)) (hb:Hb x ps i:=by intro _ _ _ _ _ _ us hl; first | (obtain ⟨_,rfl⟩:=m7 hl; rfl) | (obtain ⟨_,_,rfl⟩:=wW hl; rfl) | (obtain ⟨_,_,_,rfl⟩:=V0 hl; rfl) | (obtain ⟨_,_,_,_,rfl⟩:=us4 hl; rfl) | (obtain ⟨_,_,_,_,_,rfl⟩:=us5 hl; rfl)) (len:∀ Ep xs Q,p Ep xs Q->xs.length=ps.length:=by intro Ep xs Q h; repeat (first | (obtain ⟨rfl,_⟩:=h; rfl) | (obtain ⟨_,h⟩:=h))):bY P w K mg base (k+1) x ps p:=
 bY.of F.F F.m S hb t len rd body
end
section
variable {P : Program} {w : World} {K : Frag} {mg : Str → Option Value} {base : Heap} {f : Addr} {fd : FuncData}
theorem sK:(["ahead","behind"]:List Str).Nodup:=by decide +kernel
abbrev aa7:Stmt:=aU 6
theorem scR:FnScope ["things"] ["things"] (aS aa7):=.au
theorem xJ {ns:List Int}{i:Nat}{x y:V} (h1:(ns.map V.int)[i]? = some x) (h2:((ns.map V.int).drop 1)[i]? = some y):∃ p q:Int,x = .int p/\y = .int q/\(ns.zip (ns.drop 1))[i]? = some (p,q):=by
 rw [ba1] at h1
 rw [<- List.map_drop,ba1] at h2
 cases e1:ns[i]? with
 | none=>rw [e1] at h1; cases h1
 | some p=>
  cases e2:(ns.drop 1)[i]? with
  | none=>rw [e2] at h2; cases h2
  | some q=>
   rw [e1] at h1; rw [e2] at h2
   exact⟨p,q,(bc1 h1).symm,(bc1 h2).symm,List.getElem?_zip_eq_some.mpr ⟨e1,e2⟩⟩
theorem aT8 (B:Bt mg) (F:dX K "rises" "rises" aa7 f fd):cG P w K mg base cY 1 f fd ["things"] (Q2 K):=by
 refine F.ok scR (fun vs H Q E h=>?_) (fun cdv A outer s H vs Q E hr h=>?_)
 ·obtain ⟨a,ns,rfl,_⟩:=h
  rfl
 obtain ⟨a,ns,rfl,hS,hn,q⟩:=h
 have lz:((ns.map V.int).drop 1).length<=sizeLine:=bi9 (gD (by rw [bf8,ba3]; omega))
 have lz2:((ns.map V.int).drop 1).length<=(ns.map V.int).length:=by rw [bf8]; omega
 have lz3:(ns.zip (ns.drop 1)).length=((ns.map V.int).drop 1).length:=by rw [List.length_zip,bf8,bf8,ba3]; omega
 rcases hS with hS | hS
 ·refine⟨_,jR (kQ (mU (uB rfl) rfl B.all PyProof.Rows.boot_all (cQ (B2 (N:=["ahead","behind"]) (fr:=[none,none]) rfl (cR.of rfl rfl) (aq1 rfl B.zip (cQ (pv 0) (cQ (tI E3 (pv 0) (tH jP) tG) dD)))
   ⟨fun _ _ _ _=>show PG _ _ (kS K 2 (fX (cV 0) (fX (cV 1) kR))) from mL rfl (gQ (eN (i:=0) sK rfl (Or.inl rfl) (.inr rfl)) (gQ (eN (i:=1) sK rfl (Or.inl rfl) (.inr rfl)) mK)),fun _ _ _ _=>nA,fun _ _ _ _=>t5 oV (pv 0) (pv 1) (e9 _)⟩) dD))),?_⟩
  refine⟨_,rfl,_,rfl,1,rfl,a,_,rfl,hS,fun p hp=>?_,fun e=>?_⟩
  ·have s1:=b7 hp (.tup (dE (ns.map V.int) (some 1) none))
   have hb:aD K (upd H p (.tup (dE (ns.map V.int) (some 1) none))) p ((ns.map V.int).drop 1):=aD.of (by rw [b9,uE])
   refine⟨a,p,_,_,rfl,s1.tup hS,hb,uD (E2 (s1.tup hS) hb lz2) (fun i acc _=>acc=((ns.zip (ns.drop 1)).take i).map fun (p:Int × Int)=>V.bl (decide (p.1 < p.2))) lz (fun _ _=>rfl) (fun _ _ _ _ _ h=>h) (fun i x acc D H' hi hR c hP=>?_) (fun D acc H' hD sm hDa hlen hP=>?_)⟩
   ·obtain ⟨T,x1,y1,rfl,hT,h1,h2⟩:=hR
    obtain ⟨m,k,rfl,rfl,hz⟩:=xJ h1 h2
    refine⟨T,_,rfl,aD.of hT,rfl,_,_,rfl,_,_,rfl,rfl,((Wk.refl _).set (i:=0) rfl).set (i:=1) rfl,nE ⟨_,rfl,_,rfl,_,_,rfl,rfl,c.yes (a9.refl _) ?_⟩⟩
    rw [oB hz,hP]
   ·refine⟨D,(ns.zip (ns.drop 1)).map fun (p:Int × Int)=>decide (p.1 < p.2),rfl,aG.of ?_,q _ (s1.trans sm)⟩
    rw [hDa,hP,<- lz3,bc6,bo3]; rfl
  ·have hb:aD K H a ((ns.map V.int).drop 1):=by
    have:(ns.map V.int).drop 1=ns.map V.int:=by rw [<- uE]; exact e
    rw [this]; exact hS
   refine⟨a,a,_,_,rfl,hS,hb,uD (E2 hS hb lz2) (fun i acc _=>acc=((ns.zip (ns.drop 1)).take i).map fun (p:Int × Int)=>V.bl (decide (p.1 < p.2))) lz (fun _ _=>rfl) (fun _ _ _ _ _ h=>h) (fun i x acc D H' hi hR c hP=>?_) (fun D acc H' hD sm hDa hlen hP=>?_)⟩
   ·obtain ⟨T,x1,y1,rfl,hT,h1,h2⟩:=hR
    obtain ⟨m,k,rfl,rfl,hz⟩:=xJ h1 h2
    refine⟨T,_,rfl,aD.of hT,rfl,_,_,rfl,_,_,rfl,rfl,((Wk.refl _).set (i:=0) rfl).set (i:=1) rfl,nE ⟨_,rfl,_,rfl,_,_,rfl,rfl,c.yes (a9.refl _) ?_⟩⟩
    rw [oB hz,hP]
   ·refine⟨D,(ns.zip (ns.drop 1)).map fun (p:Int × Int)=>decide (p.1 < p.2),rfl,aG.of ?_,q _ sm⟩
    rw [hDa,hP,<- lz3,bc6,bo3]; rfl
 ·refine⟨_,jR (kQ (mU (uB rfl) rfl B.all PyProof.Rows.boot_all (cQ (B2 (N:=["ahead","behind"]) (fr:=[none,none]) rfl (cR.of rfl rfl) (aq7 rfl B.zip (cQ (pv 0) (cQ (tI zM (pv 0) (tH jP) tG) dD)))
   ⟨fun _ _ _ _=>show PG _ _ (kS K 2 (fX (cV 0) (fX (cV 1) kR))) from mL rfl (gQ (eN (i:=0) sK rfl (Or.inl rfl) (.inr rfl)) (gQ (eN (i:=1) sK rfl (Or.inl rfl) (.inr rfl)) mK)),fun _ _ _ _=>nA,fun _ _ _ _=>t5 oV (pv 0) (pv 1) (e9 _)⟩) dD))),?_⟩
  refine⟨_,rfl,_,rfl,1,rfl,a,_,rfl,hS,fun p hp=>?_⟩
  have s1:=b7 hp (.lst (dE (ns.map V.int) (some 1) none))
  have hb:aG K (upd H p (.lst (dE (ns.map V.int) (some 1) none))) p ((ns.map V.int).drop 1):=aG.of (by rw [b9,uE])
  refine⟨a,p,_,_,rfl,s1.seq hS,hb,uD (aq8 (s1.seq hS) hb lz2) (fun i acc _=>acc=((ns.zip (ns.drop 1)).take i).map fun (p:Int × Int)=>V.bl (decide (p.1 < p.2))) lz (fun _ _=>rfl) (fun _ _ _ _ _ h=>h) (fun i x acc D H' hi hR c hP=>?_) (fun D acc H' hD sm hDa hlen hP=>?_)⟩
  ·obtain ⟨T,x1,y1,rfl,hT,h1,h2⟩:=hR
   obtain ⟨m,k,rfl,rfl,hz⟩:=xJ h1 h2
   refine⟨T,_,rfl,aD.of hT,rfl,_,_,rfl,_,_,rfl,rfl,((Wk.refl _).set (i:=0) rfl).set (i:=1) rfl,nE ⟨_,rfl,_,rfl,_,_,rfl,rfl,c.yes (a9.refl _) ?_⟩⟩
   rw [oB hz,hP]
  ·refine⟨D,(ns.zip (ns.drop 1)).map fun (p:Int × Int)=>decide (p.1 < p.2),rfl,aG.of ?_,q _ (s1.trans sm)⟩
   rw [hDa,hP,<- lz3,bc6,bo3]; rfl
abbrev aa8:Stmt:=aU 8
theorem sL:FnScope ["web","around","one","other"] ["web"] (aS aa8):=.au
theorem aT9 (F:dX K "near_lists" "near_lists" aa8 f fd):cG P w K mg base cY 1 f fd ["web"] r0:=by
 refine F.ok sL (fun vs H Q E h=>?_) (fun cdv A outer s H vs Q E hr h=>?_)
 ·obtain ⟨v,ws,ls,rfl,_⟩:=h
  rfl
 obtain ⟨v,ws,ls,rfl,W,hn,hm,hin,q⟩:=h
 refine⟨_,jQ (B3 (i:=1) (N:=["want"]) (fr:=[none]) rfl (cR.of rfl rfl) (oS (i7 mW (pv 0) jP (fun _ _=>rfl)))
   ⟨fun _ _ _ _=>eN (i:=0) (bf5 _ _) rfl (Or.inl rfl) (.inr rfl),fun _ _ _ _=>nA,fun _ _ _ _=>t9 dD⟩ sL.nd rfl rfl rfl)
  (jQ (sW PassesOwn.never rfl (oS (i7 mW (pv 0) jP (fun _ _=>rfl))) (mL (n:=2) rfl (gQ (eN (i:=2) sL.nd rfl (Or.inl rfl) (.inr rfl)) (gQ (eN (i:=3) sL.nd rfl (Or.inl rfl) (.inr rfl)) mK)) )
   (jQ (mJ (mY bm4 bl6 bl7 kY (i7 mV (pv 1) (pv 2) (fun _ _=>rfl)) (cQ (pv 3) dD)))
   (jR (mJ (mY bm4 bl6 bl7 kY (i7 mV (pv 1) (pv 3) (fun _ _=>rfl)) (cQ (pv 2) dD))))))
  (jR (kQ (pv 1)))),?_⟩
 obtain ⟨a,p,q',ys,rfl,ha,hp,hq,hL⟩:=W.at_
 have lw:(ws.map V.int).length=ws.length:=ba3 _
 refine⟨_,rfl,a,_,_,_,rfl,rfl,aD.of ha,rfl,p,rfl,⟨_,aD.of hp⟩,B7 (B5 (aD.of hp)) (fun i acc H'=>∃ bs:List Addr,acc=bs.map V.ref/\bs.length=i/\bs.Nodup/\∀ b ∈ bs,H b=none/\H' b=some (.lst [])) (by rw [lw]; exact bi9 (tS hn))
  (fun D hD=>⟨[],rfl,rfl,List.nodup_nil,fun _ z=>nomatch z⟩) (fun i x acc D H' hx c hPv=>?_) (fun D acc H' hD sm hDa hlen hPv=>?_)⟩
 ·obtain ⟨bs,rfl,hbl,nd,hb⟩:=hPv
  refine⟨C3 (n:=none),nE ⟨be8 _,fun r hr'=>?_⟩⟩
  have hrD:r ≠ D:=fun z=>by rw [z,c.acc] at hr'; cases hr'
  have hrH:H r=none:=c.same.free hr'
  refine c.yes (b7 hr' _) ⟨bs ++ [r],by simp,by simp [hbl],?_,fun b hm=>?_⟩
  ·refine List.nodup_append.mpr ⟨nd,bf5 _ _,fun b hb1 b' hb2 e=>?_⟩
   rw [aZ4.mp hb2] at e
   rw [e] at hb1
   rw [(hb r hb1).2] at hr'; cases hr'
  ·rcases bb3.mp hm with hm | hm
   ·have hbD:b ≠ D:=fun z=>by
     rw [z] at hm
     have:=(hb D hm).2
     rw [c.acc] at this
     have:bs.map V.ref = []:=by injection this with e1; injection e1
     have:bs = []:=List.map_eq_nil_iff.mp this
     rw [this] at hm; simp at hm
    refine⟨(hb b hm).1,?_⟩
    rw [aM hbD,aM (cF (hb b hm).2 hr')]
    exact (hb b hm).2
   ·rw [aZ4.mp hm]
    exact⟨hrH,by rw [aM hrD,b9]⟩
 ·obtain ⟨bs,rfl,hbl,nd,hb⟩:=hPv
  rw [lw] at hbl
  have R0:gC H H' D bs (fun k=>bJ (ls.take 0) k):=by
   refine⟨hD,fun b hm=>⟨(hb b hm).1,fun z=>?_⟩,nd,hDa,fun k b hk=>(hb b (bb4 hk)).2,sm⟩
   rw [z] at hm
   have:=(hb D hm).2
   rw [hDa] at this
   have:bs.map V.ref = []:=by injection this with e1; injection e1
   have:bs = []:=List.map_eq_nil_iff.mp this
   rw [this] at hm; simp at hm
  have lL:=hL.length
  refine⟨_,rfl,a,_,_,_,rfl,rfl,aD.of (sm _ _ ha),rfl,q',rfl,⟨_,aD.of (sm _ _ hq)⟩,yE (K:=K) (a:=q') (xs:=ys) (fun i σ H2=>∃ x y:Option V,σ = [some (.ref a),some (.ref D),x,y]/\gC H H2 D bs (fun k=>bJ (ls.take i) k))
   ⟨none,none,rfl,R0⟩ (fun i σ H2 _ ⟨_,_,_,R⟩=>aD.of (R.same _ _ hq)) ?_ ?_⟩
  ·rintro i y σ H2 hi ⟨x1,x2,rfl,R⟩
   obtain ⟨l,b,hl,rfl,hbt⟩:=hL.get hi
   have hlm:l ∈ ls:=bb4 hl
   obtain ⟨⟨h1,h2⟩,h3,h4⟩:=hin l hlm
   have k1:l.1.toNat < bs.length:=by omega
   have k2:l.2.toNat < bs.length:=by omega
   have e1:bs[l.1.toNat]? = some (bs[l.1.toNat]):=aZ0 k1
   have e2:bs[l.2.toNat]? = some (bs[l.2.toNat]):=aZ0 k2
   refine⟨b,_,rfl,aD.of (R.same _ _ hbt),rfl,_,_,rfl,_,_,rfl,rfl,?_⟩
   refine⟨_,rfl,_,rfl,D,_,_,.ref bs[l.1.toNat],rfl,rfl,aG.of R.row,jX h1 (by rw [ba1,e1]; rfl),nF (aG.of (R.rows _ _ e1)),_,rfl,_,_,_,rfl,rfl,R.rows _ _ e1,?_,?_⟩
   ·rw [ba3]
    have:=l9 (ls.take i) (l.1.toNat:Nat)
    rw [bh3] at this
    exact gD (by omega)
   ·have R1:=R.app e1 l.2
    refine⟨_,rfl,_,rfl,D,_,_,.ref bs[l.2.toNat],rfl,rfl,aG.of R1.row,jX h3 (by rw [ba1,e2]; rfl),nF (aG.of (R1.rows _ _ e2)),_,rfl,_,_,_,rfl,rfl,R1.rows _ _ e2,?_,?_⟩
    ·rw [ba3]
     have:=l9 (ls.take i) (l.2.toNat:Nat)
     rw [bh3] at this
     split
     ·rw [ba8,bg6]; exact gD (by omega)
     ·exact gD (by omega)
    ·have R2:=R1.app e2 l.1
     refine⟨_,_,rfl,R2.congr fun k hk=>?_⟩
     rw [C5 hl]
     have c1:(k=l.1.toNat) ↔ l.1=(k:Int):=by omega
     have c2:(k=l.2.toNat) ↔ l.2=(k:Int):=by omega
     by_cases d1:k=l.1.toNat
     ·by_cases d2:k=l.2.toNat
      ·rw [if_pos d2,if_pos d1,if_pos (c1.mp d1),if_pos (c2.mp d2)]; simp
      ·rw [if_neg d2,if_pos d1,if_pos (c1.mp d1),if_neg (fun z=>d2 (c2.mpr z))]; simp
     ·by_cases d2:k=l.2.toNat
      ·rw [if_pos d2,if_neg d1,if_neg (fun z=>d1 (c1.mpr z)),if_pos (c2.mp d2)]; simp
      ·rw [if_neg d2,if_neg d1,if_neg (fun z=>d1 (c1.mpr z)),if_neg (fun z=>d2 (c2.mpr z))]; simp
  ·
   rintro σ H2 ⟨x1,x2,rfl,R⟩
   refine⟨_,rfl,q D bs H2 hbl ?_⟩
   rw [lL,bc6] at R
   exact R
abbrev aa9:Stmt:=aU 36
theorem sM:FnScope ["web","beside","one","other"] ["web"] (aS aa9):=.au
theorem aU0 (F:dX K "_law_beside" "_law_beside" aa9 f fd):cG P w K mg base cY 1 f fd ["web"] r0:=by
 refine F.ok sM (fun vs H Q E h=>?_) (fun cdv A outer s H vs Q E hr h=>?_)
 ·obtain ⟨v,ws,ls,rfl,_⟩:=h
  rfl
 obtain ⟨v,ws,ls,rfl,W,hn,hm,hin,q⟩:=h
 refine⟨_,jQ (B3 (i:=1) (N:=["hearth"]) (fr:=[none]) rfl (cR.of rfl rfl) (oS (i7 mW (pv 0) jP (fun _ _=>rfl)))
   ⟨fun _ _ _ _=>eN (i:=0) (bf5 _ _) rfl (Or.inl rfl) (.inr rfl),fun _ _ _ _=>nA,fun _ _ _ _=>t9 dD⟩ sM.nd rfl rfl rfl)
  (jQ (sW PassesOwn.never rfl (oS (i7 mW (pv 0) jP (fun _ _=>rfl))) (mL (n:=2) rfl (gQ (eN (i:=2) sM.nd rfl (Or.inl rfl) (.inr rfl)) (gQ (eN (i:=3) sM.nd rfl (Or.inl rfl) (.inr rfl)) mK)) )
   (jQ (mJ (mY bm4 bl6 bl7 kY (i7 mV (pv 1) (pv 2) (fun _ _=>rfl)) (cQ (pv 3) dD)))
   (jR (mJ (mY bm4 bl6 bl7 kY (i7 mV (pv 1) (pv 3) (fun _ _=>rfl)) (cQ (pv 2) dD))))))
  (jR (kQ (pv 1)))),?_⟩
 obtain ⟨a,p,q',ys,rfl,ha,hp,hq,hL⟩:=W.at_
 have lw:(ws.map V.int).length=ws.length:=ba3 _
 refine⟨_,rfl,a,_,_,_,rfl,rfl,aD.of ha,rfl,p,rfl,⟨_,aD.of hp⟩,B7 (B5 (aD.of hp)) (fun i acc H'=>∃ bs:List Addr,acc=bs.map V.ref/\bs.length=i/\bs.Nodup/\∀ b ∈ bs,H b=none/\H' b=some (.lst [])) (by rw [lw]; exact bi9 (tS hn))
  (fun D hD=>⟨[],rfl,rfl,List.nodup_nil,fun _ z=>nomatch z⟩) (fun i x acc D H' hx c hPv=>?_) (fun D acc H' hD sm hDa hlen hPv=>?_)⟩
 ·obtain ⟨bs,rfl,hbl,nd,hb⟩:=hPv
  refine⟨C3 (n:=none),nE ⟨be8 _,fun r hr'=>?_⟩⟩
  have hrD:r ≠ D:=fun z=>by rw [z,c.acc] at hr'; cases hr'
  have hrH:H r=none:=c.same.free hr'
  refine c.yes (b7 hr' _) ⟨bs ++ [r],by simp,by simp [hbl],?_,fun b hm=>?_⟩
  ·refine List.nodup_append.mpr ⟨nd,bf5 _ _,fun b hb1 b' hb2 e=>?_⟩
   rw [aZ4.mp hb2] at e
   rw [e] at hb1
   rw [(hb r hb1).2] at hr'; cases hr'
  ·rcases bb3.mp hm with hm | hm
   ·have hbD:b ≠ D:=fun z=>by
     rw [z] at hm
     have:=(hb D hm).2
     rw [c.acc] at this
     have:bs.map V.ref = []:=by injection this with e1; injection e1
     have:bs = []:=List.map_eq_nil_iff.mp this
     rw [this] at hm; simp at hm
    refine⟨(hb b hm).1,?_⟩
    rw [aM hbD,aM (cF (hb b hm).2 hr')]
    exact (hb b hm).2
   ·rw [aZ4.mp hm]
    exact⟨hrH,by rw [aM hrD,b9]⟩
 ·obtain ⟨bs,rfl,hbl,nd,hb⟩:=hPv
  rw [lw] at hbl
  have R0:gC H H' D bs (fun k=>bJ (ls.take 0) k):=by
   refine⟨hD,fun b hm=>⟨(hb b hm).1,fun z=>?_⟩,nd,hDa,fun k b hk=>(hb b (bb4 hk)).2,sm⟩
   rw [z] at hm
   have:=(hb D hm).2
   rw [hDa] at this
   have:bs.map V.ref = []:=by injection this with e1; injection e1
   have:bs = []:=List.map_eq_nil_iff.mp this
   rw [this] at hm; simp at hm
  have lL:=hL.length
  refine⟨_,rfl,a,_,_,_,rfl,rfl,aD.of (sm _ _ ha),rfl,q',rfl,⟨_,aD.of (sm _ _ hq)⟩,yE (K:=K) (a:=q') (xs:=ys) (fun i σ H2=>∃ x y:Option V,σ = [some (.ref a),some (.ref D),x,y]/\gC H H2 D bs (fun k=>bJ (ls.take i) k))
   ⟨none,none,rfl,R0⟩ (fun i σ H2 _ ⟨_,_,_,R⟩=>aD.of (R.same _ _ hq)) ?_ ?_⟩
  ·rintro i y σ H2 hi ⟨x1,x2,rfl,R⟩
   obtain ⟨l,b,hl,rfl,hbt⟩:=hL.get hi
   have hlm:l ∈ ls:=bb4 hl
   obtain ⟨⟨h1,h2⟩,h3,h4⟩:=hin l hlm
   have k1:l.1.toNat < bs.length:=by omega
   have k2:l.2.toNat < bs.length:=by omega
   have e1:bs[l.1.toNat]? = some (bs[l.1.toNat]):=aZ0 k1
   have e2:bs[l.2.toNat]? = some (bs[l.2.toNat]):=aZ0 k2
   refine⟨b,_,rfl,aD.of (R.same _ _ hbt),rfl,_,_,rfl,_,_,rfl,rfl,?_⟩
   refine⟨_,rfl,_,rfl,D,_,_,.ref bs[l.1.toNat],rfl,rfl,aG.of R.row,jX h1 (by rw [ba1,e1]; rfl),nF (aG.of (R.rows _ _ e1)),_,rfl,_,_,_,rfl,rfl,R.rows _ _ e1,?_,?_⟩
   ·rw [ba3]
    have:=l9 (ls.take i) (l.1.toNat:Nat)
    rw [bh3] at this
    exact gD (by omega)
   ·have R1:=R.app e1 l.2
    refine⟨_,rfl,_,rfl,D,_,_,.ref bs[l.2.toNat],rfl,rfl,aG.of R1.row,jX h3 (by rw [ba1,e2]; rfl),nF (aG.of (R1.rows _ _ e2)),_,rfl,_,_,_,rfl,rfl,R1.rows _ _ e2,?_,?_⟩
    ·rw [ba3]
     have:=l9 (ls.take i) (l.2.toNat:Nat)
     rw [bh3] at this
     split
     ·rw [ba8,bg6]; exact gD (by omega)
     ·exact gD (by omega)
    ·have R2:=R1.app e2 l.1
     refine⟨_,_,rfl,R2.congr fun k hk=>?_⟩
     rw [C5 hl]
     have c1:(k=l.1.toNat) ↔ l.1=(k:Int):=by omega
     have c2:(k=l.2.toNat) ↔ l.2=(k:Int):=by omega
     by_cases d1:k=l.1.toNat
     ·by_cases d2:k=l.2.toNat
      ·rw [if_pos d2,if_pos d1,if_pos (c1.mp d1),if_pos (c2.mp d2)]; simp
      ·rw [if_neg d2,if_pos d1,if_pos (c1.mp d1),if_neg (fun z=>d2 (c2.mpr z))]; simp
     ·by_cases d2:k=l.2.toNat
      ·rw [if_pos d2,if_neg d1,if_neg (fun z=>d1 (c1.mpr z)),if_pos (c2.mp d2)]; simp
      ·rw [if_neg d2,if_neg d1,if_neg (fun z=>d1 (c1.mpr z)),if_neg (fun z=>d2 (c2.mpr z))]; simp
  ·
   rintro σ H2 ⟨x1,x2,rfl,R⟩
   refine⟨_,rfl,q D bs H2 hbl ?_⟩
   rw [lL,bc6] at R
   exact R
theorem aU1:FnScope ["web"] ["web"] (aS (aU 7)):=.au
theorem aU2 (B:Bt mg) (F:FM K mg "hearths_in" 7 f fd)  : Df P w K mg base 1 "hearths_in" ["web"] iR:=
 Df.au F aU1 (fun cdv A outer s H E hr=>by
  exact⟨(O7),(aT (bO (eG B (a8 (c7 (qv 0) aI) aC)))),aD5⟩)
theorem ab0:FnScope ["hearths","chosen","hearth"] ["hearths"] (aS (aU 12)):=.au
theorem aU3 (B:Bt mg) (F:FM K mg "sets_among" 12 f fd)  : Df P w K mg base 1 "sets_among" ["hearths"] rN:=
 Df.au F ab0 (fun cdv A outer s H E hr=>by
  have nd:=ab0.nd
  exact⟨(V5),(aN (b8 (i:=1) nd (gX (a8 (iK aC) aC)))
   (aN (gJ 2 nd (e8 (qv 0))
    (aT (b8 (i:=1) nd (wJ (qv 1) (iN (N:=["some","hearth"]) (fr:=[none,some 2]) (e8 (qv 1)) (fun _ _ _ _=>(R7 (qv 0) (iK (a8 (qv 1) aC)))))))))
   (aT (nZ 1)))),aM5⟩)
theorem ab1:FnScope ["hearths","inside","hearth"] ["hearths"] (aS (aU 13)):=.au
theorem aU4 (B:Bt mg) (F:FM K mg "marked" 13 f fd)  : Df P w K mg base 1 "marked" ["hearths"] qX:=
 Df.au F ab1 (fun cdv A outer s H E hr=>by
  have nd:=ab1.nd
  have hu:=A8 hr
  exact⟨(P4),(aN (jE (i:=1) nd ax6)
   (aN (gJ 2 nd (e8 (qv 0))
    (aT (ax8 hu (i:=1) (qv 2) eF)))
   (aT (nZ 1)))),aE2⟩)
theorem aU5:FnScope ["hearths","inside"] ["hearths","inside"] (aS (aU 14)):=.au
theorem aU6 (B:Bt mg) (F:FM K mg "count_inside" 14 f fd)  : Df P w K mg base 1 "count_inside" ["hearths","inside"] qY:=
 Df.au F aU5 (fun cdv A outer s H E hr=>by
  have hu:=A8 hr
  exact⟨(P5),(aT (bO (eG B (a8 (pZ (N:=["hearth","inside"]) (fr:=[none,some 1]) (e8 (qv 0)) (fun _ _ _ _=>(ax3 hu (qv 0) (qv 1))) (fun _ _ _ _=>(qv 0))) aC)))),aE3⟩)
theorem aU7:FnScope ["holds","place","some"] ["holds","place","some"] (aS (aU 23)):=.au
theorem aU8 (B:Bt mg) (F:FM K mg "holds_without_one" 23 f fd)  : Df P w K mg base 1 "holds_without_one" ["holds","place","some"] rO:=
 Df.au F aU7 (fun cdv A outer s H E hr=>by
  exact⟨(V6),(aT (bO (T9 B rfl (a8 (iN (N:=["hearth","holds","place"]) (fr:=[none,some 0,some 1]) (e8 (qv 2)) (fun _ _ _ _=>(c7 (qv 1) (lM (qv 2) (aw7 aI (qv 0)))))) aC)))),aM6⟩)
theorem aU9:FnScope ["prices","many"] ["prices","many"] (aS (aU 25)):=.au
theorem aV0 (B:Bt mg) (F:FM K mg "made_prices" 25 f fd) (x_BadPrices:Xc K mg base "BadPrices"):bY P w K mg base 1 "made_prices" ["prices","many"] sE:=
 bY.au F aU9 Z2 aR6 (fun cdv A outer s H E Ep hr hX=>by
  exact (aN (dR (ax1 (eG B (a8 (qv 0) aC)) (qv 1)) (aT (rF hX x_BadPrices (a8 pT aC))) dQ)
   (aN (dR (iI (T9 B rfl (a8 (iN (N:=["price"]) (fr:=[none]) (e8 (qv 0)) (fun _ _ _ _=>(G8 (qv 0) aI))) aC))) (aT (rF hX x_BadPrices (a8 pT aC))) dQ)
   (aT (bO (lP B (a8 (qv 0) aC)))))))
theorem aV1:FnScope ["prices","some"] ["prices","some"] (aS (aU 26)):=.au
theorem aV2 (B:Bt mg) (F:FM K mg "price_sum" 26 f fd)  : Df P w K mg base 1 "price_sum" ["prices","some"] sF:=
 Df.au F aV1 (fun cdv A outer s H E hr=>by
  exact⟨(Z3),(aT (bO (T8 B rfl (a8 (iN (N:=["one","prices"]) (fr:=[none,some 0]) (e8 (qv 1)) (fun _ _ _ _=>(c7 (qv 1) (qv 0)))) aC)))),aR7⟩)
theorem aV3:FnScope ["script","k"] ["script","k"] (aS (aU 31)):=.au
theorem aV4 (B:Bt mg) (F:FM K mg "_law_cell_at" 31 f fd)  : Df P w K mg base 1 "_law_cell_at" ["script","k"] fL:=
 Df.au F aV3 (fun cdv A outer s H E hr=>by
  exact⟨(P8),(aN (dR (vE (qv 1) (eG B (a8 (qv 0) aC))) (aT (bO (c7 (qv 0) (qv 1)))) dQ)
   (aT (bO aI))),aE5⟩)
theorem ab2:FnScope ["number","k","turn"] ["number","k"] (aS (aU 32)):=.au
theorem aV5 (B:Bt mg) (F:FM K mg "_law_mixed" 32 f fd)  : Df P w K mg base 1 "_law_mixed" ["number","k"] kI:=
 Df.au F ab2 (fun cdv A outer s H E hr=>by
  have nd:=ab2.nd
  exact⟨(X1),(aN (b8 (i:=2) nd (dG (dF (dF (dF (dG (qv 0) aI) (nW (nW aI (qv 1)) (qv 1))) (nW aI (qv 1))) aI) aI))
   (aN (b8 (i:=2) nd (dG (nW (qv 2) aI) aI))
   (aT (bO (dG (nW (qv 2) (qv 2)) aI))))),aO4⟩)
theorem aV6:FnScope ["found"] ["found"] (aS (aU 33)):=.au
theorem aV7 (B:Bt mg) (F:FM K mg "_law_whole" 33 f fd)  : Df P w K mg base 1 "_law_whole" ["found"] qZ:=
 Df.au F aV6 (fun cdv A outer s H E hr=>by
  exact⟨(P9 K),(aT (bO (pX (ay8 B (qv 0)) (nY (ax5 (ay9 B (qv 0))))))),aE6 (wI K).ii (wI K).ib⟩)
theorem ab3:FnScope ["many","sets","hearth"] ["many"] (aS (aU 39)):=.au
theorem aV8 (B:Bt mg) (F:FM K mg "_law_sets" 39 f fd)  : Df P w K mg base 1 "_law_sets" ["many"] sC:=
 Df.au F ab3 (fun cdv A outer s H E hr=>by
  have nd:=ab3.nd
  have hu3:=sJ hr
  exact⟨(Z0),(aN (b8 (i:=1) nd (gX (a8 (iK aC) aC)))
   (aN (gJ 2 nd (k9 rfl B.range (qv 0))
    (aT (b8 (i:=1) nd (wJ (qv 1) (iN (N:=["some","hearth"]) (fr:=[none,some 2]) (e8 (qv 1)) (fun _ _ _ _=>(R7 (qv 0) (iK (a8 (qv 1) aC)))))))))
   (aT (bO (aQ8 B hu3 (a8 (qv 1) aC)))))),aR4⟩)
theorem aV9:FnScope ["web","number"] ["web","number"] (aS (aU 9)):=.au
theorem aW0 (B:Bt mg) (F:FM K mg "is_hearth" 9 f fd) (d_hearths_in:Df P w K mg base 1 "hearths_in" ["web"] iR):Df P w K mg base 2 "is_hearth" ["web","number"] qV:=
 Df.au F aV9 (fun cdv A outer s H E hr=>by
  exact⟨(O8),(aT (bO (pX (aw8 (qv 1) aI) (nY (G8 (qv 1) (bB d_hearths_in hr (a8 (qv 0) aC))))))),aD6⟩)
theorem aW1:FnScope ["hearths","inside"] ["hearths","inside"] (aS (aU 15)):=.au
theorem aW2 (B:Bt mg) (F:FM K mg "count_outside" 15 f fd) (d_count_inside:Df P w K mg base 1 "count_inside" ["hearths","inside"] qY):Df P w K mg base 2 "count_outside" ["hearths","inside"] rB:=
 Df.au F aW1 (fun cdv A outer s H E hr=>by
  exact⟨(S5),(aT (bO (lM (eG B (a8 (qv 0) aC)) (bB d_count_inside hr (a8 (qv 0) (a8 (qv 1) aC)))))),aJ1⟩)
theorem aW3:FnScope ["web"] ["web"] (aS (aU 21)):=.au
theorem aW4 (B:Bt mg) (F:FM K mg "searched_sets" 21 f fd) (d_sets_among:Df P w K mg base 1 "sets_among" ["hearths"] rN) (d_hearths_in:Df P w K mg base 1 "hearths_in" ["web"] iR) (x_TooMany:Xc K mg base "TooMany") {u_MOST_SEARCHED:Nat} (m_MOST_SEARCHED:mg "MOST_SEARCHED" = some (.int 12 u_MOST_SEARCHED)):bY P w K mg base 2 "searched_sets" ["web"] rP:=
 bY.au F aW3 V7 aM7 (fun cdv A outer s H E Ep hr hX=>by
  exact (aN (dR (ax0 (bB d_hearths_in hr (a8 (qv 0) aC)) (aI6 rfl m_MOST_SEARCHED)) (aT (rF hX x_TooMany (a8 pT aC))) dQ)
   (aT (bO (bB d_sets_among hr (a8 (aF1 B (bB d_hearths_in hr (a8 (qv 0) aC))) aC))))))
theorem ab4:FnScope ["script","most","number"] ["script","most"] (aS (aU 34)):=.au
theorem aW5 (B:Bt mg) (F:FM K mg "_law_hearths" 34 f fd) (d__law_cell_at:Df P w K mg base 1 "_law_cell_at" ["script","k"] fL):Df P w K mg base 2 "_law_hearths" ["script","most"] rT:=
 Df.au F ab4 (fun cdv A outer s H E hr=>by
  have nd:=ab4.nd
  exact⟨(X2),(aN (b8 (i:=2) nd (bB d__law_cell_at hr (a8 (qv 0) (a8 aI aC))))
   (aN (dR (pU (dG (qv 2) aI) aI) (aT (bO (J6 B rfl (a8 (qv 1) (a8 (ay3 B rfl (a8 aI (a8 (lM (eG B (a8 (qv 0) aC)) aI) aC))) aC))))) dQ)
   (aN (dR (pU (dG (qv 2) aI) aI) (aT (bO (dG (dF (jD (qv 2) aI) aI) (dF (qv 1) aI)))) dQ)
   (aT (bO (dG (dF (jD (qv 2) aI) aI) (dF (J6 B rfl (a8 aI (a8 (qv 1) aC))) aI))))))),aO5⟩)
theorem ab5:FnScope ["web","seeds","beside","burning","left","hearth","count"] ["web","seeds"] (aS (aU 37)):=.au
theorem aW6 (B:Bt mg) (F:FM K mg "_law_burning" 37 f fd) (d__law_beside:Df P w K mg base 1 "_law_beside" ["web"] X8):Df P w K mg base 2 "_law_burning" ["web","seeds"] rW:=
 Df.au F ab5 (fun cdv A outer s H E hr=>by
  have nd:=ab5.nd
  exact⟨(X9),(aN (b8 (i:=2) nd (bB d__law_beside hr (a8 (qv 0) aC)))
   (aN (jE (i:=3) nd (iN (N:=["hearth","seeds"]) (fr:=[none,some 1]) (k9 rfl B.range (eG B (a8 (c7 (qv 0) aI) aC))) (fun _ _ _ _=>(ay5 (qv 0) (qv 1)))))
   (aN (b8 (i:=4) nd eF)
   (aN (ax7 PassesOwn.never (iI (qv 4))
    (aN (b8 (i:=4) nd eF)
    (aT (gJ 5 nd (k9 rfl B.range (eG B (a8 (c7 (qv 0) aI) aC)))
     (aN (b8 (i:=6) nd (eG B (a8 (pZ (N:=["other","burning"]) (fr:=[none,some 3]) (e8 (c7 (qv 2) (qv 5))) (fun _ _ _ _=>(pV (c7 (qv 1) (qv 0)))) (fun _ _ _ _=>(qv 0))) aC)))
     (aT (dR (lO (J2 (iJ (pV (c7 (qv 3) (qv 5)))) (J1 (J0 (qv 6) (c7 (c7 (qv 0) aI) (qv 5)))))) (aN (qA (i:=3) (qv 5) eF)
      (aT (b8 (i:=4) nd eF))) dQ)))))))
   (aT (nZ 3)))))),aP3⟩)
theorem ab6:FnScope ["found","many","last","hearth"] ["found","many"] (aS (aU 40)):=.au
theorem aW7 (B:Bt mg) (F:FM K mg "_law_is_set" 40 f fd) (d__law_whole:Df P w K mg base 1 "_law_whole" ["found"] qZ):Df P w K mg base 2 "_law_is_set" ["found","many"] rY:=
 Df.au F ab6 (fun cdv A outer s H E hr=>by
  have nd:=ab6.nd
  exact⟨(Y1 K),(aN (dR (iJ (iI (az0 B (qv 0)))) (aT (bO eF)) dQ)
   (aN (b8 (i:=2) nd (J7 aI))
   (aN (gJ 3 nd (e8 (qv 0))
    (aN (dR (lO (lN (iJ (iI (bB d__law_whole hr (a8 (qv 3) aC)))) (lN (aw9 (qv 3) (qv 2)) (pW (J0 (qv 3) (qv 1)))))) (aT (bO eF)) dQ)
    (aT (b8 (i:=2) nd (qv 3)))))
   (aT (bO eF))))),aP5 (wI K).tt⟩)
theorem ab7:FnScope ["script","many","prices","k","number"] ["script","many"] (aS (aU 41)):=.au
theorem aW8 (B:Bt mg) (F:FM K mg "_law_prices" 41 f fd) (d__law_mixed:Df P w K mg base 1 "_law_mixed" ["number","k"] kI) (d__law_cell_at:Df P w K mg base 1 "_law_cell_at" ["script","k"] fL):Df P w K mg base 2 "_law_prices" ["script","many"] sG:=
 Df.au F ab7 (fun cdv A outer s H E hr=>by
  have nd:=ab7.nd
  exact⟨(Z4),(aN (jE (i:=2) nd (gX aC))
   (aN (gJ 3 nd (k9 rfl B.range (qv 1))
    (aN (b8 (i:=4) nd (bB d__law_mixed hr (a8 (bB d__law_cell_at hr (a8 (qv 0) (a8 aI aC))) (a8 (dF (qv 3) aI) aC))))
    (aN (dR (vE (dF aI (qv 3)) (eG B (a8 (qv 0) aC))) (aT (b8 (i:=4) nd (dF (jD (c7 (qv 0) (dF aI (qv 3))) aI) (bB d__law_cell_at hr (a8 (qv 0) (a8 aI aC)))))) dQ)
    (aT (pY 2 (c7 (gX (a8 (dG (qv 4) aI) (a8 (dF aI (dG (qv 4) aI)) (a8 (dG (qv 4) (vD aI aI)) (a8 (dF (vD aI aI) (dG (qv 4) aI)) aC))))) (dG (jD (qv 4) aI) aI)))))))
   (aT (nZ 2)))),aR8⟩)
theorem aW9:FnScope ["web","numbers"] ["web","numbers"] (aS (aU 10)):=.au
theorem aX0 (B:Bt mg) (F:FM K mg "is_set" 10 f fd) (d_rises:Df P w K mg base 1 "rises" ["things"] w6) (d_is_hearth:Df P w K mg base 2 "is_hearth" ["web","number"] qV):Df P w K mg base 3 "is_set" ["web","numbers"] qW:=
 Df.au F aW9 (fun cdv A outer s H E hr=>by
  exact⟨(O9),(aT (bO (pX (bB d_rises hr (a8 (qv 1) aC)) (nY (ay2 B rfl (a8 (iN (N:=["number","web"]) (fr:=[none,some 0]) (e8 (qv 1)) (fun _ _ _ _=>(bB d_is_hearth hr (a8 (qv 1) (a8 (qv 0) aC))))) aC)))))),aD7⟩)
theorem ab8:FnScope ["web","around","block","inside"] ["web","around","block"] (aS (aU 18)):=.au
theorem aX1 (B:Bt mg) (F:FM K mg "staying" 18 f fd) (d_marked:Df P w K mg base 1 "marked" ["hearths"] qX) (d_count_outside:Df P w K mg base 2 "count_outside" ["hearths","inside"] rB):Df P w K mg base 3 "staying" ["web","around","block"] rC:=
 Df.au F ab8 (fun cdv A outer s H E hr=>by
  have nd:=ab8.nd
  exact⟨(S7),(aN (b8 (i:=3) nd (bB d_marked hr (a8 (qv 2) aC)))
   (aT (bO (lP B (a8 (pZ (N:=["hearth","inside","around","web"]) (fr:=[none,some 3,some 1,some 0]) (e8 (qv 2)) (fun _ _ _ _=>(vE (bB d_count_outside hr (a8 (c7 (qv 2) (qv 0)) (a8 (qv 1) aC))) (c7 (c7 (qv 3) aI) (qv 0)))) (fun _ _ _ _=>(qv 0))) aC))))),aJ2⟩)
theorem ab9:FnScope ["script","most","many","sparse","digits","cells","k","links","counts","other","number","one","draw","wants"] ["script","most"] (aS (aU 35)):=.au
theorem aX2 (B:Bt mg) (F:FM K mg "_law_web" 35 f fd) (d__law_hearths:Df P w K mg base 2 "_law_hearths" ["script","most"] rT) (d__law_cell_at:Df P w K mg base 1 "_law_cell_at" ["script","k"] fL) (d__law_mixed:Df P w K mg base 1 "_law_mixed" ["number","k"] kI):Df P w K mg base 3 "_law_web" ["script","most"] sD:=
 Df.au F ab9 (fun cdv A outer s H E hr=>by
  have nd:=ab9.nd
  exact⟨(Z1),(aN (b8 (i:=2) nd (bB d__law_hearths hr (a8 (qv 0) (a8 (qv 1) aC))))
   (aN (b8 (i:=3) nd (dF aI (dG (bB d__law_cell_at hr (a8 (qv 0) (a8 aI aC))) aI)))
   (aN (b8 (i:=4) nd (G9 (dG (jD (bB d__law_cell_at hr (a8 (qv 0) (a8 aI aC))) aI) aI) aI))
   (aN (jE (i:=5) nd (K4 (qv 0) (vI aI) (vI (dF aI (qv 2)))))
   (aN (gJ 6 nd (J4 rfl B.range (eG B (a8 (qv 5) aC)) (qv 2))
    (aT (pY 5 (bB d__law_mixed hr (a8 (bB d__law_cell_at hr (a8 (qv 0) (a8 aI aC))) (a8 (qv 6) aC))))))
   (aN (jE (i:=7) nd (gX aC))
   (aN (jE (i:=8) nd (aI5 (gX (a8 aI aC)) (qv 2)))
   (aN (gJ 9 nd (k9 rfl B.range (qv 2))
    (aN (b8 (i:=10) nd (jD (c7 (qv 5) (qv 9)) aI))
    (aT (gJ 11 nd (k9 rfl B.range (qv 9))
     (aN (b8 (i:=12) nd (qv 10))
     (aN (b8 (i:=10) nd (jD (qv 10) (qv 3)))
     (aN (dR (iJ (iI (qv 4))) (aT (b8 (i:=12) nd (bB d__law_mixed hr (a8 (c7 (qv 5) (qv 9)) (a8 (dF (qv 11) aI) aC))))) dQ)
     (aT (dR (pU (dG (qv 12) (qv 3)) aI) (aN (pY 7 (iK (a8 (qv 11) (a8 (qv 9) aC))))
      (aN (qA (i:=8) (qv 11) (dF (c7 (qv 8) (qv 11)) aI))
      (aT (qA (i:=8) (qv 9) (dF (c7 (qv 8) (qv 9)) aI))))) dQ)))))))))
   (aN (az4 (i:=13) nd (N:=["k","cells","counts"]) (fr:=[none,some 5,some 8]) (k9 rfl B.range (qv 2)) (fun _ _ _ _=>(dG (c7 (qv 1) (qv 0)) (dF (c7 (qv 2) (qv 0)) aI))))
   (aT (bO (iK (a8 (lP B (a8 (qv 13) aC)) (a8 (lP B (a8 (aL6 B (a8 (qv 7) aC)) aC)) aC)))))))))))))),aR5⟩)
theorem aX3:FnScope ["web","seeds"] ["web","seeds"] (aS (aU 38)):=.au
theorem aX4 (B:Bt mg) (F:FM K mg "_law_lights" 38 f fd) (d__law_burning:Df P w K mg base 2 "_law_burning" ["web","seeds"] rW):Df P w K mg base 3 "_law_lights" ["web","seeds"] rX:=
 Df.au F aX3 (fun cdv A outer s H E hr=>by
  exact⟨(Y0),(aT (bO (G9 (eG B (a8 (pZ (N:=["fire"]) (fr:=[none]) (e8 (bB d__law_burning hr (a8 (qv 0) (a8 (qv 1) aC)))) (fun _ _ _ _=>(iJ (pV (qv 0)))) (fun _ _ _ _=>(qv 0))) aC)) aI))),aP4⟩)
theorem aX5:FnScope ["web","hearths"] ["web","hearths"] (aS (aU 11)):=.au
theorem aX6 (B:Bt mg) (F:FM K mg "made_set" 11 f fd) (d_is_set:Df P w K mg base 3 "is_set" ["web","numbers"] qW) (x_BadSet:Xc K mg base "BadSet"):bY P w K mg base 4 "made_set" ["web","hearths"] rJ:=
 bY.au F aX5 U9 aL4 (fun cdv A outer s H E Ep hr hX=>by
  exact (aN (dR (iJ (iI (bB d_is_set hr (a8 (qv 0) (a8 (qv 1) aC))))) (aT (rF hX x_BadSet (a8 pT aC))) dQ)
   (aT (bO (lP B (a8 (qv 1) aC))))))
theorem ac0:FnScope ["web","block","chosen"] ["web","block"] (aS (aU 17)):=.au
theorem aX7 (B:Bt mg) (F:FM K mg "is_cold" 17 f fd) (d_made_set:bY P w K mg base 4 "made_set" ["web","hearths"] rJ) (d_staying:Df P w K mg base 3 "staying" ["web","around","block"] rC) (d_near_lists:Df P w K mg base 1 "near_lists" ["web"] oD):bY P w K mg base 5 "is_cold" ["web","block"] rM:=
 bY.au F ac0 V1 aL7 (fun cdv A outer s H E Ep hr hX=>by
  have nd:=ac0.nd
  have hu3:=sJ hr
  exact (aN (b8 (i:=2) nd (lY hX d_made_set hr (a8 (qv 0) (a8 (qv 1) aC))))
   (aT (bO (K3 hu3 (bB d_staying hr (a8 (qv 0) (a8 (bB d_near_lists hr (a8 (qv 0) aC)) (a8 (qv 2) aC)))) (qv 2))))))
theorem ac1:FnScope ["web","chosen","holds","place"] ["web","chosen"] (aS (aU 22)):=.au
theorem aX8 (B:Bt mg) (F:FM K mg "holding_cold" 22 f fd) (d_holds_without_one:Df P w K mg base 1 "holds_without_one" ["holds","place","some"] rO) (d_is_cold:bY P w K mg base 5 "is_cold" ["web","block"] rM):bY P w K mg base 6 "holding_cold" ["web","chosen"] rQ:=
 bY.au F ac1 V8 aN0 (fun cdv A outer s H E Ep hr hX=>by
  have nd:=ac1.nd
  exact (aN (jE (i:=2) nd (gX (a8 eF aC)))
   (aN (gJ 3 (hp:=hX.own) nd (J4 rfl B.range aI (eG B (a8 (qv 1) aC)))
    (aT (pY 2 (ax4 (bB d_holds_without_one hr (a8 (qv 2) (a8 (qv 3) (a8 (c7 (qv 1) (qv 3)) aC)))) (nY (lY hX d_is_cold hr (a8 (qv 0) (a8 (c7 (qv 1) (qv 3)) aC))))))))
   (aT (nZ 2)))))
theorem ac2:FnScope ["web","chosen","holds","last"] ["web"] (aS (aU 28)):=.au
theorem aX9 (B:Bt mg) (F:FM K mg "lighting_sets" 28 f fd) (d_searched_sets:bY P w K mg base 2 "searched_sets" ["web"] rP) (d_holding_cold:bY P w K mg base 6 "holding_cold" ["web","chosen"] rQ):bY P w K mg base 7 "lighting_sets" ["web"] sB:=
 bY.au F ac2 Y8 aR2 (fun cdv A outer s H E Ep hr hX=>by
  have nd:=ac2.nd
  exact (aN (b8 (i:=1) nd (lY hX d_searched_sets hr (a8 (qv 0) aC)))
   (aN (b8 (i:=2) nd (lY hX d_holding_cold hr (a8 (qv 0) (a8 (qv 1) aC))))
   (aN (b8 (i:=3) nd (lM (eG B (a8 (qv 1) aC)) aI))
   (aT (bO (aI3 (N:=["place","seeds","holds","last"]) (fr:=[none,none,some 2,some 3]) (aI1 rfl B.enum (qv 1)) (fun _ _ _ _=>(iJ (pV (c7 (qv 2) (lM (qv 3) (qv 0)))))) (fun _ _ _ _=>(qv 1)))))))))
theorem ac3:FnScope ["web","prices","lighting","known","best"] ["web","prices"] (aS (aU 29)):=.au
theorem aY0 (B:Bt mg) (F:FM K mg "cheapest" 29 f fd) (d_lighting_sets:bY P w K mg base 7 "lighting_sets" ["web"] sB) (d_made_prices:bY P w K mg base 1 "made_prices" ["prices","many"] sE) (d_hearths_in:Df P w K mg base 1 "hearths_in" ["web"] iR) (d_price_sum:Df P w K mg base 1 "price_sum" ["prices","some"] sF):bY P w K mg base 8 "cheapest" ["web","prices"] kL:=
 bY.au F ac3 aa1 aS8 (fun cdv A outer s H E Ep hr hX=>by
  have nd:=ac3.nd
  exact (aN (b8 (i:=2) nd (lY hX d_lighting_sets hr (a8 (qv 0) aC)))
   (aN (b8 (i:=3) nd (lY hX d_made_prices hr (a8 (qv 1) (a8 (bB d_hearths_in hr (a8 (qv 0) aC)) aC))))
   (aN (b8 (i:=4) nd (aS4 B rfl (Z9 hr) (a8 (iN (N:=["seeds","known"]) (fr:=[none,some 3]) (e8 (qv 2)) (fun _ _ _ _=>(iK (a8 (bB d_price_sum hr (a8 (qv 1) (a8 (qv 0) aC))) (a8 (qv 0) aC))))) aC)))
   (aT (bO (c7 (qv 4) aI)))))))
theorem ac4:FnScope ["web","prices","kinds","e"] ["web","prices"] (aS (aU 42)):=.au
theorem aY1 (B:Bt mg) (F:FM K mg "_law_refused" 42 f fd) (d_cheapest:bY P w K mg base 8 "cheapest" ["web","prices"] kL) (cat_HearthError:wR K mg "HearthError") (is_BadSet:oM K mg "BadSet") (is_BadPrices:oM K mg "BadPrices") (is_ValueError:wT K mg):Df P w K mg base 9 "_law_refused" ["web","prices"] mG:=
 Df.au F ac4 (fun cdv A outer s H E hr=>by
  have nd:=ac4.nd
  have hu3:=sJ hr
  exact⟨(aa2),(aN (b8 (i:=2) nd vC)
   (aN (aK8 3 cat_HearthError nd (aK6 d_cheapest hr (fun _=>(a8 (qv 0) (a8 (qv 1) aC)))) (fun _=>(aT (b8 (i:=2) nd (gX (a8 (U6 B is_BadPrices (qv 3)) (a8 (U6 B is_BadSet (qv 3)) (a8 (aL2 B is_ValueError (qv 3)) aC))))))))
   (aT (bO (K3 hu3 (qv 2) (gX (a8 eF (a8 eF (a8 eF aC))))))))),aS9⟩)
theorem ac5:FnScope ["script","web","many","prices","due","some","price","handed","found","cell"] ["script"] (aS (aU 43)):=.au
theorem aY2 (B:Bt mg) (F:dX K "law" "law" (aU 43) f fd) (d__law_web:Df P w K mg base 3 "_law_web" ["script","most"] sD) (d__law_prices:Df P w K mg base 2 "_law_prices" ["script","many"] sG) (d__law_sets:Df P w K mg base 1 "_law_sets" ["many"] sC) (d_cheapest:bY P w K mg base 8 "cheapest" ["web","prices"] kL) (d__law_cell_at:Df P w K mg base 1 "_law_cell_at" ["script","k"] fL) (d__law_refused:Df P w K mg base 9 "_law_refused" ["web","prices"] mG) (d__law_lights:Df P w K mg base 3 "_law_lights" ["web","seeds"] rX) (d__law_is_set:Df P w K mg base 2 "_law_is_set" ["found","many"] rY):cG P w K mg base cY 10 f fd ["script"] (nL K xI):=
 aG1 F ac5 (fun xs Q h=>by unfold xI at h; repeat (first | (obtain ⟨rfl,_⟩:=h; rfl) | (obtain ⟨_,h⟩:=h))) (fun cdv A outer s H E hr=>by
  have nd:=ac5.nd
  have hu3:=sJ hr
  exact⟨(aa6),(aN (b8 (i:=1) nd (bB d__law_web hr (a8 (qv 0) (a8 aI aC))))
   (aN (b8 (i:=2) nd (eG B (a8 (c7 (qv 1) aI) aC)))
   (aN (b8 (i:=3) nd (bB d__law_prices hr (a8 (qv 0) (a8 (qv 2) aC))))
   (aN (b8 (i:=4) nd vC)
   (aN (gJ 5 nd (e8 (bB d__law_sets hr (a8 (qv 2) aC)))
    (aN (b8 (i:=6) nd (T8 B rfl (a8 (iN (N:=["hearth","prices"]) (fr:=[none,some 3]) (e8 (qv 5)) (fun _ _ _ _=>(c7 (qv 1) (qv 0)))) aC)))
    (aT (dR (lO (J2 (lO (lN (ax2 (qv 4) vC) (pW (aS7 (Z9 hr) (iK (a8 (qv 6) (a8 (qv 5) aC))) (qv 4))))) (J1 (iI (bB d__law_lights hr (a8 (qv 1) (a8 (qv 5) aC))))))) (aT (b8 (i:=4) nd (iK (a8 (qv 6) (a8 (qv 5) aC))))) dQ))))
   (aN (jE (i:=7) nd (ay1 B (a8 (qv 3) aC)))
   (aN (b8 (i:=8) nd (U2 d_cheapest hr (a8 (qv 1) (a8 (qv 7) aC))))
   (aN (dR (lO (lN (iJ (iI (bB d__law_is_set hr (a8 (qv 8) (a8 (qv 2) aC))))) (lN (vH hu3 (qv 8) (c7 (qv 4) aI)) (pW (vH hu3 (qv 7) (qv 3)))))) (aT (bO eF)) dQ)
   (aN (dR (lO (lN (vH hu3 (U2 d_cheapest hr (a8 (qv 1) (a8 (lP B (a8 (qv 3) aC)) aC))) (qv 8)) (pW (iJ (iI (bB d__law_refused hr (a8 (qv 1) (a8 (wJ (qv 3) (gX (a8 aI aC))) aC)))))))) (aT (bO eF)) dQ)
   (aN (dR (pU (qv 2) aI) (aT (bO eF)) dQ)
   (aN (b8 (i:=9) nd (bB d__law_cell_at hr (a8 (qv 0) (a8 aI aC))))
   (aN (qA (i:=7) (dG (qv 9) (qv 2)) (lM (J7 aI) (dG (jD (qv 9) aI) (vD aI aI))))
   (aT (bO (pX (bB d__law_refused hr (a8 (qv 1) (a8 (K4 (qv 3) (vI aI) az3) aC))) (nY (bB d__law_refused hr (a8 (qv 1) (a8 (qv 7) aC))))))))))))))))))),aT7⟩)
end
set_option autoImplicit true in
theorem aY3 {l:OpenLaw}{w:World}{K:Frag}{h:Heap}{mg:Str->Option Value} (X:K.In h) (G:h.Ns mainGlobals mg) (hfa:mg "law" = some (.ref fa))
  (h0:FK K "rises" 6 f0 d0)
  (h1:FK K "hearths_in" 7 f1 d1)
  (h2:FK K "near_lists" 8 f2 d2)
  (h3:FK K "sets_among" 12 f3 d3)
  (h4:FK K "marked" 13 f4 d4)
  (h5:FK K "count_inside" 14 f5 d5)
  (h6:FK K "holds_without_one" 23 f6 d6)
  (h7:FK K "made_prices" 25 f7 d7)
  (h8:FK K "price_sum" 26 f8 d8)
  (h9:FK K "_law_cell_at" 31 f9 d9)
  (h10:FK K "_law_mixed" 32 f10 d10)
  (h11:FK K "_law_whole" 33 f11 d11)
  (h12:FK K "_law_beside" 36 f12 d12)
  (h13:FK K "_law_sets" 39 f13 d13)
  (h14:FK K "is_hearth" 9 f14 d14)
  (h15:FK K "count_outside" 15 f15 d15)
  (h16:FK K "searched_sets" 21 f16 d16)
  (h17:FK K "_law_hearths" 34 f17 d17)
  (h18:FK K "_law_burning" 37 f18 d18)
  (h19:FK K "_law_is_set" 40 f19 d19)
  (h20:FK K "_law_prices" 41 f20 d20)
  (h21:FK K "is_set" 10 f21 d21)
  (h22:FK K "staying" 18 f22 d22)
  (h23:FK K "_law_web" 35 f23 d23)
  (h24:FK K "_law_lights" 38 f24 d24)
  (h25:FK K "made_set" 11 f25 d25)
  (h26:FK K "is_cold" 17 f26 d26)
  (h27:FK K "holding_cold" 22 f27 d27)
  (h28:FK K "lighting_sets" 28 f28 d28)
  (h29:FK K "cheapest" 29 f29 d29)
  (h30:FK K "_law_refused" 42 f30 d30)
  (a31:nsIn K mainGlobals "law" = some (some (.ref f31))) (l31:K.lookup f31=some ⟨oc31,od31,.func (fnOf "law" "law" (iB (aU 43)) (dW (aU 43)) (aS (aU 43)) .none kV31 dc31 pm31 an31 cd31 ct31),sl31⟩) (c31:codeIn K cd31 "law" = true) (k31:keepIn K (.ref f31)=true)
  (z_len:nsIn K mainGlobals "len" = some none)
  (z_range:nsIn K mainGlobals "range" = some none)
  (z_tuple:nsIn K mainGlobals "tuple" = some none)
  (z_list:nsIn K mainGlobals "list" = some none)
  (z_sorted:nsIn K mainGlobals "sorted" = some none)
  (z_all:nsIn K mainGlobals "all" = some none)
  (z_any:nsIn K mainGlobals "any" = some none)
  (z_zip:nsIn K mainGlobals "zip" = some none)
  (z_min:nsIn K mainGlobals "min" = some none)
  (z_max:nsIn K mainGlobals "max" = some none)
  (z_sum:nsIn K mainGlobals "sum" = some none)
  (z_isinstance:nsIn K mainGlobals "isinstance" = some none)
  (z_int:nsIn K mainGlobals "int" = some none)
  (z_bool:nsIn K mainGlobals "bool" = some none)
  (z_enumerate:nsIn K mainGlobals "enumerate" = some none)
  {u_MOST_SEARCHED:Nat} (z_MOST_SEARCHEDx:nsIn K mainGlobals "MOST_SEARCHED" = some (some (.int 12 u_MOST_SEARCHED)))
  {C_HearthError C_BadSet C_BadPrices C_TooMany:Addr}
  (aX_HE:nsIn K mainGlobals "HearthError" = some (some (.ref C_HearthError)))
  (aX_BS:nsIn K mainGlobals "BadSet" = some (some (.ref C_BadSet)))
  (aX_BP:nsIn K mainGlobals "BadPrices" = some (some (.ref C_BadPrices)))
  (aX_TM:nsIn K mainGlobals "TooMany" = some (some (.ref C_TooMany)))
  (zX_BW:nsIn K mainGlobals "BadWeb" = some none)
  (zX_BO:nsIn K mainGlobals "BadOrder" = some none)
  (zX_BB:nsIn K mainGlobals "BadBoard" = some none)
  (zX_BD:nsIn K mainGlobals "BadDeed" = some none)
  (zX_NW:nsIn K mainGlobals "NotWood" = some none)
  (zX_NP:nsIn K mainGlobals "NoPaper" = some none)
  (zX_NS:nsIn K mainGlobals "NoSuch" = some none)
  (zX_NT:nsIn K mainGlobals "NoText" = some none)
  (zX_OR:nsIn K mainGlobals "OddRound" = some none)
  (y_fg:specialIn K (.builtin "object.__class__") "__get__" = some (some (.builtin "getset_descriptor.__get__")))
  (y_ft:takesIn K (.builtin "object.__class__")=some true)
  (z_VE:nsIn K mainGlobals "ValueError" = some none)
  (y1_HE:isClsIn K C_HearthError=true)
  (y2_HE:typeIn K (.ref C_HearthError)=some (.type "type"))
  (y3_HE:findIn K (.ref C_HearthError) "__getattribute__" = some (some (.builtin "BaseException.__getattribute__")))
  (y4_HE:findIn K (.ref C_HearthError) "__getattr__" = some none)
  (y5_HE:findIn K (.ref C_HearthError) "__class__" = some (some (.builtin "object.__class__")))
  (y6_HE:mroIn K C_HearthError (.type "object")=some true)
  (y7_HE:mroIn K C_HearthError (.type "BaseException")=some true)
  (y1_BS:isClsIn K C_BadSet=true)
  (y2_BS:typeIn K (.ref C_BadSet)=some (.type "type"))
  (y3_BS:findIn K (.ref C_BadSet) "__getattribute__" = some (some (.builtin "BaseException.__getattribute__")))
  (y4_BS:findIn K (.ref C_BadSet) "__getattr__" = some none)
  (y5_BS:findIn K (.ref C_BadSet) "__class__" = some (some (.builtin "object.__class__")))
  (y6_BS:mroIn K C_BadSet (.type "object")=some true)
  (y7_BS:mroIn K C_BadSet (.type "BaseException")=some true)
  (y1_BP:isClsIn K C_BadPrices=true)
  (y2_BP:typeIn K (.ref C_BadPrices)=some (.type "type"))
  (y3_BP:findIn K (.ref C_BadPrices) "__getattribute__" = some (some (.builtin "BaseException.__getattribute__")))
  (y4_BP:findIn K (.ref C_BadPrices) "__getattr__" = some none)
  (y5_BP:findIn K (.ref C_BadPrices) "__class__" = some (some (.builtin "object.__class__")))
  (y6_BP:mroIn K C_BadPrices (.type "object")=some true)
  (y7_BP:mroIn K C_BadPrices (.type "BaseException")=some true)
  (y1_TM:isClsIn K C_TooMany=true)
  (y2_TM:typeIn K (.ref C_TooMany)=some (.type "type"))
  (y3_TM:findIn K (.ref C_TooMany) "__getattribute__" = some (some (.builtin "BaseException.__getattribute__")))
  (y4_TM:findIn K (.ref C_TooMany) "__getattr__" = some none)
  (y5_TM:findIn K (.ref C_TooMany) "__class__" = some (some (.builtin "object.__class__")))
  (y6_TM:mroIn K C_TooMany (.type "object")=some true)
  (y7_TM:mroIn K C_TooMany (.type "BaseException")=some true)
  (sB_HE:subIn K (.ref C_HearthError) (.type "BaseException")=some true)
  (s_BS_HE:subIn K (.ref C_BadSet) (.ref C_HearthError)=some true)
  (s_BP_HE:subIn K (.ref C_BadPrices) (.ref C_HearthError)=some true)
  (s_TM_HE:subIn K (.ref C_TooMany) (.ref C_HearthError)=some true)
  (sN_BP:subIn K (.type "NoneType") (.ref C_BadPrices)=some false)
  (s_BS_BP:subIn K (.ref C_BadSet) (.ref C_BadPrices)=some false)
  (n_BS_BP:(C_BadSet == C_BadPrices)=false)
  (s_TM_BP:subIn K (.ref C_TooMany) (.ref C_BadPrices)=some false)
  (n_TM_BP:(C_TooMany == C_BadPrices)=false)
  (sN_BS:subIn K (.type "NoneType") (.ref C_BadSet)=some false)
  (s_BP_BS:subIn K (.ref C_BadPrices) (.ref C_BadSet)=some false)
  (n_BP_BS:(C_BadPrices == C_BadSet)=false)
  (s_TM_BS:subIn K (.ref C_TooMany) (.ref C_BadSet)=some false)
  (n_TM_BS:(C_TooMany == C_BadSet)=false)
  (sV_BS:subIn K (.ref C_BadSet) (.type "ValueError")=some true)
  (sV_BP:subIn K (.ref C_BadPrices) (.type "ValueError")=some true)
  (sV_TM:subIn K (.ref C_TooMany) (.type "ValueError")=some true)
  (q_BP:excIn K C_BadPrices [.type "ValueError",.type "Exception",.type "BaseException",.type "object"] "ValueError.__new__" = true)
  (q_BS:excIn K C_BadSet [.type "ValueError",.type "Exception",.type "BaseException",.type "object"] "ValueError.__new__" = true)
  (q_TM:excIn K C_TooMany [.type "ValueError",.type "Exception",.type "BaseException",.type "object"] "ValueError.__new__" = true)
  : ∃ fd:FuncData,(∀ (s:Shared) (v:Value),BindsTo s fd ⟨[v],[]⟩ [("script",v)])/\∀ base:Heap,K.In base->base.Ns mainGlobals mg->cG l.prog w K mg base cY 10 fa fd ["script"] (r6 K):=by
 have e:=hfa.symm.trans (mg_of X G a31)
 cases e
 have F31:=ao3 (st:=aU 43) l31 c31 k31
 have m31:=mg_of X G a31
 have B:Bt mg:=⟨mg_none_of X G z_len,mg_none_of X G z_range,mg_none_of X G z_tuple,mg_none_of X G z_list,mg_none_of X G z_sorted,mg_none_of X G z_all,mg_none_of X G z_any,mg_none_of X G z_zip,mg_none_of X G z_min,mg_none_of X G z_max,mg_none_of X G z_sum,mg_none_of X G z_isinstance,mg_none_of X G z_int,mg_none_of X G z_bool,mg_none_of X G z_enumerate⟩
 have m_MOST_SEARCHED:=mg_of X G z_MOST_SEARCHEDx
 refine⟨fnOf "law" "law" (iB (aU 43)) (dW (aU 43)) (aS (aU 43)) .none kV31 dc31 pm31 an31 cd31 ct31,fun s v=>.of_eq rfl,fun base KB _=>?_⟩
 have XK_HearthError:jK K C_HearthError:=⟨y1_HE,y2_HE,y3_HE,y4_HE,y5_HE,y_fg,y_ft,y6_HE,y7_HE⟩
 have XK_BadSet:jK K C_BadSet:=⟨y1_BS,y2_BS,y3_BS,y4_BS,y5_BS,y_fg,y_ft,y6_BS,y7_BS⟩
 have XK_BadPrices:jK K C_BadPrices:=⟨y1_BP,y2_BP,y3_BP,y4_BP,y5_BP,y_fg,y_ft,y6_BP,y7_BP⟩
 have XK_TooMany:jK K C_TooMany:=⟨y1_TM,y2_TM,y3_TM,y4_TM,y5_TM,y_fg,y_ft,y6_TM,y7_TM⟩
 have cat_HearthError:wR K mg "HearthError":=⟨C_HearthError,mg_of X G aX_HE,⟨y1_HE,y2_HE,sB_HE⟩,fun n C h2 h1=>by
  obtain ⟨hm,hb⟩:=rG h2
  simp only [m5,aZ6,ba6,bd7] at hm
  rcases hm with rfl | rfl | rfl | rfl | rfl | rfl | rfl | rfl | rfl | rfl | rfl | rfl
  ·rw [zX_BW] at h1; cases h1
  ·rw [aX_BS] at h1; cases h1; exact s_BS_HE
  ·rw [zX_BO] at h1; cases h1
  ·rw [aX_BP] at h1; cases h1; exact s_BP_HE
  ·rw [zX_BB] at h1; cases h1
  ·rw [zX_BD] at h1; cases h1
  ·rw [zX_NW] at h1; cases h1
  ·rw [zX_NP] at h1; cases h1
  ·rw [zX_NS] at h1; cases h1
  ·rw [aX_TM] at h1; cases h1; exact s_TM_HE
  ·rw [zX_NT] at h1; cases h1
  ·rw [zX_OR] at h1; cases h1⟩
 have is_BadPrices:oM K mg "BadPrices":=⟨C_BadPrices,mg_of X G aX_BP,fun z=>(by cases z),(fun n C b h1 h2=>by
  obtain ⟨hm,hb⟩:=rG h2
  simp only [m5,aZ6,ba6,bd7] at hm
  rcases hm with rfl | rfl | rfl | rfl | rfl | rfl | rfl | rfl | rfl | rfl | rfl | rfl
  ·rw [zX_BW] at h1; cases h1
  ·rw [aX_BS] at h1; cases h1; rw [hb,show (("BadSet" : Str) == "BadPrices" || ("BadPrices" : Str) == "HearthError" || ("BadPrices" : Str) == "ValueError")=false by decide]; exact⟨XK_BadSet.exc,rH XK_BadPrices n_BS_BP s_BS_BP⟩
  ·rw [zX_BO] at h1; cases h1
  ·rw [aX_BP] at h1; cases h1; rw [hb,show (("BadPrices" : Str) == "BadPrices" || ("BadPrices" : Str) == "HearthError" || ("BadPrices" : Str) == "ValueError")=true by decide]; exact⟨XK_BadPrices.exc,U7⟩
  ·rw [zX_BB] at h1; cases h1
  ·rw [zX_BD] at h1; cases h1
  ·rw [zX_NW] at h1; cases h1
  ·rw [zX_NP] at h1; cases h1
  ·rw [zX_NS] at h1; cases h1
  ·rw [aX_TM] at h1; cases h1; rw [hb,show (("TooMany" : Str) == "BadPrices" || ("BadPrices" : Str) == "HearthError" || ("BadPrices" : Str) == "ValueError")=false by decide]; exact⟨XK_TooMany.exc,rH XK_BadPrices n_TM_BP s_TM_BP⟩
  ·rw [zX_NT] at h1; cases h1
  ·rw [zX_OR] at h1; cases h1),U8 XK_BadPrices sN_BP⟩
 have is_BadSet:oM K mg "BadSet":=⟨C_BadSet,mg_of X G aX_BS,fun z=>(by cases z),(fun n C b h1 h2=>by
  obtain ⟨hm,hb⟩:=rG h2
  simp only [m5,aZ6,ba6,bd7] at hm
  rcases hm with rfl | rfl | rfl | rfl | rfl | rfl | rfl | rfl | rfl | rfl | rfl | rfl
  ·rw [zX_BW] at h1; cases h1
  ·rw [aX_BS] at h1; cases h1; rw [hb,show (("BadSet" : Str) == "BadSet" || ("BadSet" : Str) == "HearthError" || ("BadSet" : Str) == "ValueError")=true by decide]; exact⟨XK_BadSet.exc,U7⟩
  ·rw [zX_BO] at h1; cases h1
  ·rw [aX_BP] at h1; cases h1; rw [hb,show (("BadPrices" : Str) == "BadSet" || ("BadSet" : Str) == "HearthError" || ("BadSet" : Str) == "ValueError")=false by decide]; exact⟨XK_BadPrices.exc,rH XK_BadSet n_BP_BS s_BP_BS⟩
  ·rw [zX_BB] at h1; cases h1
  ·rw [zX_BD] at h1; cases h1
  ·rw [zX_NW] at h1; cases h1
  ·rw [zX_NP] at h1; cases h1
  ·rw [zX_NS] at h1; cases h1
  ·rw [aX_TM] at h1; cases h1; rw [hb,show (("TooMany" : Str) == "BadSet" || ("BadSet" : Str) == "HearthError" || ("BadSet" : Str) == "ValueError")=false by decide]; exact⟨XK_TooMany.exc,rH XK_BadSet n_TM_BS s_TM_BS⟩
  ·rw [zX_NT] at h1; cases h1
  ·rw [zX_OR] at h1; cases h1),U8 XK_BadSet sN_BS⟩
 have is_ValueError:wT K mg:=⟨mg_none_of X G z_VE,fun z=>(by cases z),(fun n C b h1 h2=>by
  obtain ⟨hm,hb⟩:=rG h2
  simp only [m5,aZ6,ba6,bd7] at hm
  rcases hm with rfl | rfl | rfl | rfl | rfl | rfl | rfl | rfl | rfl | rfl | rfl | rfl
  ·rw [zX_BW] at h1; cases h1
  ·rw [aX_BS] at h1; cases h1; rw [hb,show (("BadSet" : Str) == "ValueError" || ("ValueError" : Str) == "HearthError" || ("ValueError" : Str) == "ValueError")=true by decide]; exact⟨XK_BadSet.exc,wV sV_BS⟩
  ·rw [zX_BO] at h1; cases h1
  ·rw [aX_BP] at h1; cases h1; rw [hb,show (("BadPrices" : Str) == "ValueError" || ("ValueError" : Str) == "HearthError" || ("ValueError" : Str) == "ValueError")=true by decide]; exact⟨XK_BadPrices.exc,wV sV_BP⟩
  ·rw [zX_BB] at h1; cases h1
  ·rw [zX_BD] at h1; cases h1
  ·rw [zX_NW] at h1; cases h1
  ·rw [zX_NP] at h1; cases h1
  ·rw [zX_NS] at h1; cases h1
  ·rw [aX_TM] at h1; cases h1; rw [hb,show (("TooMany" : Str) == "ValueError" || ("ValueError" : Str) == "HearthError" || ("ValueError" : Str) == "ValueError")=true by decide]; exact⟨XK_TooMany.exc,wV sV_TM⟩
  ·rw [zX_NT] at h1; cases h1
  ·rw [zX_OR] at h1; cases h1),aL3⟩
 have x_BadPrices:Xc K mg base "BadPrices":=⟨C_BadPrices,_,_,_,_,wU KB (mg_of X G aX_BP) q_BP,PySem.F.excBase_ValueError,aX_BP⟩
 have x_BadSet:Xc K mg base "BadSet":=⟨C_BadSet,_,_,_,_,wU KB (mg_of X G aX_BS) q_BS,PySem.F.excBase_ValueError,aX_BS⟩
 have x_TooMany:Xc K mg base "TooMany":=⟨C_TooMany,_,_,_,_,wU KB (mg_of X G aX_TM) q_TM,PySem.F.excBase_ValueError,aX_TM⟩
 have D0:=aF3 (aT8 (P:=l.prog) (w:=w) (base:=base) B h0.F) (h0.F.binds (ps:=["things"]) fun _ _ _ _ _ _ us hl=>by obtain ⟨_,rfl⟩:=m7 hl; rfl) h0.F.kp (mg_of X G h0.a)
 have D1:=aU2 (P:=l.prog) (w:=w) (base:=base) B (h1.M X G)
 have D2:=aF4 (aT9 (P:=l.prog) (w:=w) (mg:=mg) (base:=base) h2.F) (h2.F.binds (ps:=["web"]) fun _ _ _ _ _ _ us hl=>by obtain ⟨_,rfl⟩:=m7 hl; rfl) h2.F.kp (mg_of X G h2.a)
 have D3:=aU3 (P:=l.prog) (w:=w) (base:=base) B (h3.M X G)
 have D4:=aU4 (P:=l.prog) (w:=w) (base:=base) B (h4.M X G)
 have D5:=aU6 (P:=l.prog) (w:=w) (base:=base) B (h5.M X G)
 have D6:=aU8 (P:=l.prog) (w:=w) (base:=base) B (h6.M X G)
 have D7:=aV0 (P:=l.prog) (w:=w) (base:=base) B (h7.M X G)  x_BadPrices
 have D8:=aV2 (P:=l.prog) (w:=w) (base:=base) B (h8.M X G)
 have D9:=aV4 (P:=l.prog) (w:=w) (base:=base) B (h9.M X G)
 have D10:=aV5 (P:=l.prog) (w:=w) (base:=base) B (h10.M X G)
 have D11:=aV7 (P:=l.prog) (w:=w) (base:=base) B (h11.M X G)
 have D12:=aP1 (aU0 (P:=l.prog) (w:=w) (mg:=mg) (base:=base) h12.F) (h12.F.binds (ps:=["web"]) fun _ _ _ _ _ _ us hl=>by obtain ⟨_,rfl⟩:=m7 hl; rfl) h12.F.kp (mg_of X G h12.a)
 have D13:=aV8 (P:=l.prog) (w:=w) (base:=base) B (h13.M X G)
 have D14:=aW0 (P:=l.prog) (w:=w) (base:=base) B (h14.M X G) D1
 have D15:=aW2 (P:=l.prog) (w:=w) (base:=base) B (h15.M X G) D5
 have D16:=aW4 (P:=l.prog) (w:=w) (base:=base) B (h16.M X G) D3 D1 x_TooMany m_MOST_SEARCHED
 have D17:=aW5 (P:=l.prog) (w:=w) (base:=base) B (h17.M X G) D9
 have D18:=aW6 (P:=l.prog) (w:=w) (base:=base) B (h18.M X G) D12
 have D19:=aW7 (P:=l.prog) (w:=w) (base:=base) B (h19.M X G) D11
 have D20:=aW8 (P:=l.prog) (w:=w) (base:=base) B (h20.M X G) D10 D9
 have D21:=aX0 (P:=l.prog) (w:=w) (base:=base) B (h21.M X G) D0 D14
 have D22:=aX1 (P:=l.prog) (w:=w) (base:=base) B (h22.M X G) D4 D15
 have D23:=aX2 (P:=l.prog) (w:=w) (base:=base) B (h23.M X G) D17 D9 D10
 have D24:=aX4 (P:=l.prog) (w:=w) (base:=base) B (h24.M X G) D18
 have D25:=aX6 (P:=l.prog) (w:=w) (base:=base) B (h25.M X G) D21 x_BadSet
 have D26:=aX7 (P:=l.prog) (w:=w) (base:=base) B (h26.M X G) D25 D22 D2
 have D27:=aX8 (P:=l.prog) (w:=w) (base:=base) B (h27.M X G) D6 D26
 have D28:=aX9 (P:=l.prog) (w:=w) (base:=base) B (h28.M X G) D16 D27
 have D29:=aY0 (P:=l.prog) (w:=w) (base:=base) B (h29.M X G) D28 D7 D1 D8
 have D30:=aY1 (P:=l.prog) (w:=w) (base:=base) B (h30.M X G) D29 cat_HearthError is_BadSet is_BadPrices is_ValueError
 exact aG2 (aY2 B F31 D23 D20 D13 D29 D9 D30 D24 D19)
theorem aY4 {l:OpenLaw}{q:Program}{loose:List Str}{XP:(Str->Option Value)->Heap->Prop}{YP:World->Heap->Prop}{d:DefRec}{K:Params->Frag} (hn:l.most=some 63) (hdf:d.params.defaults = [])
  (hY:∀ (w:World) (h:Heap),YP w h->(K w.params).In h)
  (F:∀ (w:World) (mg:Str->Option Value) (fa:Addr) (h:Heap),(K w.params).In h->h.Ns mainGlobals mg->mg d.name=some (.ref fa)->
   ∃ fd:FuncData,(∀ (s:Shared) (u:Value),BindsTo s fd ⟨[u],[]⟩ [("script",u)])/\∀ base:Heap,(K w.params).In base->base.Ns mainGlobals mg->cG l.prog w (K w.params) mg base cY 10 fa fd ["script"] (r6 (K w.params))) :
  WalkO q loose XP YP l.row.toRowW d [] (fun f vs=>PySem.call f vs):=
 L2.ao1 (n:=63) (k:=10) (x:="script") (CX:=fun _=>cY) (sp:=fun w=>r6 (K w.params)) hn (by decide) hdf ⟨rfl,by decide,by decide⟩ hY F (fun _ _ a ns hl hO hS=>⟨a,ns,rfl,aG3 hO hS,hl,fun _=>rfl⟩) fun _ _ _ _ _ z=>z
end K_k33
open PySem PySem.W PyProof.Rows
theorem PySem.W.Fast.te13052408679150730464 : True := trivial
theorem PySem.W.Fast.te16555476440528808052 : True := trivial
theorem PySem.W.Fast.te5369427470323729400 : True := trivial
set_option maxRecDepth 100000 in
set_option maxHeartbeats 0 in
theorem PySem.Challenge.cw_kindleweb_k33_cheapest_seeds_holds : PySem.Challenge.rw_kindleweb_k33_cheapest_seeds.Holds := by
 w_on; o_law; k_head; (case hw => w_witness2)
 k_fill
 refine K_k33.aY4 (l := PySem.Challenge.rw_kindleweb_k33_cheapest_seeds) rfl rfl (fun w h Y => PySem.W.kIn_of Y) ?F
 case F =>
  intro w mg fa h KX G hmg
  refine' K_k33.aY3 KX G hmg ?h0 ?h1 ?h2 ?h3 ?h4 ?h5 ?h6 ?h7 ?h8 ?h9 ?h10 ?h11 ?h12 ?h13 ?h14 ?h15 ?h16 ?h17 ?h18 ?h19 ?h20 ?h21 ?h22 ?h23 ?h24 ?h25 ?h26 ?h27 ?h28 ?h29 ?h30 ?a31 ?l31 ?c31 ?k31 ?z_len ?z_range ?z_tuple ?z_list ?z_sorted ?z_all ?z_any ?z_zip ?z_min ?z_max ?z_sum ?z_isinstance ?z_int ?z_bool ?z_enumerate ?z_MOST_SEARCHEDx ?aX_HE ?aX_BS ?aX_BP ?aX_TM ?zX_BW ?zX_BO ?zX_BB ?zX_BD ?zX_NW ?zX_NP ?zX_NS ?zX_NT ?zX_OR ?y_fg ?y_ft ?z_VE ?y1_HE ?y2_HE ?y3_HE ?y4_HE ?y5_HE ?y6_HE ?y7_HE ?y1_BS ?y2_BS ?y3_BS ?y4_BS ?y5_BS ?y6_BS ?y7_BS ?y1_BP ?y2_BP ?y3_BP ?y4_BP ?y5_BP ?y6_BP ?y7_BP ?y1_TM ?y2_TM ?y3_TM ?y4_TM ?y5_TM ?y6_TM ?y7_TM ?sB_HE ?s_BS_HE ?s_BP_HE ?s_TM_HE ?sN_BP ?s_BS_BP ?n_BS_BP ?s_TM_BP ?n_TM_BP ?sN_BS ?s_BP_BS ?n_BP_BS ?s_TM_BS ?n_TM_BS ?sV_BS ?sV_BP ?sV_TM ?q_BP ?q_BS ?q_TM
  (case h0 | h1 | h2 | h3 | h4 | h5 | h6 | h7 | h8 | h9 | h10 | h11 | h12 | h13 | h14 | h15 | h16 | h17 | h18 | h19 | h20 | h21 | h22 | h23 | h24 | h25 | h26 | h27 | h28 | h29 | h30 => exact ⟨by k_is, ⟨⟨_, _, _, _, _, _, _, _, _, rfl, by k_is, by k_is⟩, by k_is⟩⟩)
  (case a31|l31|c31|k31|z_len|z_range|z_tuple|z_list|z_sorted|z_all|z_any|z_zip|z_min|z_max|z_sum|z_isinstance|z_int|z_bool|z_enumerate|z_MOST_SEARCHEDx|aX_HE|aX_BS|aX_BP|aX_TM|zX_BW|zX_BO|zX_BB|zX_BD|zX_NW|zX_NP|zX_NS|zX_NT|zX_OR|y_fg|y_ft|z_VE|y1_HE|y2_HE|y3_HE|y4_HE|y5_HE|y6_HE|y7_HE|y1_BS|y2_BS|y3_BS|y4_BS|y5_BS|y6_BS|y7_BS|y1_BP|y2_BP|y3_BP|y4_BP|y5_BP|y6_BP|y7_BP|y1_TM|y2_TM|y3_TM|y4_TM|y5_TM|y6_TM|y7_TM|sB_HE|s_BS_HE|s_BP_HE|s_TM_HE|sN_BP|s_BS_BP => k_is)
  (case n_BS_BP => decide)
  (case s_TM_BP => k_is)
  (case n_TM_BP => decide)
  (case sN_BS|s_BP_BS => k_is)
  (case n_BP_BS => decide)
  (case s_TM_BS => k_is)
  (case n_TM_BS => decide)
  (case sV_BS|sV_BP|sV_TM => k_is)
  (case q_BP|q_BS|q_TM => k_exc)


