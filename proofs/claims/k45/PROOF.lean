import PyProof.Rows.All
import Wide.All
import OpenK.AllK
import Wide.FinOn
import Lean
import PyProof.EqAt
import PyProof.EqKinds
import PyProof.TupleCall
import PyProof.NeKinds
import PyProof.Draws
import PyProof.ZipIter
import PyProof.DictUpdate
import PyProof.AutoSeq1
import PyProof.ListRange
import PyProof.ListMulRoad
import PyProof.FactsAll.tuple_2
import PyProof.Rows.SortShell
import PyProof.EnumFor
import PyProof.EnumMake
import PyProof.EnumStmt
import PyProof.Rows.SortWalk
import KE.KDictList
import PyProof.SumAny
import PyProof.ConsumeWalk
import PyProof.WalksMore
import PyProof.Rows.TupAssign
import PyProof.ExcArgsOwn
import PySem.Challenge.RW_kindleweb_k45_orders_refused
set_option Elab.async false
set_option linter.all false
set_option maxRecDepth 100000
set_option maxHeartbeats 4000000
section
open PySem PySem.Spec PyProof.Rows
def bb7:=@wpAny_bind
def bb8:=@Heap.get?_push_of_some
def bb9:=@List.size_toArray
def bc0:=@List.length_append
def bc1:=@Nat.le_refl
def bc2:=@List.getElem?_eq_getElem
def bc3:=@wpAny_pure
def bc4:=@List.length_map
def bc5:=@List.mem_cons
def bc6:=@List.getElem?_eq_some_iff
def bc7:=@List.not_mem_nil
def bc8:=@decide_eq_false
def bc9:=@List.getElem?_map
def bd0:=@List.mem_cons_self
def bd1:=@List.mem_singleton
def bd2:=@Heap.get?_push_size
def bd3:=@Heap.lt_size
def bd4:=@decide_eq_true
def bd5:=@Nat.lt_of_lt_of_le
def bd6:=@List.getD_eq_getElem?_getD
def bd7:=@List.getElem?_set_ne
def bd8:=@Bool.and_eq_true
def bd9:=@List.mem_append_right
def be1:=@List.mem_of_getElem?
def be3:=@Bool.false_eq_true
def be4:=@List.mem_cons_of_mem
def be5:=@Bool.false_ne_true
def be6:=@List.append_nil
def be7:=@List.map_append
def be8:=@Option.some.inj
def bf0:=@List.mem_append
def bf1:=@List.take_length
def bf2:=@Int.emod_nonneg
def bf3:=@List.getElem?_cons_succ
def bf4:=@Nat.ne_of_lt
def bf5:=@List.append_assoc
def bf8:=@List.pairwise_singleton
def bf9:=@List.take_add_one
def bg0:=@Nat.le_trans
def bg1:=@List.length_set
def bg2:=@Int.emod_lt_of_pos
def bg3:=@List.mem_append_left
def bg5:=@or_false
def bg6:=@List.getElem?_set_self
def bg7:=@List.nodup_append
def bg9:=@List.length_singleton
def bh2:=@Nat.zero_le
def bh3:=@List.length_take
def bh4:=@List.map_cons
def bh5:=@PySem.mem_of_lookup
def bh6:=@PyProof.Rows.callWith_type1
def bh7:=@Nat.lt_irrefl
def bh9:=@List.length_cons
def bi2:=@Nat.le_of_lt
def bi3:=@wpAny_field
def bi4:=@wpAny_callSpecial?_slot
def bi6:=@wpAny_call_entry
def bi7:=@List.lookup_cons
def bi8:=@Nat.le_add_right
def bi9:=@if_false
def bj0:=@decide_eq_true_eq
def bj1:=@List.mem_map
def bj2:=@wpAny_mono
def bj3:=@wpAny_setField_rec
def bj5:=@List.length_drop
def bj9:=@Int.toNat_natCast
def bk0:=@wpAny_newObj_type
def bk1:=@List.getElem?_append_left
def bk2:=@Nat.ne_of_gt
def bk3:=@List.take_of_length_le
def bk4:=@beq_self_eq_true
def bk5:=@List.map_map
def bk6:=@PySem.F.plainAttrs_list
def bk7:=@List.getElem?_append_right
def bk8:=@List.mem_filter
def bk9:=@wpAny_holding
def bl3:=@List.replicate_succ
def bl5:=@List.pairwise_map
def bl6:=@List.length_filter_le
def bl7:=@Bool.eq_iff_iff
def bl8:=@List.find?_cons
def bl9:=@of_decide_eq_false
def bm0:=@List.all_eq_true
def bm4:=@List.flatten_cons
def bm5:=@Bool.eq_false_iff
def bm6:=@Heap.size_push
def bm7:=@List.length_range
def bm8:=@of_decide_eq_true
def bm9:=@List.filter_eq_nil_iff
def bn0:=@beq_eq_false_iff_ne
def bn1:=@Array.length_toList
def bn2:=@List.length_reverse
def bn3:=@PyProof.Rows.slot_tuple_getitem
def bn4:=@List.take_append_drop
def bn5:=@List.Perm.append_left
def bn6:=@wpAny_pyIter_tuple
def bn7:=@List.getElem_mem
def bo2:=@List.pairwise_append
def bo5:=@Array.getD_eq_getD_getElem?
def bo7:=@List.all_cons
def bo9:=@List.mem_range
def bp0:=@wpAny_seqItems
def bp1:=@List.pairwise_cons
def bp2:=@PySem.F.excBase_ValueError
def bp3:=@wpAny_execs_nil
def bp4:=@wpAny_passesOwn
def bp6:=@wpAny_truthy_bool
def bq0:=@Bool.and_true
def bq1:=@Bool.and_false
def bq2:=@List.Perm.refl
def bq3:=@List.take_zero
end
namespace L2
open PySem PySem.Spec PyProof.Rows
abbrev aC:=Sum Int Str
def lW:aC->Value->Bool
 | .inl k,v=>Value.isInt k v
 | .inr x,v=>Value.isStrOf x v
def ad2 (w:World):aC->Int
 | .inl k=>hashInt k
 | .inr x=>hashStr w x
theorem iG:∀ {k:aC}{v:Value},lW k v=true->(∃ i t,k=Sum.inl i/\v=Value.int i t) ∨ (∃ x t,k=Sum.inr x/\v=Value.str x t)
 | .inl i,v,h=>by
  obtain ⟨t,e⟩:=Value.isInt_shape (k:=i) (v:=v) h
  exact .inl ⟨i,t,rfl,e⟩
 | .inr x,v,h=>by
  obtain ⟨t,e⟩:=Value.isStrOf_shape (x:=x) (v:=v) h
  exact .inr ⟨x,t,rfl,e⟩
theorem ad3 (i:Int) (t:Tok):lW (.inl i) (.int i t)=true:=by simp [lW,Value.isInt]
theorem ad4 (x:Str) (t:Tok):lW (.inr x) (.str x t)=true:=by simp [lW,Value.isStrOf]
theorem ad5 (a b:Int):decide ((Sum.inl a:aC)=Sum.inl b)=(a == b):=by
 by_cases e:a=b
 ·subst e; simp
 ·have h : ¬ (Sum.inl a:aC)=Sum.inl b:=fun q=>e (Sum.inl.inj q)
  rw [bc8 h]
  exact (bn0.mpr e).symm
theorem ad6 (a b:Str):decide ((Sum.inr a:aC)=Sum.inr b)=decide (a=b):=by
 by_cases e:a=b
 ·subst e; simp
 ·have h : ¬ (Sum.inr a:aC)=Sum.inr b:=fun q=>e (Sum.inr.inj q)
  rw [bc8 h,bc8 e]
theorem ad7 (a:Int) (b:Str):decide ((Sum.inl a:aC)=Sum.inr b)=false:=bc8 (fun q=>nomatch q)
theorem ad8 (a:Str) (b:Int):decide ((Sum.inr a:aC)=Sum.inl b)=false:=bc8 (fun q=>nomatch q)
def eQ (prog:Program) (w:World):PySem.KeyKind prog w aC where
 is:=lW
 hash:=ad2 w
 inj:=fun v a b ha hb=>by
  rcases iG ha with ⟨i,t,rfl,rfl⟩ | ⟨x,t,rfl,rfl⟩
  ·rcases iG hb with ⟨j,u,rfl,e⟩ | ⟨y,u,rfl,e⟩
   ·injection e with e1 _; rw [e1]
   ·exact nomatch e
  ·rcases iG hb with ⟨j,u,rfl,e⟩ | ⟨y,u,rfl,e⟩
   ·exact nomatch e
   ·injection e with e1 _; rw [e1]
 byValue:=fun k v h=>by
  rcases iG h with ⟨i,t,rfl,rfl⟩ | ⟨x,t,rfl,rfl⟩ <;> rfl
 pyHash:=fun hv h=>by
  rcases iG hv with ⟨i,t,rfl,rfl⟩ | ⟨x,t,rfl,rfl⟩
  ·exact wpAny_pyHash_int h
  ·exact wpAny_pyHash_str h
 eqBool:=fun hu hv h=>by
  rcases iG hu with ⟨i,t,rfl,rfl⟩ | ⟨x,t,rfl,rfl⟩
  ·rcases iG hv with ⟨j,u,rfl,rfl⟩ | ⟨y,u,rfl,rfl⟩
   ·rw [ad5] at h; exact wpAny_eqBool_int h
   ·rw [ad7] at h; exact SeqAt.EqAt.int_str i t y u _ _ _ _ h
  ·rcases iG hv with ⟨j,u,rfl,rfl⟩ | ⟨y,u,rfl,rfl⟩
   ·rw [ad8] at h; exact SeqAt.EqAt.str_int x t j u _ _ _ _ h
   ·rw [ad6] at h; exact wpAny_eqBool_str h
 «strs»:=fun k x t v h=>by
  rcases iG h with ⟨i,u,rfl,e⟩ | ⟨y,u,rfl,e⟩
  ·exact nomatch e
  ·injection e with e1 _
   subst e1
   cases v <;> rfl
theorem ad9 (prog:Program) (w:World) (i:Int) (t:Tok):(eQ prog w).is (.inl i) (.int i t)=true:=ad3 i t
theorem ae0 (prog:Program) (w:World) (x:Str) (t:Tok):(eQ prog w).is (.inr x) (.str x t)=true:=ad4 x t
inductive V where
 | non | bl (b:Bool) | int (i:Int) | str (x:Str) | byt (b:Array UInt8) | flt (b:UInt64) | ref (a:Addr) | ty (n:String)
 deriving DecidableEq
def aX:V->Value->Prop
 | .non,u=>u=Value.none
 | .bl b,u=>u=Value.bool b
 | .int i,u=>∃ t,u=Value.int i t
 | .str x,u=>∃ t,u=Value.str x t
 | .byt b,u=>∃ t,u=Value.bytes b t
 | .flt b,u=>∃ t,u=Value.float b t
 | .ref a,u=>u=Value.ref a
 | .ty n,u=>u=Value.type n
abbrev aK:List V->List Value->Prop:=Paired aX
theorem aK.length {xs:List V}{us:List Value} (r:aK xs us):xs.length=us.length:=Paired.length r
theorem aK.get:∀ {xs:List V}{us:List Value}{i:Nat}{x:V},aK xs us->xs[i]? = some x->∃ u,us[i]? = some u/\aX x u
 | _,_,_,_,.nil,e=>by simp at e
 | _,_,0,_,.cons r _,e=>by simp at e; subst e; exact⟨_,rfl,r⟩
 | _,_,i+1,x,.cons _ t,e=>by
  obtain ⟨u,h1,h2⟩:=aK.get (i:=i) (x:=x) t (by simpa using e)
  exact⟨u,by simpa using h1,h2⟩
theorem aK.set {x:V}{u:Value} (r:aX x u):∀ {xs:List V}{us:List Value} (i:Nat),aK xs us->aK (xs.set i x) (us.set i u)
 | _,_,_,.nil=>.nil
 | _,_,0,.cons _ t=>.cons r t
 | _,_,i+1,.cons q t=>.cons q (aK.set r i t)
theorem aK.append:∀ {xs ys:List V}{us ws:List Value},aK xs us->aK ys ws->aK (xs ++ ys) (us ++ ws)
 | _,_,_,_,.nil,s=>s
 | _,_,_,_,.cons r t,s=>.cons r (aK.append t s)
theorem aK.take:∀ {xs:List V}{us:List Value} (n:Nat),aK xs us->aK (xs.take n) (us.take n)
 | _,_,0,_=>.nil
 | _,_,_+1,.nil=>.nil
 | _,_,n+1,.cons r t=>.cons r (aK.take n t)
theorem aK.drop:∀ {xs:List V}{us:List Value} (n:Nat),aK xs us->aK (xs.drop n) (us.drop n)
 | _,_,0,r=>r
 | _,_,_+1,.nil=>.nil
 | _,_,n+1,.cons _ t=>aK.drop n t
def iH:Option V->Option Value->Prop
 | some v,some u=>aX v u
 | none,none=>True
 | _,_=>False
def KV {κ:Type}:List (κ × V)->List (κ × Value)->Prop:=Paired fun (p:κ × V) (q:κ × Value)=>p.1=q.1/\aX p.2 q.2
def kV:aC->V
 | .inl i=>.int i
 | .inr x=>.str x
inductive HO where
 | lst (xs:List V)
 | tup (xs:List V)
 | dK (kvs:List (aC × V)) | dT (kvs:List (List aC × V))
 | set (S:Int->Bool) (n:Nat)
 | ins (C dx:Addr) (fs:List (Str × V))
 | own (x:Addr)
 | xd (fs:List (Str × V))
 | met (f x:Addr)
 | rng (lo hi:Int)
 | frz (o:Obj) (u:HO)
 | tbl (ps:Array Value)
 | ext (φ:Heap->Prop)
abbrev Hp:=Addr->Option HO
def upd (H:Hp) (a:Addr) (o:HO):Hp:=fun b=>if b=a then some o else H b
theorem b8 {H:Hp}{a:Addr}{o:HO}:upd H a o a=some o:=by unfold upd; rw [if_pos rfl]
theorem aL {H:Hp}{a b:Addr}{o:HO} (h:b ≠ a):upd H a o b=H b:=by unfold upd; rw [if_neg h]
theorem yH {H:Hp}{a b:Addr}{o u:HO} (h:H a=some o) (h':H b=some u) (d:o ≠ u):a ≠ b:=by
 intro e; subst e; rw [h] at h'; exact d (be8 h')
theorem cE {H:Hp}{a b:Addr}{o:HO} (h:H a=some o) (h':H b=none):a ≠ b:=by
 intro e; subst e; rw [h] at h'; cases h'
section
variable (P : Program) (w : World)
def bZ (H:Hp) (h:Heap) (a:Addr):HO->Prop
 | .lst xs=>xs.length<=sizeLine/\∃ (its:List Value) (n:Nat),aK xs its/\h.get? a=some { cls:=.type "list",data:=.seq its.toArray n }
 | .tup xs=>xs.length<=sizeLine/\∃ its:List Value,aK xs its/\IsTup h a its.toArray
 | .dK kvs=>kvs.length<=sizeLine/\(a == sysModules)=false/\∃ vs,KV kvs vs/\h.DictOf (eQ P w) a vs
 | .dT kvs=>kvs.length<=sizeLine/\(a == sysModules)=false/\∃ xs:List (List aC × Addr × Value),
   Paired (fun (p:List aC × V) (q:List aC × Addr × Value)=>p.1=q.1/\H q.2.1=some (.tup (p.1.map kV))/\aX p.2 q.2.2) kvs xs/\
   ∃ o es ep,h.get? a=some o/\o.ExactDict/\o.data = .dict es ep/\es.toList=xs.map (entryOfKey (tupleKind (eQ P w)))/\(xs.map (·.1)).Nodup
 | .set S n=>h.SetOf (intKind P w) a S n
 | .ins C dx fs=>H dx=some (.own a)/\fs.length<=1000/\dx ≠ a/\h.get? a=some (PySem.W.instObj C dx)/\
   ∃ mA,h.Ns1 dx mA/\(∀ f,iH (fs.lookup f) (mA f))/\PySem.Within mA (fs.map (·.1))
 | .own _=>∃ o,h.get? a=some o
 | .xd fs=>∃ mA,h.Ns1 a mA/\∀ f,iH (fs.lookup f) (mA f)
 | .rng lo hi=>∃ t u v,h.get? a=some { cls:=.type "range",data:=.fields #[.int lo t,.int hi u,.int 1 v] }
 | .frz o u=>h.get? a=some o/\bZ H h a u
 | .tbl ps=>h.get? a=some { cls:=.none,data:=.fields ps }
 | .met f x=>h.get? a=some (PySem.W.methodObj (.ref f) (.ref x))
 | .ext φ=>φ h/\(∃ o,h.get? a=some o)/\∀ h1 h2:Heap,φ h1->(∀ o,h1.get? a=some o->h2.get? a=some o)->φ h2
def bW (H:Hp) (h:Heap):Prop:=∀ a o,H a=some o->bZ P w H h a o
end
section
variable {P : Program} {w : World} {H H' : Hp} {h h' : Heap} {a : Addr} {o : HO}
theorem bZ.lt (x:bZ P w H h a o):a < h.objs.size:=by
 cases o with
 | lst xs=>obtain ⟨_,_,_,_,e⟩:=x; exact bd3 e
 | tup xs=>obtain ⟨_,_,_,p⟩:=x; exact p.lt
 | dK kvs=>obtain ⟨_,_,_,_,o,_,_,e,_⟩:=x; exact bd3 e
 | dT kvs=>obtain ⟨_,_,_,_,o,_,_,e,_⟩:=x; exact bd3 e
 | set S n=>obtain ⟨o,_,_,_,e,_⟩:=x; exact bd3 e
 | ins C dx fs=>obtain ⟨_,_,_,e,_⟩:=x; exact bd3 e
 | own y=>obtain ⟨_,e⟩:=x; exact bd3 e
 | xd fs=>obtain ⟨_,⟨_,_,_,e,_⟩,_⟩:=x; exact bd3 e
 | rng lo hi=>obtain ⟨_,_,_,e⟩:=x; exact bd3 e
 | frz ob u=>obtain ⟨e,_⟩:=x; exact bd3 e
 | tbl ps=>exact bd3 (show h.get? a=some _ from x)
 | met f y=>exact bd3 (show h.get? a=some _ from x)
 | ext φ=>obtain ⟨_,⟨_,e⟩,_⟩:=x; exact bd3 e
theorem Paired.mapP {α β:Type}{F G:α->β->Prop}:∀ {l₁:List α}{l₂:List β},Paired F l₁ l₂->(∀ a b,F a b->G a b)->Paired G l₁ l₂
 | _,_,.nil,_=>.nil
 | _,_,.cons r t,f=>.cons (f _ _ r) (Paired.mapP t f)
theorem bZ.stay (x:bZ P w H h a o) (k:∀ b u,(b=a ∨ H b=some (.own a))->h.get? b=some u->h'.get? b=some u)
  (ho:∀ b,H b=some (.own a)->H' b=some (.own a)) (ht:∀ b xs,H b=some (.tup xs)->H' b=some (.tup xs)):bZ P w H' h' a o:=by
 induction o with
 | lst xs=>obtain ⟨z,its,n,r,e⟩:=x; exact⟨z,its,n,r,k _ _ (.inl rfl) e⟩
 | tup xs=>obtain ⟨z,its,r,ob,e,c⟩:=x; exact⟨z,its,r,ob,k _ _ (.inl rfl) e,c⟩
 | dK kvs=>obtain ⟨z,y,vs,r,ob,es,ep,e,c⟩:=x; exact⟨z,y,vs,r,ob,es,ep,k _ _ (.inl rfl) e,c⟩
 | dT kvs=>
  obtain ⟨z,y,xs,r,ob,es,ep,e,c⟩:=x
  exact⟨z,y,xs,Paired.mapP r fun p q z=>⟨z.1,ht _ _ z.2.1,z.2.2⟩,ob,es,ep,k _ _ (.inl rfl) e,c⟩
 | set S n=>obtain ⟨ob,es,ep,t,e,c⟩:=x; exact⟨ob,es,ep,t,k _ _ (.inl rfl) e,c⟩
 | ins C dx fs=>
  obtain ⟨d,z,ne,e,mA,⟨od,es,ep,e2,c⟩,r⟩:=x
  exact⟨ho _ d,z,ne,k _ _ (.inl rfl) e,mA,⟨od,es,ep,k _ _ (.inr d) e2,c⟩,r⟩
 | own y=>obtain ⟨ob,e⟩:=x; exact⟨ob,k _ _ (.inl rfl) e⟩
 | xd fs=>obtain ⟨mA,⟨od,es,ep,e,c⟩,r⟩:=x; exact⟨mA,⟨od,es,ep,k _ _ (.inl rfl) e,c⟩,r⟩
 | rng lo hi=>obtain ⟨t,u,v,e⟩:=x; exact⟨t,u,v,k _ _ (.inl rfl) e⟩
 | frz ob u ih=>obtain ⟨e,q⟩:=x; exact⟨k _ _ (.inl rfl) e,ih q⟩
 | tbl ps=>
  have e:h.get? a=some { cls:=.none,data:=.fields ps }:=x
  show h'.get? a=some { cls:=.none,data:=.fields ps }
  exact k a _ (.inl rfl) e
 | met f y=>
  have e:h.get? a=some (PySem.W.methodObj (.ref f) (.ref y)):=x
  show h'.get? a=some (PySem.W.methodObj (.ref f) (.ref y))
  exact k a _ (.inl rfl) e
 | ext φ=>obtain ⟨p,⟨o,e⟩,st⟩:=x; exact⟨st _ _ p fun o q=>k _ _ (.inl rfl) q,⟨o,k _ _ (.inl rfl) e⟩,st⟩
theorem bW.lt (x:bW P w H h) (e:H a=some o):a < h.objs.size:=(x a o e).lt
theorem bW.fresh (x:bW P w H h) (e:h.objs.size<=a):H a=none:=by
 cases q:H a with
 | none=>rfl
 | some u=>exact absurd (bd5 (x.lt q) e) (bh7 _)
theorem bW.kept (x:bW P w H h) (k:∀ b u,h.get? b=some u->h'.get? b=some u):bW P w H h':=fun a o e=>
 (x a o e).stay (fun b u _ q=>k b u q) (fun _ q=>q) fun _ _ q=>q
theorem bW.laid (x:bW P w H h) (k:∀ b u,h.get? b=some u->h'.get? b=some u) (hp:h.objs.size<=a) (new:bZ P w (upd H a o) h' a o):bW P w (upd H a o) h':=fun b u e=>by
 have hn:=x.fresh hp
 by_cases hb:b=a
 ·subst hb; rw [b8] at e; cases e; exact new
 ·rw [aL hb] at e
  exact (x b u e).stay (fun c v _ q=>k c v q) (fun c q=>by rw [aL (cE q hn)]; exact q) fun c xs q=>by rw [aL (cE q hn)]; exact q
end
def Rd (H:Hp) (a:Addr) (u:HO):Prop:=H a=some u ∨ ∃ o,H a=some (.frz o u)
theorem Rd.ok {P:Program}{w:World}{H:Hp}{h:Heap}{a:Addr}{u:HO} (r:Rd H a u) (x:bW P w H h):bZ P w H h a u:=by
 rcases r with r | ⟨o,r⟩
 ·exact x a u r
 ·obtain ⟨_,q⟩:=x a _ r
  exact q
def nM:Option HO->Prop
 | some (.lst _)=>True
 | some (.dK _)=>True
 | some (.dT _)=>True
 | some (.set _ _)=>True
 | some (.ins _ _ _)=>True
 | some (.ext _)=>True
 | _=>False
section
variable {P : Program} {w : World} {H : Hp} {h h' : Heap} {x e : Addr} {o' : HO}
theorem bW.write (ok:bW P w H h) (mu:nM (H x)) (he:e=x ∨ H e=some (.own x)) (k:∀ b u,b ≠ e->h.get? b=some u->h'.get? b=some u) (heo:∃ u,h'.get? e=some u)
  (new:bZ P w (upd H x o') h' x o'):bW P w (upd H x o') h':=fun b u q=>by
 have nown:∀ c y,H c=some (.own y)->c ≠ x:=fun c y r z=>by subst z; rw [r] at mu; exact mu
 have ntup:∀ c xs,H c=some (.tup xs)->c ≠ x:=fun c xs r z=>by subst z; rw [r] at mu; exact mu
 by_cases hb:b=x
 ·subst hb; rw [b8] at q; cases q; exact new
 ·rw [aL hb] at q
  by_cases hbe:b=e
  ·have q':H b=some (.own x):=by
    rcases he with z | z
    ·exact absurd (hbe.trans z) hb
    ·rw [hbe]; exact z
   rw [q] at q'; cases q'
   obtain ⟨v,hv⟩:=heo
   exact⟨v,by rw [hbe]; exact hv⟩
  ·refine (ok b u q).stay (fun c v hc r=>k c v ?_ r) (fun c r=>by rw [aL (nown c b r)]; exact r) fun c xs r=>by rw [aL (ntup c xs r)]; exact r
   rcases hc with rfl | hc
   ·exact hbe
   ·rintro rfl
    rcases he with z | z
    ·exact nown c b hc z
    ·rw [hc] at z; cases z; exact hb rfl
end
structure Un (fs ex:List Addr) (H H':Hp) (h h':Heap):Prop where
 keep:∀ b o,h.get? b=some o->H b=none->b ∉ fs->b ∉ ex->h'.get? b=some o
 slot:∀ b o,h.get? b=some o->H b=none->b ∈ fs->b ∉ ex->∃ sl,h'.get? b=some { o with slots:=sl }
 free:∀ b o,h.get? b=some o->H b=none->b ∉ ex->H' b=none
 there:∀ b o,h.get? b=some o->b ∉ ex->∃ o',h'.get? b=some o'
 tups:∀ b xs,H b=some (.tup xs)->H' b=some (.tup xs)
 frzs:∀ b o u,H b=some (.frz o u)->H' b=some (.frz o u)
 tbls:∀ b ps,H b=some (.tbl ps)->∃ more,H' b=some (.tbl (ps ++ more))
section
variable {fs fs' ex ex' : List Addr} {H H1 H2 : Hp} {h h1 h2 h' : Heap} {a x e : Addr} {o : HO}
theorem Un.any (u:Un fs ex H H1 h h1) {b:Addr}{ob:Obj} (q:h.get? b=some ob) (n:H b=none) (hx:b ∉ ex):∃ sl,h1.get? b=some { ob with slots:=sl }:=by
 by_cases hb:b ∈ fs
 ·exact u.slot b ob q n hb hx
 ·exact⟨ob.slots,u.keep b ob q n hb hx⟩
theorem Un.kept (k:∀ b u,h.get? b=some u->h'.get? b=some u):Un fs ex H H h h':=
 ⟨fun b ob q _ _ _=>k b ob q,fun b ob q _ _ _=>⟨ob.slots,k b ob q⟩,fun _ _ _ n _=>n,fun b ob q _=>⟨ob,k b ob q⟩,fun _ _ q=>q,fun _ _ _ q=>q,fun _ ps q=>⟨#[],by rw [q]; simp⟩⟩
theorem Un.refl:Un fs ex H H h h:=Un.kept fun _ _ q=>q
theorem Un.laid (k:∀ b u,h.get? b=some u->h'.get? b=some u) (hp:h.objs.size<=a) (hn:H a=none):Un fs ex H (upd H a o) h h' where
 keep:=fun b u q _ _ _=>k b u q
 slot:=fun b u q _ _ _=>⟨u.slots,k b u q⟩
 free:=fun b u q n _=>by rw [aL (bf4 (bd5 (bd3 q) hp))]; exact n
 there:=fun b u q _=>⟨u,k b u q⟩
 tups:=fun b xs q=>by rw [aL (cE q hn)]; exact q
 frzs:=fun b u xs q=>by rw [aL (cE q hn)]; exact q
 tbls:=fun b ps q=>⟨#[],by rw [aL (cE q hn),q]; simp⟩
theorem Un.write (mu:nM (H x)) (he:e=x ∨ H e=some (.own x)) (k:∀ b u,b ≠ e->h.get? b=some u->h'.get? b=some u) (heo:∃ u,h'.get? e=some u):Un fs ex H (upd H x o) h h':=by
 have hx:∀ b,H b=none->b ≠ x:=fun b n z=>by subst z; rw [n] at mu; exact mu
 have hb:∀ b,H b=none->b ≠ e:=fun b n z=>by
  subst z
  rcases he with r | r
  ·exact hx b n r
  ·rw [n] at r; cases r
 have hm:∀ b u,H b=some u->¬ nM (some u)->b ≠ x:=fun b u q nm z=>by subst z; rw [q] at mu; exact nm mu
 refine⟨fun b u q n _ _=>k b u (hb b n) q,fun b u q n _ _=>⟨u.slots,k b u (hb b n) q⟩,fun b u q n _=>by rw [aL (hx b n)]; exact n,fun b u q _=>?_,
  fun b xs q=>by rw [aL (hm b _ q fun z=>z)]; exact q,fun b u xs q=>by rw [aL (hm b _ q fun z=>z)]; exact q,fun b ps q=>⟨#[],by rw [aL (hm b _ q fun z=>z),q]; simp⟩⟩
 by_cases hbe:b=e
 ·subst hbe; exact heo
 ·exact⟨u,k b u hbe q⟩
end
def pN (h:Heap) (H:Hp):List Addr:=(List.range h.objs.size).filter fun a=>(H a).isSome
def iZ (h:Heap) (H:Hp):Heap:=PySem.W.hideAll h (pN h H)
theorem ae1 (h:Heap) (H:Hp):(iZ h H).objs.size=h.objs.size:=PySem.W.hideAll_size _ _
theorem ae2 {h:Heap}{H:Hp}{b:Addr}{o:Obj} (e:h.get? b=some o) (n:H b=none):(iZ h H).get? b=some o:=
 PySem.W.hideAll_get _ e fun hm=>by
  have q:(H b).isSome=true:=(bk8.mp hm).2
  rw [n] at q; simp at q
theorem ae3 {h:Heap}{H:Hp}{b:Addr}{o:Obj} (e:(iZ h H).get? b=some o):h.get? b=some o/\H b=none:=by
 have e':h.get? b=some o:=PySem.W.of_hideAll (pN h H) e
 refine⟨e',?_⟩
 cases q:H b with
 | none=>rfl
 | some x=>
  have hm:b ∈ pN h H:=bk8.mpr ⟨bo9.mpr (bd3 e'),by simp [q]⟩
  have z:(iZ h H).get? b=none:=PySem.W.hideAll_none (pN h H) hm
  rw [z] at e; cases e
def nN (g h:Heap) (L:Addr):List (Addr × Obj):=(List.range h.objs.size).filterMap fun a=>if a=L ∨ (g.get? a).isSome=true then none else (h.get? a).map fun o=>(a,o)
theorem yI {g h:Heap}{L a:Addr}{o:Obj} (h1:a ≠ L) (h2:g.get? a=none) (h3:h.get? a=some o):(a,o) ∈ nN g h L:=
 List.mem_filterMap.mpr ⟨a,bo9.mpr (bd3 h3),by simp [h1,h2,h3]⟩
theorem ae4 {g h:Heap}{L:Addr}{p:Addr × Obj} (hp:p ∈ nN g h L):p.1 ≠ L/\g.get? p.1=none/\h.get? p.1=some p.2:=by
 obtain ⟨b,_,e⟩:=List.mem_filterMap.mp hp
 split at e
 ·cases e
 ·rename_i hn
  cases q:h.get? b with
  | none=>rw [q] at e; simp at e
  | some u=>
   rw [q] at e
   simp only [Option.map_some,Option.some.injEq] at e
   subst e
   refine⟨fun z=>hn (.inl z),?_,q⟩
   show g.get? b=none
   cases r:g.get? b with
   | none=>rfl
   | some v=>exact (hn (.inr (by simp [r]))).elim
def dF (g h:Heap) (L d:Addr):List (Addr × Obj):=(nN g h L).filter fun p=>decide (p.1 ≠ d)
theorem ae5 {g h:Heap}{L:Addr}:News g L h (nN g h L):=fun p hp=>let ⟨a,b,c⟩:=ae4 hp; ⟨c,a,b⟩
structure Mod (K:PySem.W.Frag) (mg:Str->Option Value) (base:Heap):Prop where
 kin:K.In base
 glob:base.Ns mainGlobals mg
 blt:∃ mb,base.Ns builtinsNs mb/\∀ x:Str,x ≠ "__name__"->mb x=bootBuiltins x
 nolimit:base.NoLimit
structure Cx where
 prog:Program
 w:World
 K:PySem.W.Frag
 mg:Str->Option Value
 base:Heap
 A:Around
 N:List Str
 s₀:Shared
 H₀:Hp
 env:Env
 outer:List Env
 stack:List Env
 ex:List Addr
 fn:Str->Bool
 calm:Bool
 pn:List (Addr × Obj)
 xe:Value->Shared->Prop
def bO (l:List Env):List Addr:=l.filterMap (·.frame)
abbrev Cx.fs (X:Cx):List Addr:=bO X.outer
def eD (sc:Scope) (x:Str):Prop:=sc.names.lookup x=some .local ∨ sc.names.lookup x=some .cell ∨ sc.names.lookup x=some .free
def gY (sc:Scope) (x:Str):Prop:=sc.names.lookup x=some .local ∨ sc.names.lookup x=some .cell
def ae6 (env:Env) (h:Heap) (m:Str->Option Value) (x:Str) (u:Value):Prop:=
 (env.kindOf x=some .local/\m x=some u) ∨ ((env.kindOf x=some .cell ∨ env.kindOf x=some .free)/\∃ c,env.cells.lookup x=some c/\h.IsCell c (some u))
structure Cx.Ok (X:Cx):Prop where
 mod:Mod X.K X.mg X.base
 kind:X.env.scope.kind = .function
 glob:X.env.globals=mainGlobals
 blt:X.env.builtins=builtinsNs
 above:X.s₀.heap.objs.size<=X.env.locals
 inj:∀ x y c,X.env.cells.lookup x=some c->X.env.cells.lookup y=some c->x=y
 has:∀ x,(X.env.kindOf x=some .cell ∨ X.env.kindOf x=some .free)->∃ c,X.env.cells.lookup x=some c
 cab:∀ x c,X.fn x=true->X.env.cells.lookup x=some c->X.s₀.heap.objs.size<=c
 hd:X.calm=true->X.A.handled=none
 frames:X.A.frames=some X.stack
 stk:X.stack=X.outer ∨ (X.stack=X.env :: X.outer/\X.env.frame=some X.env.locals)
 exf:∀ b ∈ X.ex,b ≠ X.env.locals/\∀ x c,X.env.cells.lookup x=some c->c ≠ b
 bs:∀ b o,X.base.get? b=some o->X.s₀.heap.get? b=some o/\X.H₀ b=none
 bsz:X.base.objs.size<=X.s₀.heap.objs.size
 noex:∀ b o,X.base.get? b=some o->b ∉ X.ex
 exfs:∀ b ∈ X.ex,b ∉ X.fs
 funs:X.s₀.heap.FunFrames X.base X.outer
 frf:∀ b ∈ X.fs,X.H₀ b=none
structure a8 (X:Cx) (pins:List (Addr × Obj)) (σ:List (Option V)) (H:Hp) (s:Shared):Prop where
 ok:X.Ok
 os:s.os=X.s₀.os
 bare:AllBare s.gens
 base:Un X.fs X.ex X.H₀ H X.s₀.heap s.heap
 loc:∃ m,s.heap.Ns X.env.locals m/\∀ (i:Nat) (x:Str) (v:V),X.N[i]? = some x->σ[i]? = some (some v)->eD X.env.scope x->∃ u,aX v u/\ae6 X.env s.heap m x u
 cell:∀ x c,X.env.cells.lookup x=some c->∃ v,s.heap.IsCell c v
 free:H X.env.locals=none
 freeC:∀ x c,X.env.cells.lookup x=some c->H c=none
 pin:∀ p ∈ X.pn ++ pins,s.heap.get? p.1=some p.2/\H p.1=none/\p.1 ≠ X.env.locals/\p.1 ∉ X.fs/\∀ v,p.2.data ≠ .cell v
 hok:bW X.prog X.w H s.heap
 len:σ.length=X.N.length
section
variable {X : Cx} {pins : List (Addr × Obj)} {σ : List (Option V)} {H H' : Hp} {s : Shared} {h' : Heap}
theorem Cx.Ok.nofr (ok:X.Ok) {b:Addr}{o:Obj} (e:X.base.get? b=some o):b ∉ X.fs:=fun hb=>by
 have:=(ok.funs.mem hb).1
 rw [e] at this; cases this
theorem a8.bs (I:a8 X pins σ H s):∀ b o,X.base.get? b=some o->s.heap.get? b=some o/\H b=none:=fun b o e=>
 ⟨I.base.keep b o (I.ok.bs b o e).1 (I.ok.bs b o e).2 (I.ok.nofr e) (I.ok.noex b o e),I.base.free b o (I.ok.bs b o e).1 (I.ok.bs b o e).2 (I.ok.noex b o e)⟩
theorem a8.bk (I:a8 X pins σ H s):∀ b o,X.base.get? b=some o->s.heap.get? b=some o:=fun b o e=>(I.bs b o e).1
theorem a8.mod (I:a8 X pins σ H s):Mod X.K X.mg X.base:=I.ok.mod
theorem a8.kIn (I:a8 X pins σ H s):X.K.In s.heap:=I.ok.mod.kin.keeps I.bk
theorem a8.fr (I:a8 X pins σ H s):∃ m,Fr X.base X.env.locals s.heap m:=
 let ⟨m,hn,_⟩:=I.loc
 ⟨m,hn,I.bk,bg0 I.ok.bsz I.ok.above⟩
theorem a8.lt (I:a8 X pins σ H s):X.env.locals < s.heap.objs.size:=let ⟨_,hn,_⟩:=I.loc; hn.lt
theorem a8.sz (I:a8 X pins σ H s):X.s₀.heap.objs.size<=s.heap.objs.size:=bg0 I.ok.above (bi2 I.lt)
theorem a8.nofs (I:a8 X pins σ H s) {a:Addr} (h:s.heap.objs.size<=a):a ∉ X.fs:=fun hb=>by
 obtain ⟨_,o,ho,_⟩:=I.ok.funs.mem hb
 exact absurd (bd5 (bd3 ho) (bg0 I.sz h)) (bh7 _)
theorem a8.cne (I:a8 X pins σ H s):∀ x c,X.env.cells.lookup x=some c->c ≠ X.env.locals:=fun x c e z=>by
 obtain ⟨v,o,ho,hd⟩:=I.cell x c e
 obtain ⟨m,⟨o',es,ep,ho',hd',_⟩,_⟩:=I.loc
 rw [z,ho'] at ho; cases ho; rw [hd'] at hd; cases hd
theorem a8.funs (I:a8 X pins σ H s):s.heap.FunFrames X.base X.outer:=by
 have all:∀ (l:List Env),(∀ b ∈ bO l,b ∈ X.fs)->X.s₀.heap.FunFrames X.base l->s.heap.FunFrames X.base l:=by
  intro l
  induction l with
  | nil=>intro _ _; trivial
  | cons env r ih=>
   intro hs hl
   obtain ⟨hk,⟨L,o,hf,hn,ho,hd⟩,hr⟩:=hl
   have hL:L ∈ X.fs:=hs L (by unfold bO; rw [List.filterMap_cons,hf]; exact bd0)
   obtain ⟨sl,e⟩:=I.base.slot L o ho (I.ok.frf L hL) hL fun z=>I.ok.exfs L z hL
   exact⟨hk,⟨L,_,hf,hn,e,hd⟩,ih (fun b hb=>hs b (by unfold bO; rw [List.filterMap_cons,hf]; exact be4 _ hb)) hr⟩
 exact all X.outer (fun _ hb=>hb) I.ok.funs
theorem a8.stack (I:a8 X pins σ H s):s.heap.FunFrames X.base X.stack:=by
 rcases I.ok.stk with e | ⟨e,hf⟩
 ·rw [e]; exact I.funs
 ·rw [e]
  obtain ⟨m,hn,_⟩:=I.loc
  refine .cons (by rw [I.ok.kind]; decide) hf hn ?_ I.funs
  exact Heap.get?_none_of_le (bg0 I.ok.bsz I.ok.above)
theorem a8.stkSub (I:a8 X pins σ H s):∀ b ∈ bO X.stack,b ∈ X.env.locals :: X.fs:=fun b hb=>by
 rcases I.ok.stk with e | ⟨e,hf⟩
 ·rw [e] at hb; exact be4 _ hb
 ·rw [e] at hb
  unfold bO at hb
  rw [List.filterMap_cons,hf] at hb
  exact hb
theorem a8.stkFree (I:a8 X pins σ H s):∀ b ∈ bO X.stack,H b=none:=fun b hb=>by
 rcases bc5.mp (I.stkSub b hb) with e | hb
 ·rw [e]; exact I.free
 ·obtain ⟨_,o,ho,_⟩:=I.ok.funs.mem hb
  exact I.base.free b o ho (I.ok.frf b hb) fun z=>I.ok.exfs b z hb
theorem a8.step {g':Array GenState}{t':Nat}{d':Drawn}{ch:List Addr} (I:a8 X pins σ H s)
  (hch:∀ b ∈ ch,(b ∈ X.ex ∨ X.s₀.heap.objs.size<=b)/\b ≠ X.env.locals/\(∀ x c,X.env.cells.lookup x=some c->c ≠ b)/\∀ p ∈ X.pn ++ pins,p.1 ≠ b)
  (keep:∀ b o,b ≠ X.env.locals->b ∉ X.fs->b ∉ ch->s.heap.get? b=some o->H b=none->h'.get? b=some o)
  (slot:∀ b o,b ≠ X.env.locals->b ∈ X.fs->b ∉ ch->s.heap.get? b=some o->H b=none->∃ sl,h'.get? b=some { o with slots:=sl }) (free:∀ b o,b ∉ ch->s.heap.get? b=some o->H b=none->H' b=none)
  (there:∀ b o,b ∉ ch->s.heap.get? b=some o->∃ o',h'.get? b=some o')
  (tups:∀ b xs,H b=some (.tup xs)->H' b=some (.tup xs)) (frzs:∀ b o u,H b=some (.frz o u)->H' b=some (.frz o u)) (tbls:∀ b ps,H b=some (.tbl ps)->∃ more,H' b=some (.tbl (ps ++ more)))
  (ns:∀ m,s.heap.Ns X.env.locals m->h'.Ns X.env.locals m) (hok:bW X.prog X.w H' h') (hg:AllBare g') :
  a8 X pins σ H' { s with heap:=h',gens:=g',drawn:=d',toks:=t' }:=by
 have neL:∀ b o,X.s₀.heap.get? b=some o->b ≠ X.env.locals:=fun b o e=>bf4 (bd5 (bd3 e) I.ok.above)
 have neC:∀ b o,X.s₀.heap.get? b=some o->b ∉ X.ex->b ∉ ch:=fun b o e hx hb=>by
  rcases (hch b hb).1 with z | z
  ·exact hx z
  ·exact absurd (bd5 (bd3 e) z) (bh7 _)
 have cellK:∀ x c,X.env.cells.lookup x=some c->∀ v,s.heap.IsCell c v->h'.IsCell c v:=fun x c e v ⟨o,ho,hd⟩=>by
  have nch:c ∉ ch:=fun z=>(hch c z).2.2.1 x c e rfl
  by_cases hc:c ∈ X.fs
  ·obtain ⟨sl,q⟩:=slot c o (I.cne x c e) hc nch ho (I.freeC x c e)
   exact⟨_,q,hd⟩
  ·exact⟨o,keep c o (I.cne x c e) hc nch ho (I.freeC x c e),hd⟩
 refine⟨I.ok,I.os,hg,⟨fun b o e n hb hx=>?_,fun b o e n hb hx=>?_,fun b o e n hx=>?_,fun b o e hx=>?_,fun b xs e=>tups b xs (I.base.tups b xs e),fun b o xs e=>frzs b o xs (I.base.frzs b o xs e),fun b ps e=>?_⟩,?_,fun x c e=>?_,?_,fun x c e=>?_,fun p hp=>?_,hok,I.len⟩
 ·exact keep b o (neL b o e) hb (neC b o e hx) (I.base.keep b o e n hb hx) (I.base.free b o e n hx)
 ·obtain ⟨sl,e1⟩:=I.base.slot b o e n hb hx
  obtain ⟨sl',e2⟩:=slot b _ (neL b o e) hb (neC b o e hx) e1 (I.base.free b o e n hx)
  exact⟨sl',e2⟩
 ·obtain ⟨o',e1⟩:=I.base.there b o e hx
  exact free b o' (neC b o e hx) e1 (I.base.free b o e n hx)
 ·obtain ⟨o',e1⟩:=I.base.there b o e hx
  exact there b o' (neC b o e hx) e1
 ·obtain ⟨m1,e1⟩:=I.base.tbls b ps e
  obtain ⟨m2,e2⟩:=tbls b _ e1
  exact⟨m1 ++ m2,by rw [e2,Array.append_assoc]⟩
 ·obtain ⟨m,hn,hl⟩:=I.loc
  refine⟨m,ns m hn,fun i x v e1 e2 e3=>?_⟩
  obtain ⟨u,r,l⟩:=hl i x v e1 e2 e3
  refine⟨u,r,?_⟩
  rcases l with l | ⟨k,c,e,z⟩
  ·exact .inl l
  ·exact .inr ⟨k,c,e,cellK x c e _ z⟩
 ·obtain ⟨v,z⟩:=I.cell x c e
  exact⟨v,cellK x c e v z⟩
 ·obtain ⟨m,⟨o,_,_,ho,_⟩,_⟩:=I.loc
  exact free _ o (fun z=>(hch _ z).2.1 rfl) ho I.free
 ·obtain ⟨v,o,ho,hd⟩:=I.cell x c e
  exact free c o (fun z=>(hch c z).2.2.1 x c e rfl) ho (I.freeC x c e)
 ·obtain ⟨e,n,ne,nf,d⟩:=I.pin p hp
  have nch:p.1 ∉ ch:=fun z=>(hch p.1 z).2.2.2 p hp rfl
  exact⟨keep p.1 p.2 ne nf nch e n,free p.1 p.2 nch e n,ne,nf,d⟩
theorem a8.un {t':Nat} (I:a8 X pins σ H s) (u:Un X.fs [] H H' s.heap h') (hok:bW X.prog X.w H' h'):a8 X pins σ H' { s with heap:=h',toks:=t' }:=by
 obtain ⟨m,⟨o,es,ep,ho,r⟩,_⟩:=id I.loc
 obtain ⟨sl,hL⟩:=u.any ho I.free (by simp)
 exact I.step (g':=s.gens) (d':=s.drawn) (ch:=[]) (fun _ z=>nomatch z) (fun b o _ hb _ e n=>u.keep b o e n hb (by simp)) (fun b o _ hb _ e n=>u.slot b o e n hb (by simp)) (fun b o _ e n=>u.free b o e n (by simp)) (fun b o _ e=>u.there b o e (by simp)) u.tups u.frzs u.tbls (fun m' hm=>by
  obtain ⟨o',es',ep',ho',r'⟩:=hm
  rw [ho] at ho'; cases ho'
  exact⟨_,es',ep',hL,r'⟩) hok I.bare
theorem a8.call {g':Array GenState}{t':Nat}{d':Drawn}{ch:List Addr} (I:a8 X pins σ H s) (u:Un (bO X.stack) ch H H' s.heap h') (hok:bW X.prog X.w H' h') (hg:AllBare g')
  (hch:∀ b ∈ ch,(b ∈ X.ex ∨ X.s₀.heap.objs.size<=b)/\b ≠ X.env.locals/\(∀ x c,X.env.cells.lookup x=some c->c ≠ b)/\∀ p ∈ X.pn ++ pins,p.1 ≠ b) :
  a8 X pins σ H' { s with heap:=h',gens:=g',drawn:=d',toks:=t' }:=by
 obtain ⟨m,⟨o,es,ep,ho,r⟩,_⟩:=id I.loc
 obtain ⟨sl,hL⟩:=u.any ho I.free fun z=>(hch _ z).2.1 rfl
 exact I.step (ch:=ch) hch (fun b o hL hb hc e n=>u.keep b o e n (fun z=>(bc5.mp (I.stkSub b z)).elim hL hb) hc) (fun b o _ _ hc e n=>u.any e n hc) (fun b o hc e n=>u.free b o e n hc) (fun b o hc e=>u.there b o e hc) u.tups u.frzs u.tbls (fun m' hm=>by
  obtain ⟨o',es',ep',ho',r'⟩:=hm
  rw [ho] at ho'; cases ho'
  exact⟨_,es',ep',hL,r'⟩) hok hg
theorem a8.turned {t':Nat}{it:Addr} (I:a8 X pins σ H s) (k:∀ b o,b ≠ it->s.heap.get? b=some o->h'.get? b=some o) (hn:H it=none) (hL:it ≠ X.env.locals)
  (h1:it ∈ X.ex ∨ X.s₀.heap.objs.size<=it) (h2:∀ x c,X.env.cells.lookup x=some c->c ≠ it) (h3:∀ p ∈ X.pn ++ pins,p.1 ≠ it):a8 X pins σ H { s with heap:=h',toks:=t' }:=by
 have nit:∀ b u,H b=some u->b ≠ it:=fun b u e z=>by rw [z,hn] at e; cases e
 refine I.step (g':=s.gens) (d':=s.drawn) (ch:=[it]) (fun b hb=>?_) (fun b o _ _ hc e _=>k b o (fun z=>hc (by simp [z])) e) (fun b o _ _ hc e _=>⟨o.slots,k b o (fun z=>hc (by simp [z])) e⟩) (fun _ _ _ _ n=>n)
  (fun b o hc e=>⟨o,k b o (fun z=>hc (by simp [z])) e⟩) (fun _ _ e=>e) (fun _ _ _ e=>e) (fun b ps e=>⟨#[],by rw [e]; simp⟩) (fun m hm=>?_) (fun b u e=>?_) I.bare
 ·have e:b=it:=by simpa using hb
  subst e
  exact⟨h1,hL,h2,h3⟩
 ·obtain ⟨o,es,ep,ho,r⟩:=hm
  exact⟨o,es,ep,k _ o (Ne.symm hL) ho,r⟩
 ·refine (I.hok b u e).stay (fun c v hc q=>k c v ?_ q) (fun _ q=>q) fun _ _ q=>q
  rcases hc with z | z
  ·rw [z]; exact nit b u e
  ·exact nit c _ z
theorem a8.tok (I:a8 X pins σ H s) (t:Nat):a8 X pins σ H { s with toks:=t }:=I.un (h':=s.heap) (t':=t) Un.refl I.hok
theorem a8.kept {t':Nat} (I:a8 X pins σ H s) (k:∀ b u,s.heap.get? b=some u->h'.get? b=some u):a8 X pins σ H { s with heap:=h',toks:=t' }:=I.un (Un.kept k) (I.hok.kept k)
theorem a8.laid {a:Addr}{o:HO}{t':Nat} (I:a8 X pins σ H s) (k:∀ b u,s.heap.get? b=some u->h'.get? b=some u) (hp:s.heap.objs.size<=a) (new:bZ X.prog X.w (upd H a o) h' a o) :
  a8 X pins σ (upd H a o) { s with heap:=h',toks:=t' }:=I.un (Un.laid k hp (I.hok.fresh hp)) (I.hok.laid k hp new)
theorem a8.write {x e:Addr}{o:HO}{t':Nat} (I:a8 X pins σ H s) (mu:nM (H x)) (he:e=x ∨ H e=some (.own x)) (k:∀ b u,b ≠ e->s.heap.get? b=some u->h'.get? b=some u) (heo:∃ u,h'.get? e=some u)
  (new:bZ X.prog X.w (upd H x o) h' x o):a8 X pins σ (upd H x o) { s with heap:=h',toks:=t' }:=I.un (Un.write mu he k heo) (I.hok.write mu he k heo new)
theorem a8.weak {σ':List (Option V)} (I:a8 X pins σ H s) (hl:σ'.length=σ.length) (w:∀ (i:Nat) v,σ'[i]? = some (some v)->σ[i]? = some (some v)):a8 X pins σ' H s:=
 ⟨I.ok,I.os,I.bare,I.base,let ⟨m,hn,hl'⟩:=I.loc; ⟨m,hn,fun i x v e1 e2 e3=>hl' i x v e1 (w i v e2) e3⟩,I.cell,I.free,I.freeC,I.pin,I.hok,hl.trans I.len⟩
theorem a8.pins_of {pins':List (Addr × Obj)} (I:a8 X pins σ H s) (h:∀ p ∈ pins',s.heap.get? p.1=some p.2/\H p.1=none/\p.1 ≠ X.env.locals/\p.1 ∉ X.fs/\∀ v,p.2.data ≠ .cell v):a8 X pins' σ H s:=
 ⟨I.ok,I.os,I.bare,I.base,I.loc,I.cell,I.free,I.freeC,fun p hp=>(bf0.mp hp).elim (fun z=>I.pin p (bg3 _ z)) (h p),I.hok,I.len⟩
theorem tM {N:List Str} (hN:N.Nodup) {i j:Nat}{x:Str} (a:N[i]? = some x) (b:N[j]? = some x):i=j:=by
 obtain ⟨h1,e1⟩:=bc6.mp a
 obtain ⟨h2,e2⟩:=bc6.mp b
 exact (List.getElem_inj hN).mp (e1.trans e2.symm)
theorem tN {M:Model}{A:Around}{E:Value->Shared->Prop}{i:Nat}{x:Str}{v:V}{u:Value}{Q:Unit->Shared->Prop} (I:a8 X pins σ H s) (hN:X.N.Nodup) (hi:X.N[i]? = some x) (hx:gY X.env.scope x) (r:aX v u)
  (h:∀ s',a8 X pins (σ.set i (some v)) H s'->(∃ a,Heap.SameBut a s.heap s'.heap/\(a=X.env.locals ∨ X.env.cells.lookup x=some a))->Q () s') (hf:X.fn x=true ∨ X.env.scope.names.lookup x=some .local:=by first | exact .inl rfl | exact .inr rfl | assumption):wpAny M A (storeName X.env x u) Q E s:=by
 obtain ⟨m,hn,hl⟩:=id I.loc
 have hcls:(X.env.scope.kind == .class || (X.env.scope.kind == .module && X.env.locals != X.env.globals))=false:=by rw [I.ok.kind]; rfl
 have hiσ:i < σ.length:=by rw [I.len]; exact (bc6.mp hi).1
 have cne:=I.cne
 have tracked:∀ {a:Addr}{h':Heap},(∃ o,s.heap.get? a=some o/\H a=none)->Heap.SameBut a s.heap h'->bW X.prog X.w H h':=fun {a h'} ha hs b ob e=>by
  obtain ⟨_,_,hfree⟩:=ha
  refine (I.hok b ob e).stay (fun c w' hc q=>(hs.2 c ?_).trans q) (fun _ q=>q) fun _ _ q=>q
  rintro rfl
  rcases hc with rfl | hc
  ·rw [hfree] at e; cases e
  ·rw [hfree] at hc; cases hc
 rcases hx with hk | hk
 ·refine wpAny_storeName_local hk hn (fun h' hn' hs=>?_) hcls
  obtain ⟨oL,_,_,hoL,_⟩:=id hn
  refine h _ ⟨I.ok,I.os,I.bare,⟨fun b o e n hb hx=>?_,fun b o e n hb hx=>?_,I.base.free,fun b o e hx=>?_,I.base.tups,I.base.frzs,I.base.tbls⟩,⟨_,hn',fun j y v' e1 e2 e3=>?_⟩,fun y c e=>?_,I.free,I.freeC,fun p hp=>?_,tracked ⟨oL,hoL,I.free⟩ hs,by simpa using I.len⟩ ⟨_,hs,.inl rfl⟩
  ·exact (hs.2 b (bf4 (bd5 (bd3 e) I.ok.above))).trans (I.base.keep b o e n hb hx)
  ·obtain ⟨sl,e1⟩:=I.base.slot b o e n hb hx
   exact⟨sl,(hs.2 b (bf4 (bd5 (bd3 e) I.ok.above))).trans e1⟩
  ·obtain ⟨o',e1⟩:=I.base.there b o e hx
   exact⟨o',(hs.2 b (bf4 (bd5 (bd3 e) I.ok.above))).trans e1⟩
  ·by_cases hj:j=i
   ·subst hj
    rw [hi] at e1; cases e1
    rw [bg6 hiσ] at e2
    cases e2
    exact⟨u,r,.inl ⟨hk,by simp⟩⟩
   ·rw [bd7 (Ne.symm hj)] at e2
    obtain ⟨u',r',q⟩:=hl j y v' e1 e2 e3
    refine⟨u',r',?_⟩
    rcases q with ⟨k,e⟩ | ⟨k,c,e,z⟩
    ·refine .inl ⟨k,?_⟩
     have:y ≠ x:=fun e=>hj (tM hN e1 (e ▸ hi))
     simp [this,e]
    ·exact .inr ⟨k,c,e,z.sameBut hs (cne y c e)⟩
  ·obtain ⟨w',z⟩:=I.cell y c e
   exact⟨w',z.sameBut hs (cne y c e)⟩
  ·obtain ⟨e,n,ne,nf,d⟩:=I.pin p hp
   exact⟨(hs.2 p.1 ne).trans e,n,ne,nf,d⟩
 ·have hfn:X.fn x=true:=by
   rcases hf with z | z
   ·exact z
   ·rw [z] at hk; cases hk
  obtain ⟨c,hc⟩:=I.ok.has x (.inl hk)
  obtain ⟨w',z⟩:=I.cell x c hc
  refine wpAny_storeName_cell I.ok.kind hk hc z (fun h' hc' hs=>?_)
  obtain ⟨oc,hoc,hocd⟩:=id z
  refine h { s with heap:=h' } ⟨I.ok,I.os,I.bare,⟨fun b o e n hb hx=>?_,fun b o e n hb hx=>?_,I.base.free,fun b o e hx=>?_,I.base.tups,I.base.frzs,I.base.tbls⟩,⟨m,hn.sameBut hs (Ne.symm (cne x c hc)),fun j y v' e1 e2 e3=>?_⟩,fun y c' e=>?_,I.free,I.freeC,fun p hp=>?_,tracked ⟨oc,hoc,I.freeC x c hc⟩ hs,by simpa using I.len⟩ ⟨c,hs,.inr hc⟩
  ·exact (hs.2 b (bf4 (bd5 (bd3 e) (I.ok.cab x c hfn hc)))).trans (I.base.keep b o e n hb hx)
  ·obtain ⟨sl,e1⟩:=I.base.slot b o e n hb hx
   exact⟨sl,(hs.2 b (bf4 (bd5 (bd3 e) (I.ok.cab x c hfn hc)))).trans e1⟩
  ·obtain ⟨o',e1⟩:=I.base.there b o e hx
   exact⟨o',(hs.2 b (bf4 (bd5 (bd3 e) (I.ok.cab x c hfn hc)))).trans e1⟩
  ·by_cases hj:j=i
   ·subst hj
    rw [hi] at e1; cases e1
    rw [bg6 hiσ] at e2
    cases e2
    exact⟨u,r,.inr ⟨.inl hk,c,hc,hc'⟩⟩
   ·rw [bd7 (Ne.symm hj)] at e2
    obtain ⟨u',r',q⟩:=hl j y v' e1 e2 e3
    refine⟨u',r',?_⟩
    rcases q with q | ⟨k,c',e,z'⟩
    ·exact .inl q
    ·refine .inr ⟨k,c',e,z'.sameBut hs ?_⟩
     rintro rfl
     exact hj (tM hN e1 (I.ok.inj _ _ _ e hc ▸ hi))
  ·by_cases hcc:c'=c
   ·subst hcc; exact⟨_,hc'⟩
   ·obtain ⟨w2,z2⟩:=I.cell y c' e
    exact⟨w2,z2.sameBut hs hcc⟩
  ·obtain ⟨e,n,ne,nf,d⟩:=I.pin p hp
   refine⟨(hs.2 p.1 ?_).trans e,n,ne,nf,d⟩
   intro q
   rw [q,hoc] at e
   have q':oc=p.2:=be8 e
   exact d w' (by rw [<- q']; exact hocd)
theorem tO {M:Model}{A:Around}{E:Value->Shared->Prop}{i:Nat}{x:Str}{v:V}{u:Value}{Q:Unit->Shared->Prop} (I:a8 X pins σ H s) (hN:X.N.Nodup) (hi:X.N[i]? = some x) (hx:gY X.env.scope x) (r:aX v u)
  (h:∀ s',a8 X pins (σ.set i (some v)) H s'->Q () s') (hf:X.fn x=true ∨ X.env.scope.names.lookup x=some .local:=by first | exact .inl rfl | exact .inr rfl | assumption):wpAny M A (storeName X.env x u) Q E s:=
 tN I hN hi hx r (fun s' I' _=>h s' I') hf
theorem a8.call' {s':Shared}{ch:List Addr} (I:a8 X pins σ H s) (ho:s'.os=s.os) (u:Un (bO X.stack) ch H H' s.heap s'.heap) (hok:bW X.prog X.w H' s'.heap) (hg:AllBare s'.gens)
  (hch:∀ b ∈ ch,(b ∈ X.ex ∨ X.s₀.heap.objs.size<=b)/\b ≠ X.env.locals/\(∀ x c,X.env.cells.lookup x=some c->c ≠ b)/\∀ p ∈ X.pn ++ pins,p.1 ≠ b):a8 X pins σ H' s':=by
 obtain ⟨h',g',d',t',o'⟩:=s'
 have e:o'=s.os:=ho
 subst e
 exact I.call (g':=g') (t':=t') (d':=d') u hok hg hch
end
abbrev XK:=Value->Option Addr->Hp->Prop
abbrev St:=List (Option V)
abbrev VK:=V->Hp->Prop
abbrev TE:=St->Hp->VK->Prop
abbrev TT:=St->Hp->(Bool->Hp->Prop)->Prop
abbrev TA:=St->Hp->(List V->Hp->Prop)->Prop
structure c7 where
 nx:St->Hp->Prop
 rt:VK
 bk:St->Hp->Prop:=fun _ _=>False
 ct:St->Hp->Prop:=fun _ _=>False
abbrev TS:=c7->St->Hp->Prop
def EP (X:Cx) (pins:List (Addr × Obj)) (σ:St) (Q:VK) (u:Value) (s':Shared):Prop:=∃ v H',a8 X pins σ H' s'/\aX v u/\Q v H'
def TP (X:Cx) (pins:List (Addr × Obj)) (σ:St) (Q:Bool->Hp->Prop) (b:Bool) (s':Shared):Prop:=∃ H',a8 X pins σ H' s'/\Q b H'
def AP (X:Cx) (pins:List (Addr × Obj)) (σ:St) (Q:List V->Hp->Prop) (us:List Value) (s':Shared):Prop:=∃ vs H',a8 X pins σ H' s'/\aK vs us/\Q vs H'
def SP (X:Cx) (pins:List (Addr × Obj)) (D:c7) (f:Flow) (s':Shared):Prop:=
 match f with
 | .next=>∃ σ' H',a8 X pins σ' H' s'/\D.nx σ' H'
 | .brk=>∃ σ' H',a8 X pins σ' H' s'/\D.bk σ' H'
 | .cont=>∃ σ' H',a8 X pins σ' H' s'/\D.ct σ' H'
 | .ret u=>∃ v σ' H',a8 X pins σ' H' s'/\aX v u/\D.rt v H'
def PE (X:Cx) (e:Expr) (t:TE):Prop:=
 ∀ (pins:List (Addr × Obj)) (s:Shared) (σ:St) (H:Hp) (Q:VK),a8 X pins σ H s->t σ H Q->wpAny (model X.prog X.w) X.A (eval e X.env) (EP X pins σ Q) X.xe s
def PT (X:Cx) (e:Expr) (t:TT):Prop:=
 ∀ (pins:List (Addr × Obj)) (s:Shared) (σ:St) (H:Hp) (Q:Bool->Hp->Prop),a8 X pins σ H s->t σ H Q->wpAny (model X.prog X.w) X.A (isTrue e X.env (eval e X.env)) (TP X pins σ Q) X.xe s
def PW (X:Cx) (e:Expr) (t:TT):Prop:=
 ∀ (whole:Sem Value) (pins:List (Addr × Obj)) (s:Shared) (σ:St) (H:Hp) (Q:Bool->Hp->Prop),a8 X pins σ H s->t σ H Q->wpAny (model X.prog X.w) X.A (isTrue e X.env whole) (TP X pins σ Q) X.xe s
theorem PW.pt {X:Cx}{e:Expr}{t:TT} (h:PW X e t):PT X e t:=h _
def PA (X:Cx) (es:List Expr) (t:TA):Prop:=
 ∀ (pos:Pos) (pins:List (Addr × Obj)) (s:Shared) (σ:St) (H:Hp) (Q:List V->Hp->Prop),a8 X pins σ H s->t σ H Q->wpAny (model X.prog X.w) X.A (spliced (backTo pos (starEach es X.env))) (AP X pins σ Q) X.xe s
def PS (X:Cx) (st:Stmt) (t:TS):Prop:=
 ∀ (pins:List (Addr × Obj)) (s:Shared) (σ:St) (H:Hp) (D:c7),a8 X pins σ H s->t D σ H->wpAny (model X.prog X.w) X.A (exec st X.env) (SP X pins D) X.xe s
def cY (X:Cx) (st:List Stmt) (t:TS):Prop:=
 ∀ (pins:List (Addr × Obj)) (s:Shared) (σ:St) (H:Hp) (D:c7),a8 X pins σ H s->t D σ H->wpAny (model X.prog X.w) X.A (execs st X.env) (SP X pins D) X.xe s
theorem aQ {α:Type}{t:Sem α}{Q Q':α->Shared->Prop}{M:Model}{A:Around}{E:Value->Shared->Prop}{s:Shared} (h:wpAny M A t Q E s) (hQ:∀ a s,Q a s->Q' a s):wpAny M A t Q' E s:=bj2 h hQ fun _ _ x=>x
section
variable {X : Cx}
theorem bin {a b:Expr}{ta tb:TE} (ha:PE X a ta) (hb:PE X b tb) {pins:List (Addr × Obj)}{s:Shared}{σ:St}{H:Hp}{R:V->V->Hp->Prop} (I:a8 X pins σ H s) (h:ta σ H fun x H1=>tb σ H1 fun y H2=>R x y H2)
  {α:Type}{Q:α->Shared->Prop}{f:Value->Value->Sem α}
  (hf:∀ v u s2 x y H2,a8 X pins σ H2 s2->aX x v->aX y u->R x y H2->wpAny (model X.prog X.w) X.A (f v u) Q X.xe s2) :
  wpAny (model X.prog X.w) X.A (eval a X.env) (fun v s₁=>wpAny (model X.prog X.w) X.A (eval b X.env) (fun u s₂=>wpAny (model X.prog X.w) X.A (f v u) Q X.xe s₂) X.xe s₁) X.xe s:=by
 refine aQ (ha pins s σ H _ I h) fun v s1 ⟨x,H1,I1,r1,q1⟩=>?_
 refine aQ (hb pins s1 σ H1 _ I1 q1) fun u s2 ⟨y,H2,I2,r2,q2⟩=>?_
 exact hf v u s2 x y H2 I2 r1 r2 q2
def eF (i:Nat):TE:=fun σ H Q=>∃ v,σ[i]? = some (some v)/\Q v H
def tC (v:V):TE:=fun _ H Q=>Q v H
theorem fG {i:Nat}{x:Str}{pos:Pos} (hN:X.N[i]? = some x) (hv:eD X.env.scope x) (hd:(x == ("__debug__" : Str))=false:=by decide) (hcd:(x == ("__classdict__" : Str))=false:=by decide):PE X (.Name x pos) (eF i):=by
 intro pins s σ H Q I h
 obtain ⟨v,e,h⟩:=h
 obtain ⟨m,hn,hl⟩:=I.loc
 obtain ⟨u,r,l⟩:=hl i x v hN e hv
 have fin:EP X pins σ Q u s:=⟨v,H,I,r,h⟩
 rcases l with ⟨hk,hm⟩ | ⟨hk,c,hc,hcell⟩
 ·exact wpAny_Name (wpAny_loadName_local I.ok.kind hk hn hm fin) hd
 ·rcases hk with hk | hk
  ·exact wpAny_Name (wpAny_loadName_cell I.ok.kind hk hc hcell fin) hd
  ·exact wpAny_Name (wpAny_loadName_free I.ok.kind hk hc hcell fin hcd) hd
theorem nO {i j pos}:PE X (.Constant (.int i) j pos) (tC (.int i)):=fun _ _ _ H _ I h=>wpAny_Constant_int ⟨.int i,H,I.tok _,⟨_,rfl⟩,h⟩
theorem ae7 {b j pos}:PE X (.Constant (.bool b) j pos) (tC (.bl b)):=fun _ _ _ H _ I h=>Constant_bool ⟨.bl b,H,I,rfl,h⟩
theorem ae8 {j pos}:PE X (.Constant .none j pos) (tC .non):=fun _ _ _ H _ I h=>Constant_none ⟨.non,H,I,rfl,h⟩
theorem ae9 {x j pos}:PE X (.Constant (.str x) j pos) (tC (.str x)):=fun _ _ _ H _ I h=>Calls.Constant_str ⟨.str x,H,I.tok _,⟨_,rfl⟩,h⟩
def Gl (X:Cx) (x:Str):Prop:=X.env.kindOf x=some .globalImplicit
theorem nP {E:Value->Shared->Prop}{pins:List (Addr × Obj)}{s:Shared}{σ:St}{H:Hp}{x:Str}{u:Value}{pos:Pos}{Q:Value->Shared->Prop} (I:a8 X pins σ H s) (hg:Gl X x) (hm:X.mg x=some u) (h:Q u s)
  (hd:(x == ("__debug__" : Str))=false:=by decide):wpAny (model X.prog X.w) X.A (eval (.Name x pos) X.env) Q E s:=
 Calls.Name_function_global I.ok.kind hg (Calls.loadGlobal_global (by rw [I.ok.glob]; exact I.mod.glob.keeps I.bk) hm h) hd
theorem iI {E:Value->Shared->Prop}{pins:List (Addr × Obj)}{s:Shared}{σ:St}{H:Hp}{x:Str}{u:Value}{pos:Pos}{Q:Value->Shared->Prop} (I:a8 X pins σ H s) (hg:Gl X x) (hm:X.mg x=none) (hv:bootBuiltins x=some u) (h:Q u s)
  (hn:x ≠ "__name__":=by decide) (hd:(x == ("__debug__" : Str))=false:=by decide):wpAny (model X.prog X.w) X.A (eval (.Name x pos) X.env) Q E s:=by
 obtain ⟨mb,h1,h2⟩:=I.mod.blt
 exact Calls.Name_function_global I.ok.kind hg (Calls.loadGlobal_builtin (by rw [I.ok.glob]; exact I.mod.glob.keeps I.bk) hm (by rw [I.ok.blt]; exact h1.keeps I.bk) ((h2 x hn).trans hv) h) hd
theorem yJ {x:Str}{v:V}{u:Value}{pos:Pos} (hg:Gl X x) (hm:X.mg x=some u) (r:aX v u) (hd:(x == ("__debug__" : Str))=false:=by decide):PE X (.Name x pos) (tC v):=
 fun _ _ _ H _ I h=>nP I hg hm ⟨v,H,I,r,h⟩ hd
theorem af0 {x:Str}{v:V}{u:Value}{pos:Pos} (hg:Gl X x) (hm:X.mg x=none) (hv:bootBuiltins x=some u) (r:aX v u) (hn:x ≠ "__name__":=by decide) (hd:(x == ("__debug__" : Str))=false:=by decide):PE X (.Name x pos) (tC v):=
 fun _ _ _ H _ I h=>iI I hg hm hv ⟨v,H,I,r,h⟩ hn hd
variable {a b : Expr} {ta tb : TE} {pos : Pos}
def PC (X:Cx) (op:CmpOp) (a b:Expr) (t:TE):Prop:=
 ∀ (pins:List (Addr × Obj)) (s:Shared) (σ:St) (H:Hp) (Q:VK),a8 X pins σ H s->t σ H Q->
  wpAny (model X.prog X.w) X.A (eval a X.env) (fun v s₁=>wpAny (model X.prog X.w) X.A (eval b X.env) (fun u s₂=>wpAny (model X.prog X.w) X.A (compareOp op v u) (EP X pins σ Q) X.xe s₂) X.xe s₁) X.xe s
def tB (t:TE):TT:=fun σ H Q=>t σ H fun x H1=>∃ c,x = .bl c/\Q c H1
theorem af1 {op:CmpOp}{t:TE} (h:PC X op a b t) (h1:behindInMarks op b=false:=by first | exact nobehind _ (by decide) (by decide) | rfl):PE X (.Compare a [op] [b] pos) t:=fun pins s σ H Q I hw=>wpAny_Compare1 (h pins s σ H Q I hw) h1
theorem af2 {op:CmpOp}{t:TE} (h:PC X op a b t) (h1:behindInMarks op b=false:=by first | exact nobehind _ (by decide) (by decide) | rfl):PT X (.Compare a [op] [b] pos) (tB t):=by
 intro pins s σ H Q I hw
 refine wpAny_isTrue_Compare1 (aQ (h pins s σ H _ I hw) fun v s1 h1=>aQ h1 fun u s2 h2=>aQ h2 fun c s3 ⟨x,H1,I1,r1,q1⟩=>?_) h1
 obtain ⟨d,rfl,q⟩:=q1
 cases r1
 exact bp6 ⟨H1,I1,q⟩
theorem af3 {e:Expr}{t:TE} (h:PE X e t) (he:∀ whole,isTrue e X.env whole=(do let v <- whole; standAt e.pos; holding [v] (truthy v)):=by intro _; rfl):PT X e (tB t):=by
 intro pins s σ H Q I hw
 refine isTrue_plain (aQ (h pins s σ H _ I hw) fun v s1 ⟨x,H1,I1,r1,q1⟩=>?_) (he _)
 obtain ⟨d,rfl,q⟩:=q1
 cases r1
 exact bp6 ⟨H1,I1,q⟩
variable {tA tB' : TT} {dF : List Expr}
def yK (t u:TT):TT:=fun σ H Q=>t σ H fun c H1=>if c=true then u σ H1 Q else Q false H1
def yL (t u:TT):TT:=fun σ H Q=>t σ H fun c H1=>if c=true then Q true H1 else u σ H1 Q
def yM (t:TT):TT:=fun σ H Q=>t σ H fun c H1=>Q (!c) H1
theorem af4 (ha:PT X a tA):PW X (.BoolOp .And [a] pos) tA:=by
 intro wh pins s σ H Q I h
 refine isTrue_and (aQ (ha pins s σ H Q I h) fun c s1 e=>?_)
 cases c with
 | true=>exact isTrue_and_nil e
 | false=>exact e
theorem af5 (ha:PT X a tA):PW X (.BoolOp .Or [a] pos) tA:=by
 intro wh pins s σ H Q I h
 refine isTrue_or (aQ (ha pins s σ H Q I h) fun c s1 e=>?_)
 cases c with
 | false=>exact isTrue_or_nil e
 | true=>exact e
theorem af6 (ha:PT X a tA) (hb:PW X (.BoolOp .And (b :: dF) pos) tB'):PW X (.BoolOp .And (a :: b :: dF) pos) (yK tA tB'):=by
 intro wh pins s σ H Q I h
 refine isTrue_and (aQ (ha pins s σ H _ I h) fun c s1 ⟨H1,I1,q1⟩=>?_)
 cases c with
 | true=>exact hb wh pins s1 σ H1 Q I1 q1
 | false=>exact⟨H1,I1,q1⟩
theorem af7 (ha:PT X a tA) (hb:PW X (.BoolOp .Or (b :: dF) pos) tB'):PW X (.BoolOp .Or (a :: b :: dF) pos) (yL tA tB'):=by
 intro wh pins s σ H Q I h
 refine isTrue_or (aQ (ha pins s σ H _ I h) fun c s1 ⟨H1,I1,q1⟩=>?_)
 cases c with
 | true=>exact⟨H1,I1,q1⟩
 | false=>exact hb wh pins s1 σ H1 Q I1 q1
theorem af8 (ha:PT X a tA):PT X (.UnaryOp .Not a pos) (yM tA):=by
 intro pins s σ H Q I h
 exact isTrue_not (ha pins s σ H (fun c H1=>Q (!c) H1) I h)
def yN (ta tb:TE):TE:=fun σ H Q=>ta σ H fun x H1=>∃ c,x = .bl c/\if c=true then tb σ H1 Q else Q (.bl false) H1
theorem af9 {op}{t:TE} (h:PE X a t):PE X (.BoolOp op [a] pos) t:=fun pins s σ H Q I hw=>BoolOp_one (h pins s σ H Q I hw)
theorem ag0 (ha:PE X a ta) (hb:PE X (.BoolOp .And (b :: dF) pos) tb):PE X (.BoolOp .And (a :: b :: dF) pos) (yN ta tb):=by
 intro pins s σ H Q I h
 refine BoolOp_and (aQ (ha pins s σ H _ I h) fun v s1 ⟨x,H1,I1,r1,q1⟩=>?_)
 obtain ⟨c,rfl,q1⟩:=q1
 cases r1
 refine bp6 ?_
 cases c with
 | true=>exact hb pins s1 σ H1 Q I1 q1
 | false=>exact⟨.bl false,H1,I1,rfl,q1⟩
end
def aN (K:PySem.W.Frag) (H:Hp) (a:Addr) (xs:List V):Prop:=
 Rd H a (.lst xs) ∨
  ∃ (o:Obj) (its:Array Value) (n:Nat),K.lookup a=some o/\o.cls = .type "list"/\o.dict=none/\o.data = .seq its n/\its.size<=sizeLine/\aK xs its.toList
def aO (K:PySem.W.Frag) (H:Hp) (a:Addr) (xs:List V):Prop:=
 Rd H a (.tup xs) ∨
  ∃ (o:Obj) (its:Array Value) (n:Nat),K.lookup a=some o/\o.cls = .type "tuple"/\o.data = .seq its n/\its.size<=sizeLine/\aK xs its.toList
def ag1:Value->Option V
 | .none=>some .non
 | .bool b=>some (.bl b)
 | .int i _=>some (.int i)
 | .str x _=>some (.str x)
 | .bytes b _=>some (.byt b)
 | .float b _=>some (.flt b)
 | .ref a=>some (.ref a)
 | .type n=>some (.ty n)
 | _=>none
theorem aX.abs {x:V}{u:Value} (r:aX x u):ag1 u=some x:=by
 cases x with
 | non=>cases r; rfl
 | bl _=>cases r; rfl
 | int _=>obtain ⟨t,rfl⟩:=r; rfl
 | str _=>obtain ⟨t,rfl⟩:=r; rfl
 | byt _=>obtain ⟨t,rfl⟩:=r; rfl
 | flt _=>obtain ⟨t,rfl⟩:=r; rfl
 | ref _=>cases r; rfl
 | ty _=>cases r; rfl
theorem aX.inj {x y:V}{u:Value} (r:aX x u) (q:aX y u):x=y:=be8 (r.abs.symm.trans q.abs)
theorem aK.inj:∀ {xs ys:List V}{us:List Value},aK xs us->aK ys us->xs=ys
 | _,_,_,.nil,.nil=>rfl
 | _,_,_,.cons r t,.cons r' t'=>by rw [r.inj r',aK.inj t t']
section
variable {X : Cx} {pins : List (Addr × Obj)} {σ : St} {H : Hp} {s : Shared} {a : Addr} {xs ys : List V}
theorem aN.of {K:PySem.W.Frag} (h:H a=some (.lst xs)):aN K H a xs:=.inl (.inl h)
theorem aO.of {K:PySem.W.Frag} (h:H a=some (.tup xs)):aO K H a xs:=.inl (.inl h)
theorem a8.list (I:a8 X pins σ H s) (h:aN X.K H a xs):∃ its:List Value,aK xs its/\PlainL s.heap a its.toArray/\xs.length<=sizeLine:=by
 rcases h with h | ⟨o,its,n,hk,hc,hd,hs,hz,r⟩
 ·obtain ⟨z,its,n,r,e⟩:=h.ok I.hok
  exact⟨its,r,⟨_,n,e,rfl,rfl,rfl⟩,z⟩
 ·refine⟨its.toList,r,⟨o,n,I.kIn a o hk,hc,hd,by simpa using hs⟩,?_⟩
  have e:=r.length
  simp only [bn1] at e
  omega
theorem a8.tuple (I:a8 X pins σ H s) (h:aO X.K H a xs):∃ its:List Value,aK xs its/\IsTup s.heap a its.toArray/\xs.length<=sizeLine:=by
 rcases h with h | ⟨o,its,n,hk,hc,hs,hz,r⟩
 ·obtain ⟨z,its,r,p⟩:=h.ok I.hok
  exact⟨its,r,p,z⟩
 ·refine⟨its.toList,r,⟨o,I.kIn a o hk,hc,n,by simpa using hs⟩,?_⟩
  have e:=r.length
  simp only [bn1] at e
  omega
theorem a8.list_inj (I:a8 X pins σ H s) (h:aN X.K H a xs) (h':aN X.K H a ys):xs=ys:=by
 obtain ⟨its,r,⟨o,n,e,_,_,d⟩,_⟩:=I.list h
 obtain ⟨its',r',⟨o',n',e',_,_,d'⟩,_⟩:=I.list h'
 rw [e] at e'; cases e'
 rw [d] at d'
 injection d' with d1 _
 have:its=its':=by simpa using congrArg Array.toList d1
 subst this
 exact r.inj r'
theorem a8.tuple_inj (I:a8 X pins σ H s) (h:aO X.K H a xs) (h':aO X.K H a ys):xs=ys:=by
 obtain ⟨its,r,⟨o,e,_,n,d⟩,_⟩:=I.tuple h
 obtain ⟨its',r',⟨o',e',_,n',d'⟩,_⟩:=I.tuple h'
 rw [e] at e'; cases e'
 rw [d] at d'
 injection d' with d1 _
 have:its=its':=by simpa using congrArg Array.toList d1
 subst this
 exact r.inj r'
end
abbrev Cx.wish (X:Cx) (E:Value->Shared->Prop):Cx:={ X with xe:=E }
abbrev Cx.nox (X:Cx):Cx:=X.wish fun _ _=>False
theorem Cx.Ok.wish {X:Cx} (ok:X.Ok) (E:Value->Shared->Prop):(X.wish E).Ok:=
 ⟨ok.mod,ok.kind,ok.glob,ok.blt,ok.above,ok.inj,ok.has,ok.cab,ok.hd,ok.frames,ok.stk,ok.exf,ok.bs,ok.bsz,ok.noex,ok.exfs,ok.funs,ok.frf⟩
theorem Cx.Ok.unwish {X:Cx}{E:Value->Shared->Prop} (ok:(X.wish E).Ok):X.Ok:=
 ⟨ok.mod,ok.kind,ok.glob,ok.blt,ok.above,ok.inj,ok.has,ok.cab,ok.hd,ok.frames,ok.stk,ok.exf,ok.bs,ok.bsz,ok.noex,ok.exfs,ok.funs,ok.frf⟩
section
variable {X : Cx} {pins : List (Addr × Obj)} {σ : St} {H : Hp} {s : Shared} {E : Value → Shared → Prop}
theorem a8.wish (I:a8 X pins σ H s) (E:Value->Shared->Prop):a8 (X.wish E) pins σ H s:=⟨I.ok.wish E,I.os,I.bare,I.base,I.loc,I.cell,I.free,I.freeC,I.pin,I.hok,I.len⟩
theorem a8.unwish (I:a8 (X.wish E) pins σ H s):a8 X pins σ H s:=⟨I.ok.unwish,I.os,I.bare,I.base,I.loc,I.cell,I.free,I.freeC,I.pin,I.hok,I.len⟩
theorem SP.unwish {D:c7}{f:Flow}{s':Shared} (h:SP (X.wish E) pins D f s'):SP X pins D f s':=by
 cases f with
 | next=>obtain ⟨σ',H',I,q⟩:=h; exact⟨σ',H',I.unwish,q⟩
 | brk=>obtain ⟨σ',H',I,q⟩:=h; exact⟨σ',H',I.unwish,q⟩
 | cont=>obtain ⟨σ',H',I,q⟩:=h; exact⟨σ',H',I.unwish,q⟩
 | ret u=>obtain ⟨v,σ',H',I,r,q⟩:=h; exact⟨v,σ',H',I.unwish,r,q⟩
theorem cY.nox {st:List Stmt}{t:TS} (h:cY X.nox st t):cY X st t:=fun pins s σ H D I hw=>
 bj2 (h pins s σ H D (I.wish _) hw) (fun _ _ q=>q.unwish) fun _ _ z=>False.elim z
end
section
variable {X : Cx} {st : Stmt} {dF : List Stmt} {t u : TS} {e : Expr} {te : TE} {pos : Pos}
def yO:TS:=fun D σ H=>D.nx σ H
def tP (t u:TS):TS:=fun D σ H=>t { D with nx:=u D } σ H
theorem ag2:cY X [] yO:=fun _ _ σ H _ I h=>bp3 ⟨σ,H,I,h⟩
theorem nQ (h1:PS X st t) (h2:cY X dF u):cY X (st :: dF) (tP t u):=by
 intro pins s σ H D I h
 refine wpAny_execs_cons (aQ (h1 pins s σ H { D with nx:=u D } I h) fun f s1 q=>?_)
 cases f with
 | next=>
  obtain ⟨σ',H',I',q⟩:=q
  exact h2 pins s1 σ' H' D I' q
 | ret v=>exact q
 | brk=>exact q
 | cont=>exact q
theorem lX (h1:PS X st t):cY X [st] t:=by
 intro pins s σ H D I h
 refine wpAny_execs_cons (aQ (h1 pins s σ H D I h) fun f s1 q=>?_)
 cases f with
 | next=>exact bp3 q
 | ret v=>exact q
 | brk=>exact q
 | cont=>exact q
def yP:TS:=fun D σ H=>D.bk σ H
theorem ag3:PS X (.Break pos) yP:=fun _ _ σ H _ I h=>wpAny_Break ⟨σ,H,I,h⟩
theorem a8.quiet {pins:List (Addr × Obj)}{σ:St}{H:Hp}{s:Shared} (I:a8 X pins σ H s):interactive X.env=false:=by simp [interactive,I.ok.kind]
def jR (te:TE):TS:=fun D σ H=>te σ H fun _ H1=>D.nx σ H1
theorem j3 (he:PE X e te) (hs:swapsWith e none pos.line X.env=pure false:=by rfl):PS X (.Expr e pos) (jR te):=by
 intro pins s σ H D I h
 exact wpAny_Expr_any (aQ (he pins s σ H _ I h) fun v s1 ⟨x,H1,I1,r1,q1⟩=>⟨σ,H1,I1,q1⟩) I.quiet hs
def lY (te:TE):TS:=fun D σ H=>te σ H D.rt
theorem lZ (he:PE X e te):PS X (.Return (some e) pos) (lY te):=by
 intro pins s σ H D I h
 exact wpAny_Return_some (aQ (he pins s σ H _ I h) fun v s1 ⟨x,H1,I1,r1,q1⟩=>⟨x,σ,H1,I1,r1,q1⟩)
def yQ (c:TT) (t u:TS):TS:=fun D σ H=>c σ H fun b H1=>if b=true then t D σ H1 else u D σ H1
theorem ag4 {c:Expr}{a b:List Stmt}{tc:TT} (hc:PT X c tc) (ha:cY X a t) (hb:cY X b u):PS X (.If c a b pos) (yQ tc t u):=by
 intro pins s σ H D I h
 refine wpAny_If (aQ (hc pins s σ H _ I h) fun d s1 ⟨H1,I1,q1⟩=>?_)
 cases d with
 | true=>exact ha pins s1 σ H1 D I1 q1
 | false=>exact hb pins s1 σ H1 D I1 q1
end
abbrev TG:=V->St->Hp->(St->Hp->Prop)->Prop
abbrev kQ:=List V->St->Hp->(St->Hp->Prop)->Prop
def PG (X:Cx) (target:Expr) (t:TG):Prop:=
 ∀ (pins:List (Addr × Obj)) (s:Shared) (σ:St) (H:Hp) (v:V) (u:Value) (Q:St->Hp->Prop),a8 X pins σ H s->aX v u->t v σ H Q->
  wpAny (model X.prog X.w) X.A (assign target X.env u) (fun _ s'=>∃ σ' H',a8 X pins σ' H' s'/\Q σ' H') X.xe s
def pO (X:Cx) (ts:List Expr) (t:kQ):Prop:=
 ∀ (pins:List (Addr × Obj)) (s:Shared) (σ:St) (H:Hp) (vs:List V) (us:List Value) (Q:St->Hp->Prop),a8 X pins σ H s->aK vs us->t vs σ H Q->
  wpAny (model X.prog X.w) X.A (assignInOrder ((assignEach ts X.env).map (·.2)) us) (fun _ s'=>∃ σ' H',a8 X pins σ' H' s'/\Q σ' H') X.xe s
abbrev tQ:=V->V->V->Hp->(Hp->Prop)->Prop
def yR (X:Cx) (t:tQ):Prop:=
 ∀ (pins:List (Addr × Obj)) (s:Shared) (σ:St) (H:Hp) (o i v:V) (ov iv u:Value) (Q:Hp->Prop),a8 X pins σ H s->aX o ov->aX i iv->aX v u->t o i v H Q->
  wpAny (model X.prog X.w) X.A (setItem ov iv u) (fun _ s'=>∃ H',a8 X pins σ H' s'/\Q H') X.xe s
section
variable {X : Cx} {pos : Pos}
def bX (i:Nat):TG:=fun v σ H Q=>Q (σ.set i (some v)) H
theorem eR {i:Nat}{x:Str} (hN:X.N.Nodup) (hi:X.N[i]? = some x) (hx:gY X.env.scope x) (hf:X.fn x=true ∨ X.env.scope.names.lookup x=some .local:=by first | exact .inl rfl | exact .inr rfl | assumption):PG X (.Name x pos) (bX i):=by
 intro pins s σ H v u Q I r h
 exact wpAny_assign_Name (tO I hN hi hx r (fun s' I'=>⟨_,H,I',h⟩) hf)
def iJ:kQ:=fun vs σ H Q=>vs = []/\Q σ H
def dR (t:TG) (u:kQ):kQ:=fun vs σ H Q=>∃ v r,vs=v :: r/\t v σ H fun σ' H'=>u r σ' H' Q
theorem m3:pO X [] iJ:=by
 intro pins s σ H vs us Q I r h
 obtain ⟨e,h⟩:=h
 subst e
 cases r
 exact assignInOrder_nil ⟨σ,H,I,h⟩
theorem g9 {e:Expr}{es:List Expr}{t:TG}{u:kQ} (h1:PG X e t) (h2:pO X es u)
  (hs:(assignEach (e :: es) X.env).map (·.2)=assign e X.env :: (assignEach es X.env).map (·.2):=by rfl):pO X (e :: es) (dR t u):=by
 intro pins s σ H vs us Q I r h
 obtain ⟨v,vr,e1,h⟩:=h
 subst e1
 cases r with
 | cons r rr=>
  rw [hs]
  refine assignInOrder_cons (aQ (h1 pins s σ H _ _ _ I r h) fun _ s1 ⟨σ1,H1,I1,q1⟩=>?_)
  exact h2 pins s1 σ1 H1 _ _ Q I1 rr q1
def iK (K:PySem.W.Frag) (n:Nat) (t:kQ):TG:=fun v σ H Q=>∃ a xs,v = .ref a/\aO K H a xs/\xs.length=n/\t xs σ H Q
theorem m5 {es:List Expr}{k:Nat}{t:kQ}{n:Nat} (hc:X.calm=true) (h:pO X es t)
  (hn:(assignEach es X.env).length=n:=by rfl) (hst:(assignEach es X.env).findIdx? (·.1)=none:=by rfl):PG X (.Tuple es k pos) (iK X.K n t):=by
 intro pins s σ H v u Q I r hw
 obtain ⟨a,xs,e1,hq,hl,hw⟩:=hw
 subst e1
 cases r
 obtain ⟨its,rv,ht,hz⟩:=I.tuple hq
 refine assign_Tuple_tuple (I.ok.hd hc) ht (by simp [hn,<- hl,rv.length]) hst fun h' hx=>?_
 have I1:a8 X pins σ H { s with heap:=h' }:=I.kept (t':=s.toks) fun b o e=>hx b o (bf4 (bd3 e)) e
 exact h pins _ σ H xs _ Q I1 (by simpa using rv) hw
def tR (to ti:TE) (t:tQ):TG:=fun v σ H Q=>to σ H fun o H1=>ti σ H1 fun i H2=>t o i v H2 fun H3=>Q σ H3
theorem ag5 {o i:Expr}{to ti:TE}{t:tQ} (ho:PE X o to) (hi:PE X i ti) (hs:yR X t)
  (ha:∀ v,assign (.Subscript o i pos) X.env v=(do
   let ov <- holding [v] (eval o X.env)
   let iv <- holding [v,ov] (eval i X.env)
   standAt pos
   holding [v,ov,iv] (setItem ov iv v)
   release [v,ov,iv] []):=by intro _; rfl):PG X (.Subscript o i pos) (tR to ti t):=by
 intro pins s σ H v u Q I r h
 rw [ha]
 refine bb7 (bk9 (aQ (ho pins s σ H _ I h) fun ov s1 ⟨x,H1,I1,r1,q1⟩=>?_))
 refine bb7 (bk9 (aQ (hi pins s1 σ H1 _ I1 q1) fun iv s2 ⟨y,H2,I2,r2,q2⟩=>?_))
 refine bb7 (wpAny_standAt (bb7 (bk9 (aQ (hs pins s2 σ H2 x y v ov iv u _ I2 r1 r2 r q2) fun _ s3 ⟨H3,I3,q3⟩=>?_))))
 exact wpAny_release ⟨σ,H3,I3,q3⟩
def jS (te:TE) (g:TG):TS:=fun D σ H=>te σ H fun x H1=>g x σ H1 D.nx
theorem yS {tg e:Expr}{te:TE}{g:TG} (he:PE X e te) (hg:PG X tg g) (hs:swapsWithSole [tg] e pos.line X.env=pure false:=by rfl) (hw:swappedStores [tg] e X.env=pure none:=by rfl)
  (h1:(assignEach [tg] X.env).map (·.2) = [assign tg X.env]:=by rfl):PS X (.Assign [tg] e pos) (jS te g):=by
 intro pins s σ H D I h
 refine wpAny_Assign_stores (aQ (he pins s σ H _ I h) fun v s1 ⟨x,H1,I1,r1,q1⟩=>?_) hs hw
 rw [h1]
 exact aQ (hg pins s1 σ H1 x v _ I1 r1 q1) fun _ s2 q=>q
theorem yT {i:Nat}{x:Str}{e:Expr}{te:TE}{pos':Pos} (hN:X.N.Nodup) (hi:X.N[i]? = some x) (hx:gY X.env.scope x) (he:PE X e te) (hs:swapsWith e (some (.Name x pos')) pos.line X.env=pure false:=by rfl) (hf:X.fn x=true ∨ X.env.scope.names.lookup x=some .local:=by first | exact .inl rfl | exact .inr rfl | assumption) :
  PS X (.Assign [.Name x pos'] e pos) (jS te (bX i)):=by
 intro pins s σ H D I h
 refine wpAny_Assign_Name (aQ (he pins s σ H _ I h) fun v s1 ⟨y,H1,I1,r1,q1⟩=>?_) hs
 exact tO I1 hN hi hx r1 (fun s2 I2=>⟨_,H1,I2,q1⟩) hf
end
section
variable {X : Cx} {pos : Pos}
def yU (c:TT) (tb:TS):TS:=fun D σ H=>∃ W:Nat->St->Hp->Prop,(∃ m,W m σ H)/\∀ m σ H,W m σ H->
 c σ H fun b H1=>if b=true then ∃ N:St->Hp->Prop,(∀ σ' H',N σ' H'->∃ m',m' < m/\W m' σ' H')/\tb { D with nx:=N,ct:=N,bk:=D.nx } σ H1 else D.nx σ H1
theorem ag6 {c:Expr}{body:List Stmt}{tc:TT}{tb:TS} (hp:PassesOwn (model X.prog X.w) X.A X.env X.xe) (hc:PT X c tc) (hb:cY X body tb):PS X (.While c body [] pos) (yU tc tb):=by
 intro pins s σ H D I h
 obtain ⟨W,⟨m0,w0⟩,turn⟩:=h
 refine wpAny_While (codeAny_whileLoop (fun n s'=>∃ σ' H',a8 X pins σ' H' s'/\W n σ' H') ?_ m0 ⟨σ,H,I,w0⟩)
 rintro n s1 ⟨σ1,H1,I1,w1⟩
 refine bp4 hp (aQ (hc pins s1 σ1 H1 _ I1 (turn n σ1 H1 w1)) fun b s2 ⟨H2,I2,q2⟩=>?_)
 cases b with
 | true=>
  obtain ⟨N,hN,q2⟩:=q2
  rw [if_pos rfl]
  refine bp4 hp (aQ (hb pins s2 σ1 H2 _ I2 q2) fun f s3 q3=>?_)
  cases f with
  | next=>
   obtain ⟨σ3,H3,I3,n3⟩:=q3
   obtain ⟨m',hm,w3⟩:=hN σ3 H3 n3
   exact⟨m',hm,σ3,H3,I3,w3⟩
  | cont=>
   obtain ⟨σ3,H3,I3,n3⟩:=q3
   obtain ⟨m',hm,w3⟩:=hN σ3 H3 n3
   exact⟨m',hm,σ3,H3,I3,w3⟩
  | brk=>exact q3
  | ret v=>exact q3
 | false=>
  rw [if_neg be5]
  exact bp3 ⟨σ1,H2,I2,q2⟩
end
structure It where
 go:Nat->Hp->Prop
 yld:Nat->Hp->V->Hp->Prop
 stop:Nat->Hp->Prop
def gA (X:Cx) (pins:List (Addr × Obj)) (H:Hp) (b:Addr):Prop:=
 H b=none/\b ≠ X.env.locals/\b ∉ X.fs/\(b ∈ X.ex ∨ X.s₀.heap.objs.size<=b)/\(∀ x c,X.env.cells.lookup x=some c->c ≠ b)/\∀ p ∈ X.pn ++ pins,p.1 ≠ b
theorem a8.fpOk {X:Cx}{pins:List (Addr × Obj)}{σ:St}{H H':Hp}{s:Shared}{b:Addr} (I:a8 X pins σ H s) (hb:s.heap.objs.size<=b) (hn:H' b=none):gA X pins H' b:=by
 refine⟨hn,bk2 (bd5 I.lt hb),I.nofs hb,.inr (bg0 I.sz hb),fun x c e z=>?_,fun p hp z=>?_⟩
 ·obtain ⟨v,q⟩:=I.cell x c e
  exact absurd (bd5 q.lt (by rw [z]; exact hb)) (bh7 _)
 ·exact absurd (bd5 (bd3 (I.pin p hp).1) (by rw [z]; exact hb)) (bh7 _)
structure gB (P:Program) (w:World) (K:PySem.W.Frag) (tg:Expr) (J:It) (fp:List Addr) (it:Addr) (tn:Nat->Heap->Prop):Prop where
 mem:it ∈ fp
 obj:∀ i h,tn i h->∀ b ∈ fp,∃ o,h.get? b=some o/\∀ v,o.data ≠ .cell v
 keep:∀ i h h',tn i h->(∀ b ∈ fp,∀ o,h.get? b=some o->h'.get? b=some o)->tn i h'
 item:∀ (X:Cx),X.prog=P->X.w=w->X.K=K->X.calm=true->∀ (i:Nat) (pins:List (Addr × Obj)) (s:Shared) (σ:St) (H:Hp) (E:Value->Shared->Prop),a8 X pins σ H s->(∀ b ∈ fp,gA X pins H b)->tn i s.heap->J.go i H->
  wpAny (model P w) X.A (pyNext (.ref it)) (fun r s1=>∃ u,r=some u/\
   wpAny (model P w) X.A (letOwnedTupleGo tg (.ref it) u) (fun _ s2=>∃ x H',a8 X pins σ H' s2/\aX x u/\J.yld i H x H'/\tn (i+1) s2.heap/\∀ b ∈ fp,H' b=none) E s1) E s
 done:∀ (X:Cx),X.prog=P->X.w=w->X.K=K->X.calm=true->∀ (i:Nat) (pins:List (Addr × Obj)) (s:Shared) (σ:St) (H:Hp) (E:Value->Shared->Prop),a8 X pins σ H s->(∀ b ∈ fp,gA X pins H b)->tn i s.heap->J.stop i H->
  wpAny (model P w) X.A (pyNext (.ref it)) (fun r s1=>r=none/\a8 X pins σ H s1) E s
 self:∀ (A:Around) (i:Nat) (s:Shared) (Q:Value->Shared->Prop) (E:Value->Shared->Prop),tn i s.heap->Q (.ref it) s->wpAny (model P w) A (pyIter (.ref it)) Q E s
abbrev TI:=St->Hp->(It->Hp->Prop)->Prop
def yV (X:Cx) (pins:List (Addr × Obj)) (σ:St) (tg:Expr) (R:It->Hp->Prop) (itv:Value) (s2:Shared):Prop:=
 ∃ (it:Addr) (fp:List Addr) (tn:Nat->Heap->Prop) (J:It) (H':Hp),itv = .ref it/\a8 X pins σ H' s2/\gB X.prog X.w X.K tg J fp it tn/\tn 0 s2.heap/\(∀ b ∈ fp,gA X pins H' b)/\R J H'
def PI (X:Cx) (tg iter:Expr) (wi:TI):Prop:=
 ∀ (pins:List (Addr × Obj)) (s:Shared) (σ:St) (H:Hp) (R:It->Hp->Prop),a8 X pins σ H s->wi σ H R->
  wpAny (model X.prog X.w) X.A (eval iter X.env) (fun v s1=>wpAny (model X.prog X.w) X.A (pyIter v) (yV X pins σ tg R) X.xe s1) X.xe s
theorem nR {M:Model}{A:Around}{E:Value->Shared->Prop}{s:Shared}{tg:Expr}{it:Addr}{u:Value}{o:Obj}{n:String}{vs:Array Value}{Q:Unit->Shared->Prop} (ho:s.heap.get? it=some o) (hc:o.cls = .type n) (hd:o.data = .fields vs)
    (hn : ["enumerate","zip","dict_itemiterator","dict_reverseitemiterator","odict_iterator","itertools.zip_longest","itertools.pairwise"].contains n=false) (hQ:Q () s):wpAny M A (letOwnedTupleGo tg (.ref it) u) Q E s:=by
  unfold letOwnedTupleGo
  cases tg <;> first
    | exact bc3 hQ
    | (cases u <;> first
        | exact bc3 hQ
        | (refine bb7 (wpAny_load ho ?_)
           rw [hc,hd]
           show wpAny M A (if (["enumerate","zip","dict_itemiterator","dict_reverseitemiterator","odict_iterator","itertools.zip_longest","itertools.pairwise"].contains n && vs[0]? == some (rawInt _))=true then _ else _) Q E s
           rw [if_neg (by intro h; rw [hn,Bool.false_and] at h; cases h)]
           exact bc3 hQ))
def m6 (K:PySem.W.Frag) (a:Addr):It:=
 ⟨fun i H=>∃ xs x,aN K H a xs/\xs[i]? = some x,fun i H x H'=>H'=H/\∀ xs,aN K H a xs->xs[i]? = some x,fun i H=>∃ xs,aN K H a xs/\xs.length<=i⟩
def jT (K:PySem.W.Frag) (a:Addr):It:=
 ⟨fun i H=>∃ xs x,aO K H a xs/\xs[i]? = some x,fun i H x H'=>H'=H/\∀ xs,aO K H a xs->xs[i]? = some x,fun i H=>∃ xs,aO K H a xs/\xs.length<=i⟩
def nS (lo:Int) (n:Nat):It:=⟨fun i _=>i < n,fun i H x H'=>H'=H/\x = .int (lo+i),fun i _=>n<=i⟩
theorem ag7 {P:Program}{w:World}{K:PySem.W.Frag}{tg:Expr} (a it:Addr):gB P w K tg (m6 K a) [it] it (fun i h=>h.IsListIter it a i) where
 mem:=by simp
 obj:=fun i h st b hb=>by
  have e:b=it:=by simpa using hb
  subst e
  obtain ⟨o,e,c,d⟩:=st
  exact⟨o,e,fun v z=>by rw [d] at z; cases z⟩
 keep:=fun i h h' st k=>st.at fun o e=>k it (by simp) o e
 item:=by
  intro X hP hw hK hc i pins s σ H E I hf st hg
  subst hP hw hK
  obtain ⟨xs,x,hq,hx⟩:=hg
  obtain ⟨its,rv,p,hz⟩:=I.list hq
  obtain ⟨u,hu,ru⟩:=rv.get hx
  obtain ⟨f0,f1,f2,f3,f4,f5⟩:=hf it (by simp)
  refine wpAny_pyNext_list_item st p.isList (x:=u) (by simpa using hu) fun h' st' sb=>?_
  have I1:a8 X pins σ H { s with heap:=h' }:=I.turned (t':=s.toks) (fun b o hb e=>(sb.2 b hb).trans e) f0 f1 f3 f4 f5
  obtain ⟨o,e,c,d⟩:=id st'
  exact⟨u,rfl,nR (s:={ s with heap:=h' }) e c d (by decide) ⟨x,H,I1,ru,⟨rfl,fun ys hy=>by rw [I.list_inj hy hq]; exact hx⟩,st',fun b hb=>(hf b hb).1⟩⟩
 done:=by
  intro X hP hw hK hc i pins s σ H E I hf st hg
  subst hP hw hK
  obtain ⟨xs,hq,hx⟩:=hg
  obtain ⟨its,rv,p,hz⟩:=I.list hq
  obtain ⟨f0,f1,f2,f3,f4,f5⟩:=hf it (by simp)
  have hl:=rv.length
  exact wpAny_pyNext_list_end (I.ok.hd hc) st p.isList (by simp; omega) fun h' eb=>⟨rfl,I.turned (t':=s.toks) (fun b o hb e=>eb b o hb e) f0 f1 f3 f4 f5⟩
 self:=fun _ _ _ _ _ st h=>wpAny_pyIter_listiter st h
theorem yW {P:Program}{w:World}{K:PySem.W.Frag}{tg:Expr} (a it:Addr):gB P w K tg (jT K a) [it] it (fun i h=>h.IsTupleIter it a i) where
 mem:=by simp
 obj:=fun i h st b hb=>by
  have e:b=it:=by simpa using hb
  subst e
  obtain ⟨o,e,c,d⟩:=st
  exact⟨o,e,fun v z=>by rw [d] at z; cases z⟩
 keep:=fun i h h' st k=>st.at fun o e=>k it (by simp) o e
 item:=by
  intro X hP hw hK hc i pins s σ H E I hf st hg
  subst hP hw hK
  obtain ⟨xs,x,hq,hx⟩:=hg
  obtain ⟨its,rv,p,hz⟩:=I.tuple hq
  obtain ⟨u,hu,ru⟩:=rv.get hx
  obtain ⟨f0,f1,f2,f3,f4,f5⟩:=hf it (by simp)
  refine wpAny_pyNext_tuple_item st (show s.heap.IsTuple a its.toArray from p) (x:=u) (by simpa using hu) fun h' st' sb=>?_
  have I1:a8 X pins σ H { s with heap:=h' }:=I.turned (t':=s.toks) (fun b o hb e=>(sb.2 b hb).trans e) f0 f1 f3 f4 f5
  obtain ⟨o,e,c,d⟩:=id st'
  exact⟨u,rfl,nR (s:={ s with heap:=h' }) e c d (by decide) ⟨x,H,I1,ru,⟨rfl,fun ys hy=>by rw [I.tuple_inj hy hq]; exact hx⟩,st',fun b hb=>(hf b hb).1⟩⟩
 done:=by
  intro X hP hw hK hc i pins s σ H E I hf st hg
  subst hP hw hK
  obtain ⟨xs,hq,hx⟩:=hg
  obtain ⟨its,rv,p,hz⟩:=I.tuple hq
  obtain ⟨f0,f1,f2,f3,f4,f5⟩:=hf it (by simp)
  have hl:=rv.length
  exact wpAny_pyNext_tuple_end (I.ok.hd hc) st (show s.heap.IsTuple a its.toArray from p) (by simp; omega) fun h' eb=>⟨rfl,I.turned (t':=s.toks) (fun b o hb e=>eb b o hb e) f0 f1 f3 f4 f5⟩
 self:=fun _ _ _ _ _ st h=>wpAny_pyIter_tupleiter st h
theorem ag8 {P:Program}{w:World}{K:PySem.W.Frag}{tg:Expr} (it:Addr) (lo:Int) (n:Nat):gB P w K tg (nS lo n) [it] it (fun i h=>IsRangeIter h it (lo+(i:Nat) * 1) ((n:Int) - (i:Nat)) 1) where
 mem:=by simp
 obj:=fun i h st b hb=>by
  have e:b=it:=by simpa using hb
  subst e
  exact⟨_,st,fun v z=>by
   have z':Data.fields _=Data.cell v:=z
   cases z'⟩
 keep:=fun i h h' st k=>k it (by simp) _ st
 item:=by
  intro X hP hw hK hc i pins s σ H E I hf st hg
  subst hP hw hK
  obtain ⟨f0,f1,f2,f3,f4,f5⟩:=hf it (by simp)
  have W:=Walks.range (prog:=X.prog) (w:=X.w) (I.ok.hd hc) it lo 1 n
  refine W.item i s _ _ hg st fun v h' tk hv st' kk=>?_
  obtain ⟨t,rfl⟩:=hv
  have I1:a8 X pins σ H { s with heap:=h',toks:=tk }:=I.turned (fun b o hb e=>kk b o (by simpa using hb) e) f0 f1 f3 f4 f5
  refine⟨_,rfl,nR (s:={ s with heap:=h',toks:=tk }) (n:="range_iterator") st' rfl rfl (by decide) ⟨.int (lo+i),H,I1,⟨t,?_⟩,⟨rfl,rfl⟩,st',fun b hb=>(hf b hb).1⟩⟩
  rw [Int.mul_one]
 done:=by
  intro X hP hw hK hc i pins s σ H E I hf st hg
  subst hP hw hK
  obtain ⟨f0,f1,f2,f3,f4,f5⟩:=hf it (by simp)
  exact wpAny_pyNext_range_end (I.ok.hd hc) st (by have:n<=i:=hg; omega) fun h' eb=>⟨rfl,I.turned (t':=s.toks) (fun b o hb e=>eb b o hb e) f0 f1 f3 f4 f5⟩
 self:=fun _ _ _ _ _ st h=>wpAny_pyIter_rangeiter st h
section
variable {X : Cx} {tg : Expr}
def ag9 (K:PySem.W.Frag) (tl:TE):TI:=fun σ H R=>tl σ H fun x H1=>∃ a,x = .ref a/\(∃ xs,aO K H1 a xs)/\R (jT K a) H1
theorem yX {l:Expr}{tl:TE} (hl:PE X l tl):PI X tg l (ag9 X.K tl):=by
 intro pins s σ H R I h
 refine aQ (hl pins s σ H _ I h) fun v s1 ⟨x,H1,I1,r1,q1⟩=>?_
 obtain ⟨a,e,⟨xs,hq⟩,q⟩:=q1
 subst e
 cases r1
 obtain ⟨its,rv,p,hz⟩:=I1.tuple hq
 refine bn6 (show s1.heap.IsTuple a its.toArray from p) ?_
 refine⟨s1.heap.objs.size,[s1.heap.objs.size],_,_,H1,rfl,I1.kept (t':=s1.toks) fun b o e=>bb8 _ e,yW a _,⟨_,bd2 _ rfl,rfl,rfl⟩,fun b hb=>?_,q⟩
 have e:b=s1.heap.objs.size:=by simpa using hb
 subst e
 exact I1.fpOk (bc1 _) (I1.hok.fresh (bc1 _))
theorem yY {pins:List (Addr × Obj)}{σ:St}{H:Hp}{s:Shared}{R:It->Hp->Prop}{E:Value->Shared->Prop}{lo hi:Int}{t u v:Tok}{tk:Nat} (I:a8 X pins σ H s) (h1 : -(2 ^ 62)<=lo) (h2:lo < 2 ^ 62) (h3 : -(2 ^ 62)<=hi) (h4:hi < 2 ^ 62)
  (q:R (nS lo (hi - lo).toNat) H):wpAny (model X.prog X.w) X.A (pyIter (.ref s.heap.objs.size)) (yV X pins σ tg R) E { s with heap:=s.heap.push { cls:=.type "range",data:=.fields #[.int lo t,.int hi u,.int 1 v] },toks:=tk }:=by
 refine wpAny_pyIter_range (IsRange.new ..) (small_one h1 h2 h3 h4) ?_
 have I1:a8 X pins σ H { s with heap:=s.heap.push { cls:=.type "range",data:=.fields #[.int lo t,.int hi u,.int 1 v] },toks:=tk }:=I.kept fun b o e=>bb8 _ e
 refine⟨(s.heap.push { cls:=.type "range",data:=.fields #[.int lo t,.int hi u,.int 1 v] }).objs.size,[(s.heap.push { cls:=.type "range",data:=.fields #[.int lo t,.int hi u,.int 1 v] }).objs.size],_,_,H,rfl,
  I1.kept (t':=tk) fun b o e=>bb8 _ e,ag8 _ lo (hi - lo).toNat,?_,fun b hb=>?_,q⟩
 ·have e1:lo+((0:Nat):Int) * 1=lo:=by simp
  have e2:(((hi - lo).toNat:Nat):Int) - ((0:Nat):Int)=Builtin.Range.rangeSize lo hi 1:=by rw [rangeSize_one]; split <;> omega
  show IsRangeIter _ _ (lo+((0:Nat):Int) * 1) ((((hi - lo).toNat:Nat):Int) - ((0:Nat):Int)) 1
  rw [e1,e2]
  exact bd2 _ rfl
 ·have e:b=(s.heap.push { cls:=.type "range",data:=.fields #[.int lo t,.int hi u,.int 1 v] }).objs.size:=by simpa using hb
  subst e
  exact I1.fpOk (bc1 _) (I1.hok.fresh (bc1 _))
def yZ (ta:TA):TI:=fun σ H R=>ta σ H fun vs H1=>∃ j:Int,vs = [.int j]/\-(2 ^ 62)<=j/\j < 2 ^ 62/\R (nS 0 j.toNat) H1
def z9 (ta:TA):TI:=fun σ H R=>ta σ H fun vs H1=>∃ i j:Int,vs = [.int i,.int j]/\(-(2 ^ 62)<=i/\i < 2 ^ 62/\-(2 ^ 62)<=j/\j < 2 ^ 62)/\R (nS i (j - i).toNat) H1
theorem ah0 {a:Expr}{ta:TA}{p pos:Pos} (hg:Gl X "range") (hm:X.mg "range" = none) (ha:PA X [a] ta) (hs:starEach [a] X.env = [(false,eval a X.env)]:=by rfl):PI X tg (.Call (.Name "range" p) [a] [] pos) (yZ ta):=by
 intro pins s σ H R I h
 refine Call_ (iI I hg hm boot_range (bh6 (aQ (ha pos pins s σ H _ I h) fun us s1 ⟨vs,H1,I1,r1,q1⟩=>?_) hs rfl))
 obtain ⟨j,e,q1,q2,q⟩:=q1
 subst e
 cases r1 with
 | cons r rr=>
  cases rr
  obtain ⟨t,rfl⟩:=r
  exact call_range_1 (yY I1 (by omega) (by omega) q1 q2 (by simpa using q))
theorem ah1 {a b:Expr}{ta:TA}{p pos:Pos} (hg:Gl X "range") (hm:X.mg "range" = none) (ha:PA X [a,b] ta) (hs:starEach [a,b] X.env = [(false,eval a X.env),(false,eval b X.env)]:=by rfl) (hs2:starEach [b] X.env = [(false,eval b X.env)]:=by rfl) :
  PI X tg (.Call (.Name "range" p) [a,b] [] pos) (z9 ta):=by
 intro pins s σ H R I h
 refine Call_ (iI I hg hm boot_range (bh6 (aQ (ha pos pins s σ H _ I h) fun us s1 ⟨vs,H1,I1,r1,q1⟩=>?_) (by rw [hs,hs2]) (by rw [hs2]; rfl)))
 obtain ⟨i,j,e,⟨q1,q2,q3,q4⟩,q⟩:=q1
 subst e
 cases r1 with
 | cons r rr=>
  cases rr with
  | cons r' rr=>
   cases rr
   obtain ⟨t,rfl⟩:=r
   obtain ⟨t',rfl⟩:=r'
   exact call_range_2 (yY I1 q1 q2 q3 q4 q)
def zA (wi:TI) (g:TG) (tb:TS):TS:=fun D σ H=>wi σ H fun J H1=>∃ W:Nat->Nat->St->Hp->Prop,(∃ m,W 0 m σ H1)/\∀ i m σ H,W i m σ H->
 (J.stop i H/\D.nx σ H) ∨ (J.go i H/\∃ N:St->Hp->Prop,(∀ σ' H',N σ' H'->∃ m',m' < m/\W (i+1) m' σ' H')/\∀ x H',J.yld i H x H'->g x σ H' fun σ2 H2=>tb { D with nx:=N,ct:=N,bk:=D.nx } σ2 H2)
def nT (fp:List Addr) (h:Heap):List (Addr × Obj):=fp.filterMap fun b=>(h.get? b).map fun o=>(b,o)
theorem pP {fp:List Addr}{h:Heap}{b:Addr}{o:Obj} (hb:b ∈ fp) (e:h.get? b=some o):(b,o) ∈ nT fp h:=List.mem_filterMap.mpr ⟨b,hb,by rw [e]; rfl⟩
theorem ah2 {fp:List Addr}{h:Heap}{p:Addr × Obj} (hp:p ∈ nT fp h):p.1 ∈ fp/\h.get? p.1=some p.2:=by
 obtain ⟨b,hb,e⟩:=List.mem_filterMap.mp hp
 cases q:h.get? b with
 | none=>rw [q] at e; cases e
 | some o=>
  rw [q] at e
  have e':(b,o)=p:=be8 e
  subst e'
  exact⟨hb,q⟩
theorem a8.pinned {pins:List (Addr × Obj)}{σ:St}{H:Hp}{s:Shared}{fp:List Addr} (I:a8 X pins σ H s) (hf:∀ b ∈ fp,gA X pins H b) (ho:∀ b ∈ fp,∃ o,s.heap.get? b=some o/\∀ v,o.data ≠ .cell v):a8 X (pins ++ nT fp s.heap) σ H s:=
 I.pins_of fun p hp=>(bf0.mp hp).elim (fun z=>I.pin p (bd9 _ z)) fun z=>by
  obtain ⟨hb,e⟩:=ah2 z
  obtain ⟨f0,f1,f2,_⟩:=hf p.1 hb
  obtain ⟨o,e',d⟩:=ho p.1 hb
  rw [e] at e'; cases e'
  exact⟨e,f0,f1,f2,d⟩
theorem a8.unpinned {pins pl:List (Addr × Obj)}{σ:St}{H:Hp}{s:Shared} (I:a8 X (pins ++ pl) σ H s):a8 X pins σ H s:=I.pins_of fun p hp=>I.pin p (bd9 _ (bg3 _ hp))
theorem zB {iter:Expr}{body:List Stmt}{wi:TI}{g:TG}{tb:TS}{pos:Pos} (hp:PassesOwn (model X.prog X.w) X.A X.env X.xe) (hc:X.calm=true) (hi:PI X tg iter wi) (hg:PG X tg g) (hb:cY X body tb)
  (hs:∀ x,foldedSetIterable iter X.env x=pure x:=by intro _; rfl):PS X (.For tg iter body [] pos) (zA wi g tb):=by
 intro pins s σ H D I h
 refine wpAny_For (aQ (hi pins s σ H _ I h) fun v s1 h1=>aQ h1 fun itv s2 h2=>?_) hs
 obtain ⟨it,fp,tn,J,H2,e,I2,T,st2,f2,W,⟨m0,w0⟩,turn⟩:=h2
 subst e
 have stat:∀ {H':Hp},(∀ b ∈ fp,H' b=none)->∀ b ∈ fp,gA X pins H' b:=fun hn b hb=>⟨hn b hb,(f2 b hb).2⟩
 refine codeAny_forLoop_any (fun n s'=>∃ i σ' H',a8 X pins σ' H' s'/\tn i s'.heap/\(∀ b ∈ fp,H' b=none)/\W i n σ' H') ?_ m0 ⟨0,σ,H2,I2,st2,fun b hb=>(f2 b hb).1,w0⟩
 rintro n s3 ⟨i,σ3,H3,I3,st3,fr3,w3⟩
 rcases turn i n σ3 H3 w3 with ⟨stop,qn⟩ | ⟨go,N,hN,step⟩
 ·refine bp4 hp (aQ (T.done X rfl rfl rfl hc i pins s3 σ3 H3 X.xe I3 (stat fr3) st3 stop) fun r s4 ⟨hr,I4⟩=>?_)
  subst hr
  exact bp3 ⟨σ3,H3,I4,qn⟩
 ·refine bp4 hp (aQ (T.item X rfl rfl rfl hc i pins s3 σ3 H3 X.xe I3 (stat fr3) st3 go) fun r s4 ⟨u,hr,h4⟩=>?_)
  subst hr
  refine bp4 hp (aQ h4 fun _ s5 ⟨x,H5,I5,r5,y5,st5,fr5⟩=>?_)
  have I5':=I5.pinned (stat fr5) (T.obj _ _ st5)
  refine bp4 hp (aQ (hg _ s5 σ3 H5 x u _ I5' r5 (step x H5 y5)) fun _ s6 ⟨σ6,H6,I6,q6⟩=>?_)
  refine bp4 hp (aQ (hb _ s6 σ6 H6 _ I6 q6) fun f s7 q7=>?_)
  have again:∀ {σ7:St}{H7:Hp},a8 X (pins ++ nT fp s5.heap) σ7 H7 s7->N σ7 H7->∃ m,m < n/\∃ i σ' H',a8 X pins σ' H' s7/\tn i s7.heap/\(∀ b ∈ fp,H' b=none)/\W i m σ' H':=fun {σ7 H7} I7 n7=>by
   obtain ⟨m',hm,w7⟩:=hN σ7 H7 n7
   refine⟨m',hm,i+1,σ7,H7,I7.unpinned,T.keep _ _ _ st5 fun b hb o e=>(I7.pin (b,o) (bd9 _ (bd9 _ (pP hb e)))).1,fun b hb=>?_,w7⟩
   obtain ⟨o,e,d⟩:=T.obj _ _ st5 b hb
   exact (I7.pin (b,o) (bd9 _ (bd9 _ (pP hb e)))).2.1
  cases f with
  | next=>obtain ⟨σ7,H7,I7,n7⟩:=q7; exact again I7 n7
  | cont=>obtain ⟨σ7,H7,I7,n7⟩:=q7; exact again I7 n7
  | brk=>obtain ⟨σ7,H7,I7,q7⟩:=q7; exact⟨σ7,H7,I7.unpinned,q7⟩
  | ret v=>obtain ⟨x7,σ7,H7,I7,r7,q7⟩:=q7; exact⟨x7,σ7,H7,I7.unpinned,r7,q7⟩
end
theorem bb3 {K:PySem.W.Frag}{a:Addr}{xs:List V}{g:TG}{tb:TS}{D:c7}{σ:St}{H:Hp} (Pv:Nat->St->Hp->Prop) (h0:Pv 0 σ H) (hl:∀ i σ H,i<=xs.length->Pv i σ H->aN K H a xs)
  (hs:∀ i x σ H,xs[i]? = some x->Pv i σ H->g x σ H fun σ2 H2=>tb { D with nx:=Pv (i+1),ct:=Pv (i+1),bk:=D.nx } σ2 H2) (hd:∀ σ H,Pv xs.length σ H->D.nx σ H) :
  ∃ W:Nat->Nat->St->Hp->Prop,(∃ m,W 0 m σ H)/\∀ i m σ H,W i m σ H->
   ((m6 K a).stop i H/\D.nx σ H) ∨ ((m6 K a).go i H/\∃ N:St->Hp->Prop,(∀ σ' H',N σ' H'->∃ m',m' < m/\W (i+1) m' σ' H')/\∀ x H',(m6 K a).yld i H x H'->g x σ H' fun σ2 H2=>tb { D with nx:=N,ct:=N,bk:=D.nx } σ2 H2):=by
 refine⟨fun i m σ H=>m=xs.length - i/\i<=xs.length/\Pv i σ H,⟨xs.length,by simp,bh2 _,h0⟩,?_⟩
 rintro i m σ H ⟨rfl,hi,p⟩
 have q:=hl i σ H hi p
 by_cases hlt:i < xs.length
 ·refine .inr ⟨⟨xs,xs[i],q,by simp [hlt]⟩,Pv (i+1),fun σ' H' p'=>⟨xs.length - (i+1),by omega,rfl,hlt,p'⟩,fun x H' y=>?_⟩
  obtain ⟨e,y⟩:=y
  subst e
  exact hs i x σ _ (y xs q) p
 ·have e:i=xs.length:=by omega
  subst e
  exact .inl ⟨⟨xs,q,bc1 _⟩,hd σ H p⟩
theorem ah3 {K:PySem.W.Frag}{a:Addr}{xs:List V}{g:TG}{tb:TS}{D:c7}{σ:St}{H:Hp} (Pv:Nat->St->Hp->Prop) (h0:Pv 0 σ H) (hl:∀ i σ H,i<=xs.length->Pv i σ H->aO K H a xs)
  (hs:∀ i x σ H,xs[i]? = some x->Pv i σ H->g x σ H fun σ2 H2=>tb { D with nx:=Pv (i+1),ct:=Pv (i+1),bk:=D.nx } σ2 H2) (hd:∀ σ H,Pv xs.length σ H->D.nx σ H) :
  ∃ W:Nat->Nat->St->Hp->Prop,(∃ m,W 0 m σ H)/\∀ i m σ H,W i m σ H->
   ((jT K a).stop i H/\D.nx σ H) ∨ ((jT K a).go i H/\∃ N:St->Hp->Prop,(∀ σ' H',N σ' H'->∃ m',m' < m/\W (i+1) m' σ' H')/\∀ x H',(jT K a).yld i H x H'->g x σ H' fun σ2 H2=>tb { D with nx:=N,ct:=N,bk:=D.nx } σ2 H2):=by
 refine⟨fun i m σ H=>m=xs.length - i/\i<=xs.length/\Pv i σ H,⟨xs.length,by simp,bh2 _,h0⟩,?_⟩
 rintro i m σ H ⟨rfl,hi,p⟩
 have q:=hl i σ H hi p
 by_cases hlt:i < xs.length
 ·refine .inr ⟨⟨xs,xs[i],q,by simp [hlt]⟩,Pv (i+1),fun σ' H' p'=>⟨xs.length - (i+1),by omega,rfl,hlt,p'⟩,fun x H' y=>?_⟩
  obtain ⟨e,y⟩:=y
  subst e
  exact hs i x σ _ (y xs q) p
 ·have e:i=xs.length:=by omega
  subst e
  exact .inl ⟨⟨xs,q,bc1 _⟩,hd σ H p⟩
abbrev R2:=V->V->Hp->VK->Prop
def cF (X:Cx) (f:Value->Value->Sem Value) (r:R2):Prop:=
 ∀ (pins:List (Addr × Obj)) (s:Shared) (σ:St) (H:Hp) (x y:V) (v u:Value) (Q:VK),a8 X pins σ H s->aX x v->aX y u->r x y H Q->
  wpAny (model X.prog X.w) X.A (f v u) (EP X pins σ Q) X.xe s
def tS (X:Cx) (f:Value->Sem Value) (r:V->Hp->VK->Prop):Prop:=
 ∀ (pins:List (Addr × Obj)) (s:Shared) (σ:St) (H:Hp) (x:V) (v:Value) (Q:VK),a8 X pins σ H s->aX x v->r x H Q->
  wpAny (model X.prog X.w) X.A (f v) (EP X pins σ Q) X.xe s
def cZ (X:Cx) (f:Value) (r:List V->Hp->VK->Prop):Prop:=
 ∀ (pins:List (Addr × Obj)) (s:Shared) (σ:St) (H:Hp) (xs:List V) (us:List Value) (Q:VK),a8 X pins σ H s->aK xs us->r xs H Q->
  wpAny (model X.prog X.w) X.A (call f us) (EP X pins σ Q) X.xe s
def ah4 (X:Cx) (r:V->Hp->(Bool->Hp->Prop)->Prop):Prop:=
 ∀ (pins:List (Addr × Obj)) (s:Shared) (σ:St) (H:Hp) (x:V) (v:Value) (Q:Bool->Hp->Prop),a8 X pins σ H s->aX x v->r x H Q->
  wpAny (model X.prog X.w) X.A (truthy v) (TP X pins σ Q) X.xe s
def nU (r:R2) (ta tb:TE):TE:=fun σ H Q=>ta σ H fun x H1=>tb σ H1 fun y H2=>r x y H2 Q
def tUn (r:V->Hp->VK->Prop) (ta:TE):TE:=fun σ H Q=>ta σ H fun x H1=>r x H1 Q
def rI (C:Int->Int->Prop) (g:Int->Int->V):R2:=fun x y H Q=>∃ i j,x = .int i/\y = .int j/\C i j/\Q (g i j) H
def j4 (g:Int->Int->V):R2:=fun x y H Q=>∃ i j,x = .int i/\y = .int j/\Q (g i j) H
def rU (g:Int->V):V->Hp->VK->Prop:=fun x H Q=>∃ i,x = .int i/\Q (g i) H
section
variable {X : Cx} {a b c : Expr} {ta tb tc : TE} {pos : Pos}
theorem tT (ha:PE X a ta) (hb:PE X b tb) {pins:List (Addr × Obj)}{s:Shared}{σ:St}{H:Hp}{R:V->V->Hp->Prop} (I:a8 X pins σ H s)
  (h:ta σ H fun x H1=>tb σ H1 fun y H2=>R x y H2) {Q:Value->Shared->Prop}{f:Value->Value->Sem Value}
  (hf:∀ v u s2 x y H2,a8 X pins σ H2 s2->aX x v->aX y u->R x y H2->wpAny (model X.prog X.w) X.A (f v u) Q X.xe s2) :
  wpAny (model X.prog X.w) X.A (eval a X.env) (fun v s₁=>wpAny (model X.prog X.w) X.A (eval b X.env) (fun u s₂=>wpAny (model X.prog X.w) X.A (f v u) Q X.xe s₂) X.xe s₁) X.xe s:=by
 refine aQ (ha pins s σ H _ I h) fun v s1 ⟨x,H1,I1,r1,q1⟩=>?_
 refine aQ (hb pins s1 σ H1 _ I1 q1) fun u s2 ⟨y,H2,I2,r2,q2⟩=>?_
 exact hf v u s2 x y H2 I2 r1 r2 q2
theorem ah5 {op:Operator}{r:R2} (ho:cF X (binaryOp op) r) (ha:PE X a ta) (hb:PE X b tb):PE X (.BinOp a op b pos) (nU r ta tb):=by
 intro pins s σ H Q I h
 exact wpAny_BinOp (tT ha hb I h fun v u s2 x y H2 I2 rx ry q=>ho pins s2 σ H2 x y v u Q I2 rx ry q)
theorem ah6 {op:UnaryOp}{r:V->Hp->VK->Prop} (ho:tS X (unaryOp op) r) (ha:PE X a ta):PE X (.UnaryOp op a pos) (tUn r ta):=by
 intro pins s σ H Q I h
 exact UnaryOp_ (aQ (ha pins s σ H _ I h) fun v s1 ⟨x,H1,I1,r1,q1⟩=>ho pins s1 σ H1 x v Q I1 r1 q1)
theorem nV {f:Value->Value->Sem Value}{C:Int->Int->Prop}{g:Int->Int->Int}
  (rule:∀ (i j:Int) (t u:Tok) (s:Shared) (Q:Value->Shared->Prop) (E:Value->Shared->Prop),C i j->Q (.int (g i j) s.toks) { s with toks:=s.toks+1 }->wpAny (model X.prog X.w) X.A (f (.int i t) (.int j u)) Q E s) :
  cF X f (rI C fun i j=>.int (g i j)):=by
 intro pins s σ H x y v u Q I rx ry h
 obtain ⟨i,j,rfl,rfl,hc,q⟩:=h
 obtain ⟨t,rfl⟩:=rx
 obtain ⟨t',rfl⟩:=ry
 exact rule i j t t' s _ _ hc ⟨.int (g i j),H,I.tok _,⟨_,rfl⟩,q⟩
theorem zC {f:Value->Value->Sem Value}{g:Int->Int->Int}
  (rule:∀ (i j:Int) (t u:Tok) (s:Shared) (Q:Value->Shared->Prop) (E:Value->Shared->Prop),Q (.int (g i j) s.toks) { s with toks:=s.toks+1 }->wpAny (model X.prog X.w) X.A (f (.int i t) (.int j u)) Q E s) :
  cF X f (j4 fun i j=>.int (g i j)):=by
 intro pins s σ H x y v u Q I rx ry h
 obtain ⟨i,j,rfl,rfl,q⟩:=h
 obtain ⟨t,rfl⟩:=rx
 obtain ⟨t',rfl⟩:=ry
 exact rule i j t t' s _ _ ⟨.int (g i j),H,I.tok _,⟨_,rfl⟩,q⟩
theorem tU {f:Value->Value->Sem Value}{g:Int->Int->Bool}
  (rule:∀ (i j:Int) (t u:Tok) (s:Shared) (Q:Value->Shared->Prop) (E:Value->Shared->Prop),Q (.bool (g i j)) s->wpAny (model X.prog X.w) X.A (f (.int i t) (.int j u)) Q E s) :
  cF X f (j4 fun i j=>.bl (g i j)):=by
 intro pins s σ H x y v u Q I rx ry h
 obtain ⟨i,j,rfl,rfl,q⟩:=h
 obtain ⟨t,rfl⟩:=rx
 obtain ⟨t',rfl⟩:=ry
 exact rule i j t t' s _ _ ⟨.bl (g i j),H,I,rfl,q⟩
def tV (i j:Int):Prop:=0 < j/\j < 1073741824
def tW (i j:Int):Prop:=0<=j/\j<=1000000/\i.natAbs < 2 ^ 64
def nW (i j:Int):Prop:=(-(2 ^ 64) < i/\i < 2 ^ 64) ∨ (-(2 ^ 64) < j/\j < 2 ^ 64)
theorem nW.ok {i j:Int} (h:nW i j):IntMulOk i j:=by
 rcases h with ⟨h1,h2⟩ | ⟨h1,h2⟩
 ·exact .of_left (intBits_le_64 h1 h2)
 ·exact .of_right (intBits_le_64 h1 h2)
theorem ah7 (k:Nat):(0:Int)<=2 ^ k:=by
 rw [two_pow_cast]
 exact Int.natCast_nonneg _
theorem ah8:cF X (binaryOp .Add) (j4 fun i j=>.int (i+j)):=zC fun _ _ _ _ _ _ _ q=>add_int q
theorem ah9:cF X (binaryOp .Sub) (j4 fun i j=>.int (i - j)):=zC fun _ _ _ _ _ _ _ q=>sub_int q
theorem ai0:cF X (binaryOp .Mult) (rI nW fun i j=>.int (i * j)):=nV fun _ _ _ _ _ _ _ hc q=>mul_int q hc.ok
theorem ai1:cF X (binaryOp .FloorDiv) (rI tV fun i j=>.int (i / j)):=nV fun i j _ _ _ _ _ hc q=>by
 have h1:(0:Int) < j:=hc.1
 have h2:j < 1073741824:=hc.2
 exact floordiv_int (by omega) (by rw [Int.fdiv_eq_ediv_of_nonneg i (by omega)]; exact q) (.inl (PyProof.noPylong_small (by omega)))
theorem ai2:cF X (binaryOp .Mod) (rI (fun _ j=>0 < j) fun i j=>.int (i % j)):=nV fun i j _ _ _ _ _ hc q=>by
 have h1:(0:Int) < j:=hc
 exact mod_int' (by omega) (by rw [Int.fmod_eq_emod_of_nonneg i (by omega)]; exact q)
theorem ai3:cF X (binaryOp .Pow) (rI tW fun i j=>.int (i ^ j.toNat)):=nV fun _ _ _ _ _ _ _ hc q=>pow_int_small hc.1 hc.2.1 hc.2.2 q
theorem ai4:cF X (binaryOp .RShift) (rI (fun _ j=>0<=j) fun i j=>.int (i / 2 ^ j.toNat)):=nV fun i j _ _ _ _ _ hc q=>
 rshift_int hc (by rw [Int.fdiv_eq_ediv_of_nonneg i (ah7 _)]; exact q)
theorem unI {f:Value->Sem Value}{g:Int->Int}
  (rule:∀ (i:Int) (t:Tok) (s:Shared) (Q:Value->Shared->Prop) (E:Value->Shared->Prop),Q (.int (g i) s.toks) { s with toks:=s.toks+1 }->wpAny (model X.prog X.w) X.A (f (.int i t)) Q E s) :
  tS X f (rU fun i=>.int (g i)):=by
 intro pins s σ H x v Q I rx h
 obtain ⟨i,rfl,q⟩:=h
 obtain ⟨t,rfl⟩:=rx
 exact rule i t s _ _ ⟨.int (g i),H,I.tok _,⟨_,rfl⟩,q⟩
theorem ai5:tS X (unaryOp .USub) (rU fun i=>.int (-i)):=unI fun _ _ _ _ _ q=>neg_int q
end
def zD:V->V->Bool
 | .non,.non=>true | .non,.int _=>true | .int _,.non=>true | .non,.bl _=>true | .bl _,.non=>true | .non,.str _=>true | .str _,.non=>true
 | .int _,.int _=>true | .bl _,.bl _=>true | .str _,.str _=>true | .byt _,.byt _=>true
 | .int _,.str _=>true | .str _,.int _=>true | .bl _,.str _=>true | .str _,.bl _=>true
 | _,_=>false
def zE:R2:=fun x y H Q=>zD x y=true/\Q (.bl (decide (x=y))) H
def zF:R2:=fun x y H Q=>zD x y=true/\Q (.bl (!decide (x=y))) H
theorem zG {i j:Int}:decide (V.int i=V.int j)=(i == j):=by
 rw [bl7]
 simp
theorem zH {i j:Bool}:decide (V.bl i=V.bl j)=(i == j):=by
 rw [bl7]
 simp
theorem zI {i j:Str}:decide (V.str i=V.str j)=(i == j):=by
 rw [bl7]
 simp
theorem zJ {i j:Array UInt8}:decide (V.byt i=V.byt j)=(i.toList == j.toList):=by
 rw [bl7]
 cases i
 cases j
 simp
section
variable {X : Cx} {a b c : Expr} {ta tb tc : TE} {pos : Pos}
theorem c9 {pins:List (Addr × Obj)}{σ:St}{H:Hp}{s:Shared}{Q:VK}{k k':Bool} (I:a8 X pins σ H s) (q:Q (.bl k) H) (e:k=k'):EP X pins σ Q (.bool k') s:=by
 subst e
 exact⟨.bl k,H,I,rfl,q⟩
theorem zK:cF X (compareOp .Eq) zE:=by
 intro pins s σ H x y v u Q I rx ry h
 obtain ⟨hs,q⟩:=h
 cases x with
 | non=>
  cases rx
  cases y with
  | non=>cases ry; exact PySem.EqNone.eq_none_none (c9 I q (by simp))
  | bl j=>cases ry; exact PySem.EqNone.eq_none_bool (c9 I q (by simp))
  | int j=>obtain ⟨t',rfl⟩:=ry; exact PySem.EqNone.eq_none_int (c9 I q (by simp))
  | str j=>obtain ⟨t',rfl⟩:=ry; exact PySem.EqNone.eq_none_str (c9 I q (by simp))
  | _=>exact absurd (show false=true from hs) be5
 | bl i=>
  cases rx
  cases y with
  | non=>cases ry; exact PySem.EqNone.eq_bool_none (c9 I q (by simp))
  | bl j=>cases ry; exact eq_bool (c9 I q zH)
  | str j=>obtain ⟨t',rfl⟩:=ry; exact PySem.EqMixed.eq_bool_str (c9 I q (by simp))
  | _=>exact absurd (show false=true from hs) be5
 | int i=>
  obtain ⟨t,rfl⟩:=rx
  cases y with
  | non=>cases ry; exact PySem.EqNone.eq_int_none (c9 I q (by simp))
  | int j=>obtain ⟨t',rfl⟩:=ry; exact eq_int (c9 I q zG)
  | str j=>obtain ⟨t',rfl⟩:=ry; exact PySem.EqMixed.eq_int_str (c9 I q (by simp))
  | _=>exact absurd (show false=true from hs) be5
 | str i=>
  obtain ⟨t,rfl⟩:=rx
  cases y with
  | non=>cases ry; exact PySem.EqNone.eq_str_none (c9 I q (by simp))
  | bl j=>cases ry; exact PySem.EqMixed.eq_str_bool (c9 I q (by simp))
  | int j=>obtain ⟨t',rfl⟩:=ry; exact PySem.EqMixed.eq_str_int (c9 I q (by simp))
  | str j=>obtain ⟨t',rfl⟩:=ry; exact eq_str (c9 I q zI)
  | _=>exact absurd (show false=true from hs) be5
 | byt i=>
  obtain ⟨t,rfl⟩:=rx
  cases y with
  | byt j=>obtain ⟨t',rfl⟩:=ry; exact PySem.W.eq_bytes (c9 I q zJ)
  | _=>exact absurd (show false=true from hs) be5
 | _=>cases y <;> exact absurd (show false=true from hs) be5
theorem ai6:cF X (compareOp .NotEq) zF:=by
 intro pins s σ H x y v u Q I rx ry h
 obtain ⟨hs,q⟩:=h
 cases x with
 | non=>
  cases rx
  cases y with
  | non=>cases ry; exact PySem.EqNone.ne_none_none (c9 I q (by simp))
  | bl j=>cases ry; exact PySem.EqNone.ne_none_bool (c9 I q (by simp))
  | int j=>obtain ⟨t',rfl⟩:=ry; exact PySem.EqNone.ne_none_int (c9 I q (by simp))
  | str j=>obtain ⟨t',rfl⟩:=ry; exact PySem.EqNone.ne_none_str (c9 I q (by simp))
  | _=>exact absurd (show false=true from hs) be5
 | bl i=>
  cases rx
  cases y with
  | non=>cases ry; exact PySem.EqNone.ne_bool_none (c9 I q (by simp))
  | bl j=>cases ry; exact ne_bool (c9 I q (congrArg not zH))
  | str j=>obtain ⟨t',rfl⟩:=ry; exact PySem.EqMixed.ne_bool_str (c9 I q (by simp))
  | _=>exact absurd (show false=true from hs) be5
 | int i=>
  obtain ⟨t,rfl⟩:=rx
  cases y with
  | non=>cases ry; exact PySem.EqNone.ne_int_none (c9 I q (by simp))
  | int j=>obtain ⟨t',rfl⟩:=ry; exact ne_int (c9 I q (congrArg not zG))
  | str j=>obtain ⟨t',rfl⟩:=ry; exact PySem.EqMixed.ne_int_str (c9 I q (by simp))
  | _=>exact absurd (show false=true from hs) be5
 | str i=>
  obtain ⟨t,rfl⟩:=rx
  cases y with
  | non=>cases ry; exact PySem.EqNone.ne_str_none (c9 I q (by simp))
  | bl j=>cases ry; exact PySem.EqMixed.ne_str_bool (c9 I q (by simp))
  | int j=>obtain ⟨t',rfl⟩:=ry; exact PySem.EqMixed.ne_str_int (c9 I q (by simp))
  | str j=>obtain ⟨t',rfl⟩:=ry; exact ne_str (c9 I q (congrArg not zI))
  | _=>exact absurd (show false=true from hs) be5
 | byt i=>
  obtain ⟨t,rfl⟩:=rx
  cases y with
  | byt j=>obtain ⟨t',rfl⟩:=ry; exact PySem.W.ne_bytes (c9 I q (congrArg not zJ))
  | _=>exact absurd (show false=true from hs) be5
 | _=>cases y <;> exact absurd (show false=true from hs) be5
theorem pQ:cF X (compareOp .Lt) (j4 fun i j=>.bl (decide (i < j))):=tU fun _ _ _ _ _ _ _ q=>lt_int q
theorem ai7:cF X (compareOp .Gt) (j4 fun i j=>.bl (decide (j < i))):=tU fun _ _ _ _ _ _ _ q=>gt_int q
theorem zL:cF X (compareOp .GtE) (j4 fun i j=>.bl (decide (j<=i))):=tU fun _ _ _ _ _ _ _ q=>ge_int q
theorem ai8:cF X (compareOp .IsNot) (fun x y H Q=>y = .non/\Q (.bl (!decide (x = .non))) H):=by
 intro pins s σ H x y v u Q I rx ry h
 obtain ⟨rfl,q⟩:=h
 cases ry
 refine isnot_none_gen (c9 I q ?_)
 cases x <;> first
  | (cases rx; rfl)
  | (obtain ⟨t,rfl⟩:=rx; rfl)
theorem fR (b:Expr) {op:CmpOp} (h:op ≠ .In:=by decide) (h2:op ≠ .NotIn:=by decide):behindInMarks op b=false:=by
 have e1:(op == CmpOp.In)=false:=by cases op <;> first | rfl | exact absurd rfl h
 have e2:(op == CmpOp.NotIn)=false:=by cases op <;> first | rfl | exact absurd rfl h2
 cases b <;> simp [behindInMarks,e1,e2]
theorem tX {op:CmpOp}{r:R2} (ho:cF X (compareOp op) r) (ha:PE X a ta) (hb:PE X b tb) (hm:behindInMarks op b=false):PE X (.Compare a [op] [b] pos) (nU r ta tb):=by
 intro pins s σ H Q I h
 exact wpAny_Compare1 (tT ha hb I h fun v u s2 x y H2 I2 rx ry q=>ho pins s2 σ H2 x y v u Q I2 rx ry q) hm
def ai9 (t:TE):TT:=fun σ H Q=>t σ H fun x H'=>∃ k,x = .bl k/\Q k H'
theorem aj0 {op:CmpOp}{r:R2} (ho:cF X (compareOp op) r) (ha:PE X a ta) (hb:PE X b tb) (hm:behindInMarks op b=false):PT X (.Compare a [op] [b] pos) (ai9 (nU r ta tb)):=by
 intro pins s σ H Q I h
 refine wpAny_isTrue_Compare1 (aQ (ha pins s σ H _ I h) fun v s1 ⟨x,H1,I1,r1,q1⟩=>aQ (hb pins s1 σ H1 _ I1 q1) fun u s2 ⟨y,H2,I2,r2,q2⟩=>
  aQ (ho pins s2 σ H2 x y v u _ I2 r1 r2 q2) fun c s3 ⟨z,H3,I3,r3,k,e,q3⟩=>?_) hm
 subst e
 cases r3
 exact bp6 ⟨H3,I3,q3⟩
def tY (K:PySem.W.Frag) (x:V) (H:Hp) (k:Bool):Prop:=
 match x with
 | .non=>k=false
 | .bl b=>k=b
 | .int i=>k=(i != 0)
 | .str y=>y.length<=sizeLine/\k=((y.length:Int) != 0)
 | .byt y=>y.size<=sizeLine/\k=((y.size:Int) != 0)
 | .ref p=>(∃ xs,aN K H p xs/\k = !xs.isEmpty) ∨ (∃ xs,aO K H p xs/\k = !xs.isEmpty) ∨ ∃ kvs,H p=some (.dK kvs)/\k = !kvs.isEmpty
 | _=>False
theorem aj1 {κ:Type}{kvs:List (κ × V)}{vs:List (κ × Value)} (r:KV kvs vs):(!vs.isEmpty) = !kvs.isEmpty:=by
 cases r <;> rfl
theorem zM {xs:List V}{its:List Value} (r:aK xs its):(!its.toArray.isEmpty) = !xs.isEmpty:=by
 cases r <;> simp
theorem m7:(sizeLine:Nat) < 2 ^ 63:=by rw [sizeLine_eq]; decide
theorem aj2:ah4 X (fun x H Q=>∃ k,tY X.K x H k/\Q k H):=by
 intro pins s σ H x v Q I rx h
 obtain ⟨k,e,q⟩:=h
 have hl:=m7
 have hs:sizeLine=16777216:=sizeLine_eq
 cases x with
 | non=>
  cases rx
  have e':k=false:=e
  subst e'
  exact truthy_none ⟨H,I,q⟩
 | bl b=>
  cases rx
  have e':k=b:=e
  subst e'
  exact bp6 ⟨H,I,q⟩
 | int i=>
  obtain ⟨t,rfl⟩:=rx
  have e':k=(i != 0):=e
  subst e'
  exact PySem.P.truthy_int ⟨H,I,q⟩
 | str y=>
  obtain ⟨t,rfl⟩:=rx
  obtain ⟨hy,e'⟩:y.length<=sizeLine/\k=((y.length:Int) != 0):=e
  subst e'
  exact PySem.P.truthy_str (by omega) ⟨H,I.tok _,q⟩
 | byt y=>
  obtain ⟨t,rfl⟩:=rx
  obtain ⟨hy,e'⟩:y.size<=sizeLine/\k=((y.size:Int) != 0):=e
  subst e'
  exact PySem.W.truthy_bytes (by omega) ⟨H,I.tok _,q⟩
 | ref p=>
  cases rx
  have e':(∃ xs,aN X.K H p xs/\k = !xs.isEmpty) ∨ (∃ xs,aO X.K H p xs/\k = !xs.isEmpty) ∨ ∃ kvs,H p=some (.dK kvs)/\k = !kvs.isEmpty:=e
  rcases e' with ⟨xs,hx,e'⟩ | ⟨xs,hx,e'⟩ | ⟨kvs,hx,e'⟩
  ·subst e'
   obtain ⟨its,r,pl,hz⟩:=I.list hx
   have hlen:=r.length
   exact wpAny_truthy_list pl.isList (by simp only [bb9]; omega) ⟨H,I.tok _,by rw [zM r]; exact q⟩
  ·subst e'
   obtain ⟨its,r,pl,hz⟩:=I.tuple hx
   have hlen:=r.length
   exact truthy_tuple pl (by simp only [bb9]; omega) ⟨H,I.tok _,by rw [zM r]; exact q⟩
  ·subst e'
   obtain ⟨hz,hS,vs,r,m⟩:kvs.length<=sizeLine/\(p == sysModules)=false/\∃ vs,KV kvs vs/\s.heap.DictOf (eQ X.prog X.w) p vs:=I.hok p _ hx
   have hlen:kvs.length=vs.length:=Paired.length r
   exact wpAny_truthy_dict hS m (by omega) ⟨H,I.tok _,by rw [aj1 r]; exact q⟩
 | _=>exact (show False from e).elim
theorem aj3 (ha:PE X a ta) (he:∀ whole,isTrue a X.env whole=(do let v <- whole; standAt a.pos; holding [v] (truthy v))) :
  PT X a (fun σ H Q=>ta σ H fun x H'=>∃ k,tY X.K x H' k/\Q k H'):=by
 intro pins s σ H Q I h
 exact isTrue_plain (aQ (ha pins s σ H _ I h) fun v s1 ⟨x,H1,I1,r1,q1⟩=>aj2 pins s1 σ H1 x v Q I1 r1 q1) (he _)
theorem gC {x:V}{us:List Value} (r:aK [x] us):∃ u,us = [u]/\aX x u:=by
 cases r with
 | cons r1 r2=>cases r2; exact⟨_,rfl,r1⟩
theorem tZ {x y:V}{us:List Value} (r:aK [x,y] us):∃ u w',us = [u,w']/\aX x u/\aX y w':=by
 cases r with
 | cons r1 r2=>
  cases r2 with
  | cons r3 r4=>cases r4; exact⟨_,_,rfl,r1,r3⟩
theorem aj4 (hc:X.calm=true):cZ X (.builtin "max") (fun xs H Q=>∃ i j,xs = [.int i,.int j]/\Q (.int (if j > i then j else i)) H):=by
 intro pins s σ H xs us Q I r h
 obtain ⟨i,j,rfl,q⟩:=h
 obtain ⟨u,w',rfl,⟨t,rfl⟩,⟨t',rfl⟩⟩:=tZ r
 refine max_two_ints (I.ok.hd hc) fun h' tk k=>⟨_,H,I.kept k,?_,q⟩
 by_cases hj:j > i
 ·rw [if_pos hj,if_pos hj]; exact⟨_,rfl⟩
 ·rw [if_neg hj,if_neg hj]; exact⟨_,rfl⟩
theorem aj5 (hc:X.calm=true):cZ X (.builtin "min") (fun xs H Q=>∃ i j,xs = [.int i,.int j]/\Q (.int (if j < i then j else i)) H):=by
 intro pins s σ H xs us Q I r h
 obtain ⟨i,j,rfl,q⟩:=h
 obtain ⟨u,w',rfl,⟨t,rfl⟩,⟨t',rfl⟩⟩:=tZ r
 refine min_two_ints (I.ok.hd hc) fun h' tk k=>⟨_,H,I.kept k,?_,q⟩
 by_cases hj:j < i
 ·rw [if_pos hj,if_pos hj]; exact⟨_,rfl⟩
 ·rw [if_neg hj,if_neg hj]; exact⟨_,rfl⟩
end
theorem iH.some_of {v:V}{o:Option Value} (r:iH (some v) o):∃ u,o=some u/\aX v u:=by
 cases o with
 | none=>exact (show False from r).elim
 | some u=>exact⟨u,rfl,r⟩
structure c8 (k:Nat) (A:Around):Prop where
 hd:A.handled=none
 dp:A.depth+3 * k+5 < recursionLimit
 un:A.units+16 * k+200 < cLine
theorem c8.mono {j k:Nat}{A:Around} (r:c8 k A) (h:j<=k):c8 j A:=⟨r.hd,by have:=r.dp; omega,by have:=r.un; omega⟩
theorem c8.deeper {k:Nat}{A:Around} (r:c8 (k+1) A) (env:Env):c8 k (A.deeper env):=
 ⟨r.hd,by have:=r.dp; show A.depth+1+3 * k+5 < _; omega,by have:=r.un; show A.units+3+16 * k+200 < _; omega⟩
theorem c8.depth {k:Nat}{A:Around} (r:c8 k A):A.depth < recursionLimit:=by have:=r.dp; omega
theorem c8.units {k:Nat}{A:Around} (r:c8 k A):A.units+64 < cLine:=by have:=r.un; omega
def j5:TA:=fun _ H Q=>Q [] H
def gZ (ta:TE) (tr:TA):TA:=fun σ H Q=>ta σ H fun x H1=>tr σ H1 fun xs H2=>Q (x :: xs) H2
section
variable {X : Cx} {e : Expr} {es : List Expr} {te : TE} {t : TA} {pos : Pos}
theorem dY:PA X [] j5:=fun _ _ _ _ H Q I h=>Calls.spliced_nil ⟨[],H,I,.nil,h⟩
theorem dD (ha:PE X e te) (hr:PA X es t) (hs:starEach (e :: es) X.env=(false,eval e X.env) :: starEach es X.env:=by rfl):PA X (e :: es) (gZ te t):=by
 intro pos pins s σ H Q I h
 rw [hs]
 show wpAny _ _ (spliced ((false,eval e X.env) :: backTo pos (starEach es X.env))) _ _ s
 refine Calls.spliced_cons (aQ (ha pins s σ H _ I h) fun u s1 ⟨x,H1,I1,r1,q1⟩=>?_)
 exact aQ (hr pos pins s1 σ H1 _ I1 q1) fun us s2 ⟨xs,H2,I2,r2,q2⟩=>⟨x :: xs,H2,I2,.cons r1 r2,q2⟩
def u4 (t:TA):TE:=fun σ H Q=>t σ H fun xs H1=>xs.length<=sizeLine/\∀ p,H1 p=none->Q (.ref p) (upd H1 p (.tup xs))
def u5 (t:TA):TE:=fun σ H Q=>t σ H fun xs H1=>xs.length<=sizeLine/\∀ p,H1 p=none->Q (.ref p) (upd H1 p (.lst xs))
theorem zN {x1} (h:PA X es t):PE X (.Tuple es x1 pos) (u4 t):=by
 intro pins s σ H Q I hq
 refine wpAny_Tuple_spliced (aQ (h pos pins s σ H _ I hq) fun us s1 ⟨xs,H1,I1,r,z,q⟩=>⟨by rw [<- r.length]; exact z,?_⟩)
 have hf:H1 s1.heap.objs.size=none:=I1.hok.fresh (bc1 _)
 refine⟨.ref s1.heap.objs.size,upd H1 s1.heap.objs.size (.tup xs),I1.laid (t':=s1.toks) (fun b u e=>bb8 _ e) (bc1 _) ?_,rfl,q _ hf⟩
 exact⟨z,us,r,⟨_,bd2 _ rfl,rfl,_,rfl⟩⟩
theorem u6 (h:PA X es t):PE X (.List es pos) (u5 t):=by
 intro pins s σ H Q I hq
 refine wpAny_List_spliced (aQ (h pos pins s σ H _ I hq) fun us s1 ⟨xs,H1,I1,r,z,q⟩=>⟨by rw [<- r.length]; exact z,?_⟩)
 have hf:H1 s1.heap.objs.size=none:=I1.hok.fresh (bc1 _)
 refine⟨.ref s1.heap.objs.size,upd H1 s1.heap.objs.size (.lst xs),I1.laid (t':=s1.toks) (fun b u e=>bb8 _ e) (bc1 _) ?_,rfl,q _ hf⟩
 exact⟨z,us,0,r,bd2 _ rfl⟩
end
abbrev Sp:=List V->Hp->VK->XK->Prop
abbrev gD:=List Env->Hp->Shared->XK->Value->Shared->Prop
structure pR (P:Program) (w:World) (K:PySem.W.Frag) (mg:Str->Option Value) (base:Heap) (A:Around) (outer:List Env) (s:Shared) (H:Hp):Prop where
 frames:A.frames=some outer
 mod:Mod K mg base
 bs:∀ b o,base.get? b=some o->s.heap.get? b=some o/\H b=none
 bsz:base.objs.size<=s.heap.objs.size
 funs:s.heap.FunFrames base outer
 frf:∀ b ∈ bO outer,H b=none
 hok:bW P w H s.heap
 bare:AllBare s.gens
def CE (outer:List Env) (P:Program) (w:World) (H:Hp) (s:Shared) (Q:VK) (u:Value) (s':Shared):Prop:=
 ∃ v H',s'.os=s.os/\AllBare s'.gens/\Un (bO outer) [] H H' s.heap s'.heap/\bW P w H' s'.heap/\aX v u/\Q v H'
def CR (CX:gD) (outer:List Env) (P:Program) (w:World) (H:Hp) (s:Shared) (Q:VK) (E:XK) (r:Result) (s':Shared):Prop:=
 match r with
 | .ok (.ret u)=>CE outer P w H s Q u s'
 | .ok _=>False
 | .error e=>CX outer H s E e s'
structure cW (P:Program) (w:World) (K:PySem.W.Frag) (mg:Str->Option Value) (base:Heap) (CX:gD) (k:Nat) (f:Addr) (fd:FuncData) (ps:List Str) (sp:Sp):Prop where
 len:∀ vs H Q E,sp vs H Q E->vs.length=ps.length
 run:∀ (A:Around) (outer:List Env) (s:Shared) (H:Hp) (args:Args) (us:List Value) (vs:List V) (Q:VK) (E:XK),c8 k A->pR P w K mg base A outer s H->BindsTo s fd args (ps.zip us)->aK vs us->sp vs H Q E->
  codeAny (model P w) A (.call (.ref f) args) (CR CX outer P w H s Q E) s
theorem cW.imp {P:Program}{w:World}{K:PySem.W.Frag}{mg:Str->Option Value}{base:Heap}{CX:gD}{k:Nat}{f:Addr}{fd:FuncData}{ps:List Str}{sp sp':Sp} (F:cW P w K mg base CX k f fd ps sp)
  (h:∀ vs H Q E,sp' vs H Q E->sp vs H Q E):cW P w K mg base CX k f fd ps sp':=
 ⟨fun vs H Q E q=>F.len vs H Q E (h _ _ _ _ q),fun A outer s H args us vs Q E hr he hb hv hs=>F.run A outer s H args us vs Q E hr he hb hv (h _ _ _ _ hs)⟩
section
variable {X : Cx} {pins : List (Addr × Obj)} {σ : St} {H : Hp} {s s' : Shared}
theorem a8.env0 (I:a8 X pins σ H s):pR X.prog X.w X.K X.mg X.base X.A X.stack s H:=
 ⟨I.ok.frames,I.ok.mod,I.bs,bg0 I.ok.bsz I.sz,I.stack,I.stkFree,I.hok,I.bare⟩
theorem a8.after {Q:VK}{u:Value} (I:a8 X pins σ H s) (h:CE X.stack X.prog X.w H s Q u s'):EP X pins σ Q u s':=by
 obtain ⟨v,H',os,bare,un,hok,r,q⟩:=h
 obtain ⟨hh,g,d,t,os'⟩:=s'
 obtain rfl:os'=s.os:=os
 exact⟨v,H',I.call (h':=hh) (g':=g) (d':=d) (t':=t) (ch:=[]) un hok bare (fun b z=>absurd z (by simp)),r,q⟩
end
def u7 (sp:Sp) (dvs:List V) (E:XK) (t:TA):TE:=fun σ H Q=>t σ H fun vs H1=>sp (vs ++ dvs) H1 Q E
def hG (K:PySem.W.Frag) (fd:FuncData) (ps:List Str) (ds:List Value):Prop:=
 ∀ (s:Shared) (us:List Value),K.In s.heap->(us ++ ds).length=ps.length->BindsTo s fd ⟨us,[]⟩ (ps.zip (us ++ ds))
theorem hG.all {K:PySem.W.Frag}{fd:FuncData}{ps:List Str} (h:∀ us:List Value,us.length=ps.length->bindArgs fd ⟨us,[]⟩=pure (ps.zip us)):hG K fd ps []:=fun s us _ hl=>by
 rw [be6] at hl ⊢
 exact .of_eq (h us hl)
def nX (CX:gD) (X:Cx) (E:XK):Prop:=∀ (pins:List (Addr × Obj)) (σ:St) (H:Hp) (s:Shared) (e:Value) (s':Shared),a8 X pins σ H s->CX X.stack H s E e s'->X.xe e s'
section
variable {X : Cx} {CX : gD} {k : Nat} {f C : Addr} {fd : FuncData} {ps : List Str} {sp : Sp} {dvs : List V} {ds : List Value} {E : XK} {x m : Str} {p pos apos : Pos} {e o : Expr} {es : List Expr} {ta : TE} {t : TA}
theorem aj6 {pins:List (Addr × Obj)}{σ:St}{H:Hp}{s:Shared}{Q:VK}{us:List Value}{vs:List V} (F:cW X.prog X.w X.K X.mg X.base CX k f fd ps sp) (hr:c8 k X.A) (hb:hG X.K fd ps ds) (hd:aK dvs ds) (hx:nX CX X E)
  (I:a8 X pins σ H s) (r:aK vs us) (h:sp (vs ++ dvs) H Q E):wpAny (model X.prog X.w) X.A (call (.ref f) us) (EP X pins σ Q) X.xe s:=by
 have r2:aK (vs ++ dvs) (us ++ ds):=r.append hd
 have hl:(us ++ ds).length=ps.length:=by rw [<- r2.length]; exact F.len _ _ _ _ h
 refine wpAny_call (codeAny_mono (F.run X.A X.stack s H ⟨us,[]⟩ (us ++ ds) (vs ++ dvs) Q E hr I.env0 (hb s us I.kIn hl) r2 h) fun r s' hq=>?_)
 cases r with
 | error e=>exact hx pins σ H s e s' I hq
 | ok fl=>
  cases fl with
  | ret u=>exact I.after hq
  | next=>exact False.elim hq
  | brk=>exact False.elim hq
  | cont=>exact False.elim hq
theorem pS (F:cW X.prog X.w X.K X.mg X.base CX k f fd ps sp) (hr:c8 k X.A) (hg:Gl X x) (hm:X.mg x=some (.ref f)) (hk:PySem.W.keepIn X.K (.ref f)=true) (hb:hG X.K fd ps ds) (hd:aK dvs ds) (hx:nX CX X E)
  (ha:PA X (e :: es) t) (hdb:(x == ("__debug__" : Str))=false:=by decide) (he:starEach (e :: es) X.env=(false,eval e X.env) :: starEach es X.env:=by rfl) (hpl:(backTo pos (starEach es X.env)).any (·.1)=false:=by rfl) :
  PE X (.Call (.Name x p) (e :: es) [] pos) (u7 sp dvs E t):=by
 intro pins s σ H Q I h
 refine wpAny_Call_Name_kw (nP I hg hm ?_ hdb)
 refine PySem.W.callWith_K (h₀:=X.base) I.ok.mod.kin hk (aQ (ha pos pins s σ H _ I h) fun us s1 ⟨vs,H1,I1,r,q⟩=>⟨I1.kIn,?_⟩) he hpl
 exact aj6 F hr hb hd hx I1 r q
end
def PK (X:Cx) (kws:List Keyword) (t:TA):Prop:=
 ∀ (pos:Pos) (pins:List (Addr × Obj)) (s:Shared) (σ:St) (H:Hp) (Q:List V->Hp->Prop),a8 X pins σ H s->t σ H Q->wpAny (model X.prog X.w) X.A (evalAll ((backToKw pos (keywordEach kws X.env)).map (·.2))) (AP X pins σ Q) X.xe s
structure FnScope (N P:List Str) (sc:Scope):Prop where
 kind:sc.kind = .function
 co:sc.isCoroutine=false
 gen:sc.isGenerator=false
 nd:N.Nodup
 pre:N.take P.length=P
 par:∀ x ∈ P,sc.names.lookup x=some .local ∨ sc.names.lookup x=some .cell
 nofree:∀ y ∈ sc.names,y.2 ≠ .free
theorem zO {kindOf:Str->Option NameKind}{x:Str}:∀ {binds:List (Str × Value)}{m:Str->Option Value},(∀ v,(x,v) ∉ binds)->bindL kindOf binds m x=m x
 | [],_,_=>rfl
 | (n,v) :: r,m,h=>by
  unfold bindL
  rw [zO fun w hw=>h w (be4 _ hw)]
  split
  ·have:x ≠ n:=by rintro rfl; exact h v bd0
   simp [this]
  ·rfl
theorem zP {kindOf:Str->Option NameKind}{x:Str}:∀ {binds:List (Str × Value)}{m:Str->Option Value},(∀ v,(x,v) ∉ binds)->bindC kindOf binds m x=m x
 | [],_,_=>rfl
 | (n,v) :: r,m,h=>by
  unfold bindC
  rw [zP fun w hw=>h w (be4 _ hw)]
  split
  ·rfl
  ·have:x ≠ n:=by rintro rfl; exact h v bd0
   simp [this]
theorem zQ {kindOf:Str->Option NameKind}{x:Str}{v:Value}:∀ {P:List Str}{vs:List Value}{i:Nat}{m:Str->Option Value},P.Nodup->P[i]? = some x->vs[i]? = some v->kindOf x=some .local->
  bindL kindOf (P.zip vs) m x=some v
 | [],_,_,_,_,h,_,_=>by simp at h
 | _ :: _,[],_,_,_,_,h,_=>by simp at h
 | p :: P,w :: vs,0,m,nd,h1,h2,hk=>by
  simp at h1 h2; subst h1; subst h2
  show bindL kindOf ((p,w) :: P.zip vs) m p=_
  unfold bindL
  rw [zO fun v hv=>(List.nodup_cons.mp nd).1 (List.of_mem_zip hv).1,if_pos hk]
  simp
 | p :: P,w :: vs,i+1,m,nd,h1,h2,hk=>by
  show bindL kindOf ((p,w) :: P.zip vs) m x=_
  unfold bindL
  exact zQ (i:=i) (List.nodup_cons.mp nd).2 (by simpa using h1) (by simpa using h2) hk
theorem zR {kindOf:Str->Option NameKind}{x:Str}{v:Value}:∀ {P:List Str}{vs:List Value}{i:Nat}{m:Str->Option Value},P.Nodup->P[i]? = some x->vs[i]? = some v->kindOf x ≠ some .local->
  bindC kindOf (P.zip vs) m x=some v
 | [],_,_,_,_,h,_,_=>by simp at h
 | _ :: _,[],_,_,_,_,h,_=>by simp at h
 | p :: P,w :: vs,0,m,nd,h1,h2,hk=>by
  simp at h1 h2; subst h1; subst h2
  show bindC kindOf ((p,w) :: P.zip vs) m p=_
  unfold bindC
  rw [zP fun v hv=>(List.nodup_cons.mp nd).1 (List.of_mem_zip hv).1,if_neg hk]
  simp
 | p :: P,w :: vs,i+1,m,nd,h1,h2,hk=>by
  show bindC kindOf ((p,w) :: P.zip vs) m x=_
  unfold bindC
  exact zR (i:=i) (List.nodup_cons.mp nd).2 (by simpa using h1) (by simpa using h2) hk
def gE (N:List Str) (vs:List V):St:=vs.map some ++ List.replicate (N.length - vs.length) none
def dA (CX:gD) (P:Program) (w:World) (K:PySem.W.Frag) (mg:Str->Option Value) (base:Heap) (N:List Str) (qual:Str) (scope:Scope) (f:Addr) (cd:Value) (A:Around) (outer:List Env) (s:Shared) (H:Hp) (E:XK):Cx where
 prog:=P
 w:=w
 K:=K
 mg:=mg
 base:=base
 A:=A.deeper (envOfC qual scope s.heap.objs.size f cd)
 N:=N
 s₀:=s
 H₀:=H
 env:=envOfC qual scope s.heap.objs.size f cd
 outer:=outer
 stack:=envOfC qual scope s.heap.objs.size f cd :: outer
 ex:=[]
 calm:=true
 fn:=fun _=>true
 pn:=[]
 xe:=fun e s'=>wpAny (model P w) (A.deeper (envOfC qual scope s.heap.objs.size f cd)) (leaving (envOfC qual scope s.heap.objs.size f cd) e) (fun _ s''=>CX outer H s E e s'') (fun e' s''=>CX outer H s E e' s'') s'
theorem zS {sc:Scope}{n:Nat}{x:Str} (h:sc.names.lookup x=some .cell):∃ c,(cellsFrom n sc.names []).lookup x=some c:=by
 have q:=PySem.W.cellsFrom_some sc.names n [] (.inl h)
 exact Option.isSome_iff_exists.mp q
theorem aj7 {CX:gD}{P:Program}{w:World}{K:PySem.W.Frag}{mg:Str->Option Value}{base:Heap}{N ps:List Str}{qual:Str}{scope:Scope}{f:Addr}{cd:Value}{A:Around}{outer:List Env}{s s1:Shared}{H:Hp}{E:XK}{us:List Value}{vs:List V}
  (S:FnScope N ps scope) (hd:A.handled=none) (e0:pR P w K mg base A outer s H) (hl:vs.length=ps.length) (r:aK vs us)
  (x:InCallC s s.heap.objs.size (bindL (envOfC qual scope s.heap.objs.size f cd).kindOf (ps.zip us) fun _=>none) (cellsFrom (s.heap.objs.size+1) scope.names []) (bindC (envOfC qual scope s.heap.objs.size f cd).kindOf (ps.zip us) fun _=>none) s1) :
  a8 (dA CX P w K mg base N qual scope f cd A outer s H E) [] (gE N vs) H s1:=by
 have hpl:ps.length<=N.length:=by have:=congrArg List.length S.pre; rw [bh3] at this; omega
 obtain ⟨h1,tk,rfl,hk⟩:=x.done
 have noA:∀ b:Addr,b ∉ (dA CX P w K mg base N qual scope f cd A outer s H E).ex:=fun b z=>absurd (show b ∈ ([]:List Addr) from z) (by simp)
 refine⟨⟨e0.mod,S.kind,rfl,rfl,bc1 _,fun y z c h1 h2=>?_,fun y hy=>?_,fun y c _ h=>?_,fun _=>hd,Around.frames_deeper e0.frames,.inr ⟨rfl,rfl⟩,fun b z=>absurd z (noA b),e0.bs,e0.bsz,fun b _ _=>noA b,fun b z=>absurd z (noA b),e0.funs,e0.frf⟩,
  rfl,e0.bare,Un.kept hk,⟨_,x.toInCall.ns,fun i y v h1 h2 h3=>?_⟩,fun y c h=>⟨_,x.cell y c h⟩,e0.hok.fresh (bc1 _),fun y c h=>?_,fun p hp=>absurd (show p ∈ ([]:List (Addr × Obj)) from hp) (by simp),e0.hok.kept hk,?_⟩
 ·exact name_of_addr x.apart (bh5 h1) (bh5 h2)
 ·have hy:scope.names.lookup y=some .cell ∨ scope.names.lookup y=some .free:=hy
  rcases hy with hy | hy
  ·exact zS hy
  ·exact absurd rfl (S.nofree _ (bh5 hy))
 ·exact bi2 (x.above y c (bh5 h))
 ·have hi:i < vs.length:=by
   unfold gE at h2
   by_cases hi:i < vs.length
   ·exact hi
   ·rw [bk7 (by simpa using hi)] at h2
    rw [List.getElem?_replicate] at h2
    split at h2 <;> cases h2
  have ha:vs[i]? = some v:=by
   unfold gE at h2
   rw [bk1 (by simpa using hi),bc9] at h2
   cases e:vs[i]? with
   | none=>rw [e] at h2; cases h2
   | some a=>rw [e] at h2; cases h2; rfl
  obtain ⟨u,hu,rv⟩:=r.get ha
  have hp:ps[i]? = some y:=by
   rw [<- S.pre,List.getElem?_take_of_lt (by omega)]; exact h1
  have ndP:ps.Nodup:=by rw [<- S.pre]; exact S.nd.sublist (List.take_sublist _ _)
  refine⟨u,rv,?_⟩
  rcases S.par y (be1 hp) with k | k
  ·exact .inl ⟨k,zQ ndP hp hu k⟩
  ·obtain ⟨c,e⟩:=zS (n:=s.heap.objs.size+1) k
   refine .inr ⟨.inl k,c,e,?_⟩
   have q:=x.cell y c e
   rw [zR ndP hp hu (by show scope.names.lookup y ≠ _; rw [k]; decide)] at q
   exact q
 ·exact e0.hok.fresh (bi2 (x.above y c (bh5 h)))
 ·unfold gE
  show _=N.length
  rw [bc0,bc4,List.length_replicate]
  omega
theorem zT {CX:gD}{P:Program}{w:World}{K:PySem.W.Frag}{mg:Str->Option Value}{base:Heap}{k:Nat}{f:Addr}{name qual:Str}{params:Arguments}{body:List Stmt}{scope:Scope}{dV kV doc pm cdv ct oc:Value}{an od:Option Addr}
  {osl:Array (Option Value)}{N ps:List Str}{sp:Sp} (lk:K.lookup f=some ⟨oc,od,.func (PySem.W.fnOf name qual params body scope dV kV doc pm an cdv ct),osl⟩) (hcd:PySem.W.codeIn K cdv qual=true) (S:FnScope N ps scope)
  (len:∀ vs H Q E,sp vs H Q E->vs.length=ps.length)
  (hbody:∀ (A:Around) (outer:List Env) (s:Shared) (H:Hp) (vs:List V) (Q:VK) (E:XK),c8 k (A.deeper (envOfC qual scope s.heap.objs.size f cdv))->sp vs H Q E->
   ∃ t,cY (dA CX P w K mg base N qual scope f cdv A outer s H E) body t/\t { nx:=fun _ H'=>Q .non H',rt:=Q } (gE N vs) H) :
  cW P w K mg base CX (k+1) f (PySem.W.fnOf name qual params body scope dV kV doc pm an cdv ct) ps sp:=by
 refine⟨len,fun A outer s H args us vs Q E hr e0 hb r hsp=>?_⟩
 have hl:=len _ _ _ _ hsp
 have KX:K.In s.heap:=e0.mod.kin.keeps fun b o e=>(e0.bs b o e).1
 have lim:s.heap.NoLimit:=e0.mod.nolimit.keeps fun b o e=>(e0.bs b o e).1
 have hkind:∀ y ∈ ps.zip us,scope.names.lookup y.1=some .local ∨ (scope.names.lookup y.1=some .cell/\((cellsFrom (s.heap.objs.size+1) scope.names []).lookup y.1).isSome=true):=fun ⟨n,v⟩ hy=>by
  rcases S.par n (List.of_mem_zip hy).1 with q | q
  ·exact .inl q
  ·exact .inr ⟨q,PySem.W.cellsFrom_some _ _ _ (.inl q)⟩
 refine codeAny_call_function hr.depth (KX _ _ lk) rfl S.co S.gen rfl (PySem.W.codeRec_of KX hcd) (hb _ _ _ _ ?_)
 refine wpAny_newFunctionEnv_cells S.kind hkind fun env he s1 x=>?_
 subst he
 refine⟨lim.keeps x.toInCall.keep,codeAny_func ?_⟩
 obtain ⟨t,ht,hq⟩:=hbody A outer s H vs Q E (hr.deeper _) hsp
 have I:a8 (dA CX P w K mg base N qual scope f cdv A outer s H E) [] (gE N vs) H s1:=aj7 S hr.hd e0 hl r x
 refine bj2 (ht [] s1 (gE N vs) H _ I hq) (fun fl s' hs=>?_) fun e s' hs=>hs
 have fin:∀ {σ':St}{H':Hp}{v:V}{u:Value},a8 (dA CX P w K mg base N qual scope f cdv A outer s H E) [] σ' H' s'->aX v u->Q v H'->CE outer P w H s Q u s':=
  fun {σ' H' v u} J rv q=>⟨v,H',J.os,J.bare,J.base,J.hok,rv,q⟩
 cases fl with
 | ret u=>
  obtain ⟨v,σ',H',J,rv,q⟩:=hs
  exact fin J rv q
 | next=>
  obtain ⟨σ',H',J,q⟩:=hs
  exact fin (v:=V.non) (u:=Value.none) J rfl q
 | brk=>
  obtain ⟨_,_,_,q⟩:=hs
  exact False.elim q
 | cont=>
  obtain ⟨_,_,_,q⟩:=hs
  exact False.elim q
section
variable {X : Cx} {x : Str} {p pos : Pos} {e : Expr} {es : List Expr} {t : TA} {id T : String} {r : List V → Hp → VK → Prop}
def u8 (r:List V->Hp->VK->Prop) (t:TA):TE:=fun σ H Q=>t σ H fun vs H1=>r vs H1 Q
theorem pT (hc:cZ X (.builtin id) r) (hg:Gl X x) (hm:X.mg x=none) (hv:bootBuiltins x=some (.builtin id)) (ha:PA X (e :: es) t) (hn:x ≠ "__name__":=by decide) (hdb:(x == ("__debug__" : Str))=false:=by decide)
  (he:starEach (e :: es) X.env=(false,eval e X.env) :: starEach es X.env:=by rfl) (hpl:(backTo pos (starEach es X.env)).any (·.1)=false:=by rfl):PE X (.Call (.Name x p) (e :: es) [] pos) (u8 r t):=by
 intro pins s σ H Q I h
 refine wpAny_Call_Name_kw (iI I hg hm hv ?_ hn hdb)
 exact PyProof.Rows.callWith_builtin1 (aQ (ha pos pins s σ H _ I h) fun us s1 ⟨vs,H1,I1,r1,q1⟩=>hc pins s1 σ H1 vs us Q I1 r1 q1) he hpl
theorem zU (hc:cZ X (.type T) r) (hg:Gl X x) (hm:X.mg x=none) (hv:bootBuiltins x=some (.type T)) (ha:PA X (e :: es) t) (hn:x ≠ "__name__":=by decide) (hdb:(x == ("__debug__" : Str))=false:=by decide)
  (he:starEach (e :: es) X.env=(false,eval e X.env) :: starEach es X.env:=by rfl) (hpl:(backTo pos (starEach es X.env)).any (·.1)=false:=by rfl):PE X (.Call (.Name x p) (e :: es) [] pos) (u8 r t):=by
 intro pins s σ H Q I h
 refine wpAny_Call_Name_kw (iI I hg hm hv ?_ hn hdb)
 exact bh6 (aQ (ha pos pins s σ H _ I h) fun us s1 ⟨vs,H1,I1,r1,q1⟩=>hc pins s1 σ H1 vs us Q I1 r1 q1) he hpl
end
end L2
namespace HT
open PySem PyProof.Rows
def fH:List Int->List Int->Bool
 | [],[]=>false
 | [],_ :: _=>true
 | _ :: _,[]=>false
 | x :: xs,y :: ys=>if x=y then fH xs ys else decide (x < y)
theorem nY (x y:Int) (xs ys:List Int):fH (x :: xs) (y :: ys)=if x=y then fH xs ys else decide (x < y):=rfl
section
variable {prog : Program} {w : World} {A : Around} {E : Value → Shared → Prop} {s : Shared}
theorem aj8 {t b:Addr}{vs ws:List Value}{Q:Value->Shared->Prop} (ht:IsTup s.heap t vs.toArray) (hb:IsTup s.heap b ws.toArray) (hv:vs ≠ [])
  (h1:ws = []->Q (.ref t) s) (h2:ws ≠ []->Q (.ref s.heap.objs.size) { s with heap:=s.heap.push { cls:=.type "tuple",data:=.seq (vs ++ ws).toArray } })
  (hsz:vs.length+ws.length<=sizeLine):wpAny (model prog w) A (binaryOp .Add (.ref t) (.ref b)) Q E s:=by
 obtain ⟨⟨cls,dd,data,sl⟩,ho,hc,n,hd⟩:=id ht
 obtain ⟨⟨cls2,dd2,data2,sl2⟩,ho2,hc2,n2,hd2⟩:=id hb
 simp only at hc hd hc2 hd2
 subst hc hd hc2 hd2
 have e:vs.toArray ++ ws.toArray=(vs ++ ws).toArray:=by simp
 by_cases hw:ws = []
 ·exact concat_meets ⟨_,ho,rfl⟩ ⟨_,ho2,rfl⟩ noFill_tuple_add seq_tuple_add PySem.F.slot_tuple_add PySem.F.entry_tuple_add (PySem.F.args_tuple_add_2 _ _)
   (tuple_addW1 t b vs.toArray ws.toArray n n2 dd dd2 sl sl2 (by simpa using hv) (by simp [hw])) ⟨ho,ho2,h1 hw⟩
 ·refine concat_meets ⟨_,ho,rfl⟩ ⟨_,ho2,rfl⟩ noFill_tuple_add seq_tuple_add PySem.F.slot_tuple_add PySem.F.entry_tuple_add (PySem.F.args_tuple_add_2 _ _)
   (tuple_addW2 t b vs.toArray ws.toArray n n2 dd dd2 sl sl2 (by simpa using hv) (by simpa using hw) (by rw [bb9,bb9]; exact hsz)) ⟨ho,ho2,?_⟩
  rw [e]
  exact h2 hw
def aY (n d:Nat):Option Int->Nat
 | none=>d
 | some v=>if v < 0 then (v+(n:Int)).toNat else min v.toNat n
theorem aj9 (n d:Nat):aY n d none=d:=rfl
theorem zV (n d k:Nat):aY n d (some (k:Int))=min k n:=by
 show (if (k:Int) < 0 then ((k:Int)+(n:Int)).toNat else min (k:Int).toNat n)=min k n
 rw [if_neg (by omega),bj9]
theorem ak0 (n d:Nat) (hd:d<=n) (o:Option Int):aY n d o<=n:=by
 cases o with
 | none=>exact hd
 | some v=>
  show (if v < 0 then (v+(n:Int)).toNat else min v.toNat n)<=n
  by_cases hv:v < 0
  ·rw [if_pos hv]; omega
  ·rw [if_neg hv]; exact Nat.min_le_right _ _
theorem zW (v:Int) (n d:Nat):(if v < 0 then max (v+(n:Int)) 0 else min v (n:Int))=((aY n d (some v):Nat):Int):=by
 show (if v < 0 then max (v+(n:Int)) 0 else min v (n:Int))=(((if v < 0 then (v+(n:Int)).toNat else min v.toNat n):Nat):Int)
 by_cases hv:v < 0
 ·simp only [if_pos hv]; omega
 ·simp only [if_neg hv]; omega
theorem ak1 (lo hi:Option Int) (n:Nat):Builtin.Slice.sliceAdjust lo hi 1 (n:Int)=(((aY n 0 lo:Nat):Int),((aY n n hi:Nat):Int)):=by
 have h1 : ¬ ((1:Int) < 0):=by omega
 unfold Builtin.Slice.sliceAdjust
 simp only [h1,bi9]
 refine Prod.ext ?_ ?_
 ·cases lo with
  | none=>rfl
  | some v=>exact zW v n 0
 ·cases hi with
  | none=>rfl
  | some v=>exact zW v n n
theorem ak2 (i j:Nat):Builtin.Slice.slicePlaces (i:Int) (j:Int) 1=j - i:=by
 unfold Builtin.Slice.slicePlaces
 have h1:(1:Int) > 0:=by omega
 simp only [h1,if_true,Int.ediv_one]
 split <;> omega
theorem zX {v:Value}{o:Option Int}{Q:Option Int->Shared->Prop} (p:IsPart v o) (h:Q o s):wpAny (model prog w) A (Builtin.Slice.slicePartIndex v) Q E s:=by
 cases p with
 | none=>exact slicePart_none h
 | int i t=>exact slicePart_int h
theorem zY {sl:Addr}{vl vu:Value}{lo hi:Option Int}{n:Nat}{Q:Int × Int × Nat->Shared->Prop} (hs:s.heap.IsSliceOf sl vl vu .none) (pl:IsPart vl lo) (pu:IsPart vu hi)
  (h:Q (((aY n 0 lo:Nat):Int),1,aY n n hi - aY n 0 lo) s):wpAny (model prog w) A (Builtin.Slice.sliceApplied (.ref sl) (pure (n:Int))) Q E s:=by
 obtain ⟨os,hos,hcs,hds⟩:=id hs
 unfold Builtin.Slice.sliceApplied Builtin.Slice.sliceFields
 refine bb7 (bb7 (bi3 hos hds (x:=vl) rfl (bb7 (bi3 hos hds (x:=vu) rfl (bb7 (bi3 hos hds (x:=.none) rfl (bc3 ?_)))))))
 refine bb7 (slicePart_none ?_)
 show wpAny _ _ (if ((1:Int) == 0)=true then _ else _) _ _ s
 rw [if_neg (by decide)]
 refine bb7 (zX pl (bb7 (zX pu (bb7 (bc3 ?_)))))
 show wpAny _ _ (match Builtin.Slice.sliceAdjust lo hi 1 (n:Int) with | (lo,hi)=>pure (lo,(1:Int),Builtin.Slice.slicePlaces lo hi 1)) _ _ s
 rw [ak1 lo hi n]
 show wpAny _ _ (pure (((aY n 0 lo:Nat):Int),(1:Int),Builtin.Slice.slicePlaces ((aY n 0 lo:Nat):Int) ((aY n n hi:Nat):Int) 1)) _ _ s
 rw [ak2]
 exact bc3 h
theorem ak3 (xs:Array Value) (i k:Nat):((List.range k).filterMap fun (m:Nat)=>xs[((i:Int)+(m:Int) * 1).toNat]?).toArray=((xs.toList.drop i).take k).toArray:=by
 have e:(fun (m:Nat)=>xs[((i:Int)+(m:Int) * 1).toNat]?)=fun m=>xs[i+m]?:=by
  funext m
  have:((i:Int)+(m:Int) * 1).toNat=i+m:=by omega
  rw [this]
 rw [e]
 have:=pick_run xs i k
 rw [List.filterMap_map] at this
 have e2:((fun x=>xs[x]?) ∘ fun x=>i+x)=fun m=>xs[i+m]?:=rfl
 rw [e2] at this
 rw [this]
theorem ak4 {t sl:Addr}{items:Array Value}{vl vu:Value}{lo hi:Option Int}{Q:Value->Shared->Prop} (ht:IsTup s.heap t items) (hs:s.heap.IsSliceOf sl vl vu .none) (pl:IsPart vl lo) (pu:IsPart vu hi)
  (hw : ¬ (aY items.size 0 lo=0/\aY items.size items.size hi=items.size))
  (h:Q (.ref s.heap.objs.size) { s with heap:=s.heap.push { cls:=.type "tuple",data:=.seq ((items.toList.drop (aY items.size 0 lo)).take (aY items.size items.size hi - aY items.size 0 lo)).toArray } })
  (hsz:items.size<=sizeLine):wpAny (model prog w) A (getItem (.ref t) (.ref sl)) Q E s:=by
 have htake:sizeOk (.seq ((items.toList.drop (aY items.size 0 lo)).take (aY items.size items.size hi - aY items.size 0 lo)).toArray):=by
  show ((items.toList.drop (aY items.size 0 lo)).take (aY items.size items.size hi - aY items.size 0 lo)).toArray.size<=sizeLine
  rw [bb9,bh3,bj5,bn1]
  omega
 have hj:aY items.size items.size hi<=items.size:=ak0 _ _ (bc1 _) hi
 obtain ⟨os,hos,hcs,hds⟩:=id hs
 have hTs:s.TypeIs (.ref sl) "slice":=⟨os,hos,hcs⟩
 unfold getItem
 try with_reducible refine bk9 ?_
 first | refine bb7 (bc3 ?_) | skip
 refine bb7 (wpAny_sequenceKey ht.typeIs (by decide) ?_)
 refine bb7 (bi4 (name:=Str.ofString "__getitem__") ht.typeIs bn3
  (bi6 bn3 ht.typeIs entry_tuple_getitem ?_ (args_tuple_getitem _ _)))
 show wpAny _ _ (Builtin.Tuple.tupleItemsOf (.ref t) >>= _) _ _ s
 refine bb7 (tupleItemsOf_ ht ?_)
 refine bb7 (wpAny_typeOf hTs ?_)
 rw [if_pos (by decide)]
 refine bb7 (zY hs pl pu ?_)
 have hno : ¬ ((((aY items.size 0 lo:Nat):Int) == 0 && (1:Int) == 1 && (aY items.size items.size hi - aY items.size 0 lo) == items.size)=true):=by
  intro q
  rw [bd8,bd8] at q
  have q1:((aY items.size 0 lo:Nat):Int)=0:=eq_of_beq q.1.1
  have q2:aY items.size items.size hi - aY items.size 0 lo=items.size:=eq_of_beq q.2
  exact hw ⟨by omega,by omega⟩
 show wpAny _ _ (if (((aY items.size 0 lo:Nat):Int) == 0 && (1:Int) == 1 && (aY items.size items.size hi - aY items.size 0 lo) == items.size)=true then _ else _) _ _ s
 rw [if_neg hno,ak3]
 first
  | exact bb7 (m:=Builtin.Tuple.tupleExact _) (bk0 (bc3 ⟨_,rfl,bc3 h⟩) htake)
  | exact bb7 (m:=Builtin.Tuple.tupleExact _) (bk0 (bb7 (bc3 (bc3 ⟨_,rfl,bc3 h⟩))) htake)
  | exact bb7 (bb7 (m:=Builtin.Tuple.tupleExact _) (bk0 (bc3 (bc3 ⟨_,rfl,bc3 h⟩)) htake))
  | exact bb7 (bb7 (m:=Builtin.Tuple.tupleExact _) (bk0 (bc3 ⟨_,rfl,bc3 h⟩) htake))
end
end HT
namespace L2
open PySem PySem.Spec PyProof.Rows
abbrev TO:=St->Hp->(Option Int->Hp->Prop)->Prop
def PO (X:Cx) (e:Option Expr) (t:TO):Prop:=
 ∀ (pins:List (Addr × Obj)) (s:Shared) (σ:St) (H:Hp) (Q:Option Int->Hp->Prop),a8 X pins σ H s->t σ H Q->
  wpAny (model X.prog X.w) X.A (evalPart e X.env) (fun u s'=>∃ o H',a8 X pins σ H' s'/\IsPart u o/\Q o H') X.xe s
def ak5:TO:=fun _ H Q=>Q none H
def ak6 (t:TE):TO:=fun σ H Q=>t σ H fun x H1=>∃ i,x = .int i/\Q (some i) H1
theorem nZ {ns:List Int}:∀ {us:List Value},aK (ns.map V.int) us->IntsAre us ns:=by
 induction ns with
 | nil=>intro us r; rw [List.map_nil] at r; cases r; exact .nil
 | cons n ns ih=>
  intro us r
  rw [bh4] at r
  cases r with
  | cons r1 r2=>
   obtain ⟨t,e⟩:=r1
   subst e
   exact .cons n t (ih r2)
section
variable {X : Cx} {e : Expr} {te : TE} {lo hi : Option Expr} {tl th : TO} {pos p2 : Pos}
theorem u9:PO X none ak5:=by
 intro pins s σ H Q I h
 rw [evalPart_none]
 exact bc3 ⟨none,H,I,.none,h⟩
theorem uA (h:PE X e te):PO X (some e) (ak6 te):=by
 intro pins s σ H Q I hw
 rw [evalPart_some]
 refine aQ (h pins s σ H _ I hw) fun u s1 ⟨x,H1,I1,r1,q1⟩=>?_
 obtain ⟨i,rfl,q⟩:=q1
 obtain ⟨t,rfl⟩:=r1
 exact⟨some i,H1,I1,.int i t,q⟩
def jU (X:Cx) (r:V->Option Int->Option Int->Hp->VK->Prop):Prop:=
 ∀ (pins:List (Addr × Obj)) (s:Shared) (σ:St) (H:Hp) (x:V) (v vl vu:Value) (lo hi:Option Int) (sl:Addr) (Q:VK),a8 X pins σ H s->aX x v->s.heap.IsSliceOf sl vl vu .none->IsPart vl lo->IsPart vu hi->r x lo hi H Q->
  ∃ T id,typeLookup (.type T) "__getitem__" = pure (some (.builtin id))/\s.TypeIs v T/\wpAny (model X.prog X.w) X.A (getItem v (.ref sl)) (EP X pins σ Q) X.xe s
theorem jU.or {r r':V->Option Int->Option Int->Hp->VK->Prop} (h:jU X r) (h':jU X r'):jU X (fun x lo hi H Q=>r x lo hi H Q ∨ r' x lo hi H Q):=by
 intro pins s σ H x v vl vu lo hi sl Q I rx hs pl pu q
 rcases q with q | q
 ·exact h pins s σ H x v vl vu lo hi sl Q I rx hs pl pu q
 ·exact h' pins s σ H x v vl vu lo hi sl Q I rx hs pl pu q
def tSl (r:V->Option Int->Option Int->Hp->VK->Prop) (te:TE) (tl th:TO):TE:=fun σ H Q=>te σ H fun x H1=>tl σ H1 fun l H2=>th σ H2 fun u H3=>r x l u H3 Q
theorem uB {r:V->Option Int->Option Int->Hp->VK->Prop} (hr:jU X r) (he:PE X e te) (hl:PO X lo tl) (hu:PO X hi th):PE X (.Subscript e (.Slice lo hi none p2) pos) (tSl r te tl th):=by
 intro pins s σ H Q I h
 refine Subscript_ (aQ (he pins s σ H _ I h) fun v s1 ⟨x,H1,I1,r1,q1⟩=>?_)
 refine wpAny_Slice (aQ (hl pins s1 σ H1 _ I1 q1) fun vl s2 ⟨l,H2,I2,pl,q2⟩=>aQ (hu pins s2 σ H2 _ I2 q2) fun vu s3 ⟨u,H3,I3,pu,q3⟩=>?_)
 rw [evalPart_none]
 refine bc3 ?_
 have I4:a8 X pins σ H3 { s3 with heap:=s3.heap.push { cls:=.type "slice",data:=.fields #[vl,vu,.none] } }:=I3.kept (t':=s3.toks) fun b ob q=>bb8 _ q
 obtain ⟨T,id,hT,ht,hg⟩:=hr pins { s3 with heap:=s3.heap.push { cls:=.type "slice",data:=.fields #[vl,vu,.none] } } σ H3 x v vl vu l u s3.heap.objs.size Q I4 r1 (Heap.IsSliceOf.new ..) pl pu q3
 show wpAny (model X.prog X.w) X.A (subscriptTail e (.Slice lo hi none p2) v (.ref s3.heap.objs.size)) (EP X pins σ Q) X.xe { s3 with heap:=s3.heap.push { cls:=.type "slice",data:=.fields #[vl,vu,.none] } }
 exact tail_any (ops:=[.ref s3.heap.objs.size,v]) ht hT hg (by with_unfolding_all rfl)
def eG (xs:List V) (lo hi:Option Int):List V:=(xs.drop (HT.aY xs.length 0 lo)).take (HT.aY xs.length xs.length hi - HT.aY xs.length 0 lo)
theorem zZ (xs:List V) (lo hi:Option Int):(eG xs lo hi).length<=xs.length:=by
 unfold eG
 rw [bh3,bj5]
 omega
def ak7 (K:PySem.W.Frag):V->Option Int->Option Int->Hp->VK->Prop:=fun x lo hi H Q=>∃ a xs,x = .ref a/\aO K H a xs/\
 ¬ (HT.aY xs.length 0 lo=0/\HT.aY xs.length xs.length hi=xs.length)/\∀ p,H p=none->Q (.ref p) (upd H p (.tup (eG xs lo hi)))
theorem ak8:jU X (ak7 X.K):=by
 intro pins s σ H x v vl vu lo hi sl Q I rx hs pl pu h
 obtain ⟨a,xs,rfl,hx,hw,q⟩:=h
 cases rx
 obtain ⟨its,r,ht,hz⟩:=I.tuple hx
 have hlen:its.toArray.size=xs.length:=by rw [bb9]; exact r.length.symm
 refine⟨"tuple",_,PyProof.Rows.slot_tuple_getitem.lookup,ht.typeIs,?_⟩
 refine HT.ak4 ht hs pl pu (by rw [hlen]; exact hw) ?_ (by rw [hlen]; exact hz)
 rw [hlen]
 refine⟨.ref s.heap.objs.size,_,I.laid (t':=s.toks) (o:=.tup (eG xs lo hi)) (fun b ob q=>bb8 _ q) (bc1 _) ?_,rfl,q _ (I.hok.fresh (bc1 _))⟩
 exact⟨bg0 (zZ xs lo hi) hz,_,(r.drop (HT.aY xs.length 0 lo)).take (HT.aY xs.length xs.length hi - HT.aY xs.length 0 lo),IsTup.new _ _⟩
def ak9 (K:PySem.W.Frag):R2:=fun x y H Q=>∃ a b xs ys,x = .ref a/\y = .ref b/\aO K H a xs/\aO K H b ys/\xs ≠ []/\xs.length+ys.length<=sizeLine/\
 (ys = []->Q (.ref a) H)/\(ys ≠ []->∀ p,H p=none->Q (.ref p) (upd H p (.tup (xs ++ ys))))
theorem aK.nil_iff {xs:List V}{us:List Value} (r:aK xs us):us = [] ↔ xs = []:=by
 cases r with
 | nil=>simp
 | cons _ _=>simp
theorem al0:cF X (binaryOp .Add) (ak9 X.K):=by
 intro pins s σ H x y v u Q I rx ry h
 obtain ⟨a,b,xs,ys,rfl,rfl,ha,hb,hx,hz,q1,q2⟩:=h
 cases rx
 cases ry
 obtain ⟨its,r1,p1,_⟩:=I.tuple ha
 obtain ⟨its2,r2,p2,_⟩:=I.tuple hb
 refine HT.aj8 p1 p2 (fun z=>hx (r1.nil_iff.mp z)) (fun z=>⟨.ref a,H,I,rfl,q1 (r2.nil_iff.mp z)⟩) (fun z=>?_) (by rw [<- r1.length,<- r2.length]; exact hz)
 refine⟨.ref s.heap.objs.size,_,I.laid (t':=s.toks) (o:=.tup (xs ++ ys)) (fun b ob q=>bb8 _ q) (bc1 _) ?_,rfl,q2 (fun w=>z (r2.nil_iff.mpr w)) _ (I.hok.fresh (bc1 _))⟩
 exact⟨by rw [bc0]; exact hz,_,r1.append r2,IsTup.new _ _⟩
end
def gF (n:Nat) (i:Int):Option Nat:=if 0<=i then (if i < n then some i.toNat else none) else if -(n:Int)<=i then some (i+n).toNat else none
def atI {α:Type} (xs:List α) (i:Int):Option α:=(gF xs.length i).bind fun j=>xs[j]?
theorem A0 {n:Nat}{i:Int}{j:Nat} (h:gF n i=some j):seqIndex? i n=some j/\j < n/\-(n:Int)<=i/\i < n:=by
 unfold gF at h
 by_cases h0:0<=i
 ·rw [if_pos h0] at h
  by_cases h1:i < n
  ·rw [if_pos h1] at h
   have e:i.toNat=j:=be8 h
   exact⟨by rw [seqIndex_of h0 h1,e],by omega,by omega,h1⟩
  ·rw [if_neg h1] at h; cases h
 ·rw [if_neg h0] at h
  by_cases h1 : -(n:Int)<=i
  ·rw [if_pos h1] at h
   have e:(i+n).toNat=j:=be8 h
   exact⟨by rw [seqIndex_neg (by omega) h1,e],by omega,h1,by omega⟩
  ·rw [if_neg h1] at h; cases h
theorem uC {α:Type}{xs:List α}{i:Int}{v:α} (h:atI xs i=some v):∃ j,seqIndex? i xs.length=some j/\xs[j]? = some v/\j < xs.length/\-(xs.length:Int)<=i/\i < xs.length:=by
 unfold atI at h
 cases e:gF xs.length i with
 | none=>rw [e] at h; cases h
 | some j=>
  rw [e] at h
  obtain ⟨h1,h2,h3,h4⟩:=A0 e
  exact⟨j,h1,h,h2,h3,h4⟩
theorem pU {α:Type}{xs:List α}{j:Nat}{v:α} (h:xs[j]? = some v):atI xs (j:Int)=some v:=by
 have hj:j < xs.length:=(bc6.mp h).1
 have e:gF xs.length (j:Int)=some j:=by
  unfold gF
  rw [if_pos (by omega),if_pos (by omega)]; simp
 unfold atI; rw [e]; exact h
def A1 (b:Expr):Prop:=∀ o i,subscripted b false o i=operate [o,i] (getItem o i)
def j6 (X:Cx) (r:R2):Prop:=
 ∀ (value slice:Expr) (pins:List (Addr × Obj)) (s:Shared) (σ:St) (H:Hp) (x y:V) (v u:Value) (Q:VK),a8 X pins σ H s->aX x v->aX y u->r x y H Q->
  subscripted slice false v u=operate [v,u] (getItem v u)->wpAny (model X.prog X.w) X.A (subscriptTail value slice v u) (EP X pins σ Q) X.xe s
def A2 (X:Cx) (id:String) (r:V->List V->Hp->VK->Prop):Prop:=
 ∀ (pins:List (Addr × Obj)) (s:Shared) (σ:St) (H:Hp) (x:V) (xs:List V) (v:Value) (us:List Value) (Q:VK),a8 X pins σ H s->aX x v->aK xs us->r x xs H Q->
  wpAny (model X.prog X.w) X.A (call (.builtin id) (v :: us)) (EP X pins σ Q) X.xe s
section
variable {X : Cx} {a b : Expr} {ta tb : TE} {pos : Pos}
theorem j6.or {r r':R2} (h:j6 X r) (h':j6 X r'):j6 X (fun x y H Q=>r x y H Q ∨ r' x y H Q):=by
 intro value slice pins s σ H x y v u Q I rx ry q hs
 rcases q with q | q
 ·exact h value slice pins s σ H x y v u Q I rx ry q hs
 ·exact h' value slice pins s σ H x y v u Q I rx ry q hs
theorem o0 {r:R2} (hr:j6 X r) (ha:PE X a ta) (hb:PE X b tb) (hs:A1 b):PE X (.Subscript a b pos) (nU r ta tb):=by
 intro pins s σ H Q I h
 exact Subscript_ (tT ha hb I h fun v u s2 x y H2 I2 rx ry q=>hr a b pins s2 σ H2 x y v u Q I2 rx ry q (hs _ _))
def A3 (K:PySem.W.Frag):R2:=fun x y H Q=>∃ p xs i v,x = .ref p/\y = .int i/\aN K H p xs/\atI xs i=some v/\Q v H
def A4 (K:PySem.W.Frag):R2:=fun x y H Q=>∃ p xs i v,x = .ref p/\y = .int i/\aO K H p xs/\atI xs i=some v/\Q v H
def A5:R2:=fun x y H Q=>∃ z i c,x = .str z/\y = .int i/\z.length<=sizeLine/\atI z.cps.toList i=some c/\Q (.str ⟨#[c]⟩) H
theorem uD:j6 X (A3 X.K):=by
 intro value slice pins s σ H x y v u Q I rx ry h hs
 obtain ⟨p,xs,i,z,rfl,rfl,hq,he,q⟩:=h
 cases rx
 obtain ⟨t,rfl⟩:=ry
 obtain ⟨its,r,pl,hz⟩:=I.list hq
 obtain ⟨j,h1,h2,h3,h4,h5⟩:=uC he
 obtain ⟨w,ew,rw'⟩:=r.get h2
 have hl:=r.length
 have hn:=m7
 have fin:EP X pins σ Q w s:=⟨z,H,I,rw',q⟩
 by_cases h0:0<=i
 ·have hj:i.toNat=j:=by
   rw [seqIndex_of h0 h5] at h1
   exact be8 h1
  exact item_listR pl.isList h0 (by omega) (by rw [hj]; simpa using ew) fin hs
 ·have hj:(i+(its.toArray.size:Int)).toNat=j:=by
   rw [seqIndex_neg (by omega) h4] at h1
   rw [bb9,<- hl]
   exact be8 h1
  exact subscriptTail_builtinR (x:=w) pl.isList.typeIs slot_list_getitem.lookup
   (wpAny_getItem_list_neg (Q:=fun r s'=>r=w/\EP X pins σ Q r s') pl.isList (by omega) (by rw [bb9] <;> omega) (by omega) (by rw [hj]; simpa using ew) ⟨rfl,fin⟩) hs
theorem uE:j6 X (A4 X.K):=by
 intro value slice pins s σ H x y v u Q I rx ry h hs
 obtain ⟨p,xs,i,z,rfl,rfl,hq,he,q⟩:=h
 cases rx
 obtain ⟨t,rfl⟩:=ry
 obtain ⟨its,r,pl,hz⟩:=I.tuple hq
 obtain ⟨j,h1,h2,h3,h4,h5⟩:=uC he
 obtain ⟨w,ew,rw'⟩:=r.get h2
 have hl:=r.length
 have hn:=m7
 have fin:EP X pins σ Q w s:=⟨z,H,I,rw',q⟩
 exact subscriptTail_builtinR (x:=w) pl.typeIs slot_tuple_getitem.lookup
  (getItem_tuple (j:=j) (Q:=fun r s'=>r=w/\EP X pins σ Q r s') pl (by omega) (by omega) (by rw [bb9,<- hl]; exact h1) (by simpa using ew) ⟨rfl,fin⟩) hs
theorem al1:j6 X A5:=by
 intro value slice pins s σ H x y v u Q I rx ry h hs
 obtain ⟨z,i,c,rfl,rfl,hz,he,q⟩:=h
 obtain ⟨t,rfl⟩:=rx
 obtain ⟨t',rfl⟩:=ry
 obtain ⟨j,h1,h2,h3,h4,h5⟩:=uC he
 have hl:z.cps.toList.length=z.length:=by simp [Str.length]
 rw [hl] at h1 h4 h5
 have hn:=m7
 exact tail_any (typeIs_str s z t) slot_str_getitem.lookup (getItem_str (c:=c) (by
  have e1:decide (i < -(2 ^ 63:Int))=false:=bc8 (by omega)
  have e2:decide (i >= 2 ^ 63)=false:=bc8 (by omega)
  rw [e1,e2,Bool.or_false]) (by rw [h1]; simpa using h2) ⟨.str ⟨#[c]⟩,H,I.tok _,⟨_,rfl⟩,q⟩) hs
def A6 (K:PySem.W.Frag):R2:=fun x y H Q=>A3 K x y H Q ∨ A4 K x y H Q ∨ A5 x y H Q
theorem al2:j6 X (A6 X.K):=uD.or (uE.or al1)
theorem al3 (its:List Value) (n j:Nat) (u:Value):Obj.mapSeq (·.setIfInBounds j u) { cls:=.type "list",data:=.seq its.toArray n }={ cls:=.type "list",data:=.seq (its.set j u).toArray n }:=by
 simp [Obj.mapSeq]
theorem a8.lst {pins:List (Addr × Obj)}{σ:St}{H:Hp}{s:Shared}{p:Addr}{xs:List V} (I:a8 X pins σ H s) (h:H p=some (.lst xs)) :
  ∃ (its:List Value) (n:Nat),aK xs its/\s.heap.get? p=some { cls:=.type "list",data:=.seq its.toArray n }/\xs.length<=sizeLine:=by
 obtain ⟨z,its,n,r,e⟩:=I.hok p _ h
 exact⟨its,n,r,e,z⟩
theorem a8.lstUpd {pins:List (Addr × Obj)}{σ:St}{H:Hp}{s:Shared}{p:Addr}{xs ys:List V}{its its':List Value}{n n':Nat}{f:Obj->Obj} (I:a8 X pins σ H s) (h:H p=some (.lst xs))
  (ho:s.heap.get? p=some { cls:=.type "list",data:=.seq its.toArray n }) (hf:f { cls:=.type "list",data:=.seq its.toArray n }={ cls:=.type "list",data:=.seq its'.toArray n' }) (r:aK ys its') (hz:ys.length<=sizeLine) (t:Nat) :
  a8 X pins σ (upd H p (.lst ys)) { s with heap:=s.heap.update p f,toks:=t }:=by
 have e:(s.heap.update p f).get? p=some { cls:=.type "list",data:=.seq its'.toArray n' }:=by
  rw [Heap.get?_update_self f ho (by rw [hf] <;> rfl),hf]
 refine I.write (x:=p) (e:=p) (by rw [h]; trivial) (.inl rfl) (fun b u hb q=>(Heap.get?_update_other _ _ (Ne.symm hb)).trans q) ⟨_,e⟩ ?_
 exact⟨hz,its',n',r,e⟩
def uF:V->V->V->Hp->(Hp->Prop)->Prop:=fun o i v H Q=>∃ p xs k j,o = .ref p/\i = .int k/\H p=some (.lst xs)/\gF xs.length k=some j/\Q (upd H p (.lst (xs.set j v)))
theorem al4:yR X uF:=by
 intro pins s σ H o i v ov iv u Q I ro ri rv h
 obtain ⟨p,xs,k,j,rfl,rfl,hp,hj,q⟩:=h
 cases ro
 obtain ⟨t,rfl⟩:=ri
 obtain ⟨its,n,r,ho,hz⟩:=I.lst hp
 obtain ⟨h1,h2,h3,h4⟩:=A0 hj
 have hl:=r.length
 have hn:=m7
 have I':a8 X pins σ (upd H p (.lst (xs.set j v))) { s with heap:=s.heap.update p (Obj.mapSeq (·.setIfInBounds j u)) }:=
  I.lstUpd hp ho (al3 its n j u) (r.set rv j) (by rw [bg1]; exact hz) s.toks
 by_cases h0:0<=k
 ·have hk:k.toNat=j:=by
   rw [seqIndex_of h0 h4] at h1
   exact be8 h1
  exact PySem.W.ki_setAt ho h0 (by omega) (by rw [bb9,<- hl]; exact h4) (by rw [hk]; exact⟨_,I',q⟩)
 ·have hk:(k+(its.toArray.size:Int)).toNat=j:=by
   rw [seqIndex_neg (by omega) h3] at h1
   rw [bb9,<- hl]
   exact be8 h1
  exact PySem.W.ki_setBack ho (by omega) (by rw [bb9,<- hl]; exact h3) (by omega) (by rw [hk]; exact⟨_,I',q⟩)
theorem al5 (lo hi:Option Int) (n:Nat):(sliceBounds lo hi none n).1=((HT.aY n 0 lo:Nat):Int)/\(sliceBounds lo hi none n).2.1=((HT.aY n n hi:Nat):Int)/\(sliceBounds lo hi none n).2.2=1:=by
 refine⟨?_,?_,rfl⟩
 ·cases lo with
  | none=>simp [sliceBounds,HT.aY]
  | some i=>
   simp only [sliceBounds,HT.aY,Option.getD_none,show (1:Int) > 0 by decide,if_true]
   by_cases h:i < 0
   ·simp only [h,if_true] <;> omega
   ·simp only [h,bi9] <;> omega
 ·cases hi with
  | none=>simp [sliceBounds,HT.aY]
  | some i=>
   simp only [sliceBounds,HT.aY,Option.getD_none,show (1:Int) > 0 by decide,if_true]
   by_cases h:i < 0
   ·simp only [h,if_true] <;> omega
   ·simp only [h,bi9] <;> omega
theorem al6 (its:List Value) (lo hi:Option Int):slicePick its.toArray lo hi none=((its.drop (HT.aY its.length 0 lo)).take (HT.aY its.length its.length hi - HT.aY its.length 0 lo)).toArray:=by
 obtain ⟨h1,h2,h3⟩:=al5 lo hi its.toArray.size
 unfold slicePick
 rw [h1,h2,h3]
 simp only [sliceRange_one,pick_run,bb9] <;> rfl
def al7 (K:PySem.W.Frag):V->Option Int->Option Int->Hp->VK->Prop:=fun x lo hi H Q=>∃ a xs,x = .ref a/\aN K H a xs/\∀ p,H p=none->Q (.ref p) (upd H p (.lst (eG xs lo hi)))
theorem A7:jU X (al7 X.K):=by
 intro pins s σ H x v vl vu lo hi sl Q I rx hs pl pu h
 obtain ⟨a,xs,rfl,hx,q⟩:=h
 cases rx
 obtain ⟨its,r,ht,hz⟩:=I.list hx
 have hlen:=r.length
 refine⟨"list",_,slot_list_getitem.lookup,ht.isList.typeIs,?_⟩
 refine wpAny_getItem_list_slice ht.isList hs pl pu .none (by simp) ?_ (by rw [bb9] <;> omega)
 rw [al6,<- hlen]
 refine⟨.ref s.heap.objs.size,_,I.laid (t':=s.toks) (o:=.lst (eG xs lo hi)) (fun b ob q=>bb8 _ q) (bc1 _) ?_,rfl,q _ (I.hok.fresh (bc1 _))⟩
 exact⟨bg0 (zZ xs lo hi) hz,_,0,(r.drop (HT.aY xs.length 0 lo)).take (HT.aY xs.length xs.length hi - HT.aY xs.length 0 lo),bd2 _ rfl⟩
def j7:V->Bool
 | .non=>true
 | .bl _=>true
 | .int _=>true
 | .str _=>true
 | _=>false
def hJ:V->V->Bool
 | .non,.non=>true
 | .bl a,.bl b=>a == b
 | .bl a,.int b=>(if a then 1 else 0) == b
 | .int a,.bl b=>a == (if b then 1 else 0)
 | .int a,.int b=>a == b
 | .str a,.str b=>a == b
 | _,_=>false
theorem al8 {A:Around}{s:Shared}{y x:V}{u v:Value} (ry:aX y u) (rx:aX x v) (fy:j7 y=true) (fx:j7 x=true):SeqAt.EqAt A s u v (hJ y x):=by
 cases y with
 | non=>
  cases ry
  cases x with
  | non=>cases rx; exact SeqAt.EqAt.same _
  | bl b=>cases rx; exact SeqAt.EqAt.none_bool b
  | int b=>obtain ⟨t,rfl⟩:=rx; exact SeqAt.EqAt.none_int b t
  | str b=>obtain ⟨t,rfl⟩:=rx; exact SeqAt.EqAt.none_str b t
  | _=>exact absurd (show false=true from fx) be5
 | bl a=>
  cases ry
  cases x with
  | non=>cases rx; exact SeqAt.EqAt.bool_none a
  | bl b=>cases rx; exact SeqAt.EqAt.bool_bool a b
  | int b=>obtain ⟨t,rfl⟩:=rx; exact SeqAt.EqAt.bool_int a b t
  | str b=>obtain ⟨t,rfl⟩:=rx; exact SeqAt.EqAt.bool_str a b t
  | _=>exact absurd (show false=true from fx) be5
 | int a=>
  obtain ⟨t',rfl⟩:=ry
  cases x with
  | non=>cases rx; exact SeqAt.EqAt.int_none a t'
  | bl b=>cases rx; exact SeqAt.EqAt.int_bool a t' b
  | int b=>obtain ⟨t,rfl⟩:=rx; exact SeqAt.EqAt.int_int a t' b t
  | str b=>obtain ⟨t,rfl⟩:=rx; exact SeqAt.EqAt.int_str a t' b t
  | _=>exact absurd (show false=true from fx) be5
 | str a=>
  obtain ⟨t',rfl⟩:=ry
  cases x with
  | non=>cases rx; exact SeqAt.EqAt.str_none a t'
  | bl b=>cases rx; exact SeqAt.EqAt.str_bool a t' b
  | int b=>obtain ⟨t,rfl⟩:=rx; exact SeqAt.EqAt.str_int a t' b t
  | str b=>obtain ⟨t,rfl⟩:=rx; exact SeqAt.EqAt.str_str a t' b t
  | _=>exact absurd (show false=true from fx) be5
 | _=>exact absurd (show false=true from fy) be5
def j8 (x:V) (u:Value):Bool:=match u with
 | .none=>hJ .non x
 | .bool b=>hJ (.bl b) x
 | .int i _=>hJ (.int i) x
 | .str z _=>hJ (.str z) x
 | _=>false
theorem A8 {x y:V}{u:Value} (r:aX y u) (f:j7 y=true):j8 x u=hJ y x:=by
 cases y with
 | non=>cases r; rfl
 | bl b=>cases r; rfl
 | int i=>obtain ⟨t,rfl⟩:=r; rfl
 | str z=>obtain ⟨t,rfl⟩:=r; rfl
 | _=>exact absurd (show false=true from f) be5
theorem uG {x:V}:∀ {xs:List V}{us:List Value},aK xs us->xs.all j7=true->us.any (j8 x)=xs.any fun y=>hJ y x
 | _,_,.nil,_=>rfl
 | y :: xs,u :: us,.cons r t,f=>by
  rw [bo7,bd8] at f
  rw [List.any_cons,List.any_cons,A8 r f.1,uG t f.2]
theorem uH {A:Around}{s:Shared}{x:V}{v:Value} (rx:aX x v) (fx:j7 x=true):∀ {xs:List V}{us:List Value},aK xs us->xs.all j7=true->∀ u ∈ us,SeqAt.EqAt A s u v (j8 x u)
 | _,_,.nil,_=>fun u hu=>by cases hu
 | y :: xs,u :: us,.cons r t,f=>fun u' hu=>by
  rw [bo7,bd8] at f
  rcases bc5.mp hu with rfl | hu
  ·rw [A8 r f.1]; exact al8 r rx f.1 fx
  ·exact uH rx fx t f.2 u' hu
def o4 (x:V) (xs:List V):Bool:=xs.any fun y=>hJ y x
def A9 (K:PySem.W.Frag) (neg:Bool):R2:=fun x y H Q=>∃ p xs,y = .ref p/\(aN K H p xs ∨ aO K H p xs)/\j7 x=true/\xs.all j7=true/\Q (.bl (if neg then !o4 x xs else o4 x xs)) H
theorem al9:cF X (compareOp .In) (A9 X.K false):=by
 intro pins s σ H x y v u Q I rx ry h
 obtain ⟨p,xs,rfl,hq,fx,fs,q⟩:=h
 cases ry
 rcases hq with hq | hq
 ·obtain ⟨its,r,pl,hz⟩:=I.list hq
  refine SeqAt.in_listAt (j8 x) pl.isList (fun w hw=>uH rx fx r fs w (by simpa using hw)) ⟨.bl _,H,I,rfl,?_⟩
  rw [show its.toArray.any (j8 x)=its.any (j8 x) by simp,uG r fs]
  exact q
 ·obtain ⟨its,r,pl,hz⟩:=I.tuple hq
  refine SeqAt.in_tupleAt (j8 x) pl (fun w hw=>uH rx fx r fs w (by simpa using hw)) ⟨.bl _,H,I,rfl,?_⟩
  rw [show its.toArray.any (j8 x)=its.any (j8 x) by simp,uG r fs]
  exact q
theorem am0:cZ X (.builtin "len") (fun xs H Q=>∃ p ys,xs = [.ref p]/\(aN X.K H p ys ∨ aO X.K H p ys)/\Q (.int ys.length) H):=by
 intro pins s σ H xs us Q I r h
 obtain ⟨p,ys,rfl,hq,q⟩:=h
 obtain ⟨u,rfl,rx⟩:=gC r
 cases rx
 have hn:=m7
 rcases hq with hq | hq
 ·obtain ⟨its,r',pl,hz⟩:=I.list hq
  have hlen:=r'.length
  exact Calls.call_len_list pl.isList (by simp only [bb9] <;> omega) ⟨.int ys.length,H,I.tok _,⟨s.toks+1,by rw [bb9,hlen]⟩,q⟩
 ·obtain ⟨its,r',pl,hz⟩:=I.tuple hq
  have hlen:=r'.length
  exact len_tuple pl (by simp only [bb9] <;> omega) ⟨.int ys.length,H,I.tok _,⟨s.toks+1,by rw [bb9,hlen]⟩,q⟩
theorem cZ.or {f:Value}{r r':List V->Hp->VK->Prop} (h:cZ X f r) (h':cZ X f r'):cZ X f (fun xs H Q=>r xs H Q ∨ r' xs H Q):=by
 intro pins s σ H xs us Q I rs q
 rcases q with q | q
 ·exact h pins s σ H xs us Q I rs q
 ·exact h' pins s σ H xs us Q I rs q
theorem am1:cZ X (.type "list") (fun xs H Q=>∃ p ys,xs = [.ref p]/\(aN X.K H p ys ∨ aO X.K H p ys)/\∀ l,H l=none->Q (.ref l) (upd H l (.lst ys))):=by
 intro pins s σ H xs us Q I r h
 obtain ⟨p,ys,rfl,hq,q⟩:=h
 obtain ⟨u,rfl,rx⟩:=gC r
 cases rx
 have fin:∀ (its:List Value),aK ys its->ys.length<=sizeLine->∀ (h':Heap) (c':Nat),(∀ b o',s.heap.get? b=some o'->h'.get? b=some o')->
   h'.get? s.heap.objs.size=some { cls:=.type "list",dict:=none,data:=.seq its.toArray c',slots:=#[] }->EP X pins σ Q (.ref s.heap.objs.size) { s with heap:=h' }:=fun its r' hz h' c' kp e=>
  ⟨.ref s.heap.objs.size,_,I.laid (t':=s.toks) kp (bc1 _) (show bZ X.prog X.w _ h' _ (.lst ys) from ⟨hz,its,c',r',e⟩),rfl,q _ (I.hok.fresh (bc1 _))⟩
 rcases hq with hq | hq
 ·obtain ⟨its,r',pl,hz⟩:=I.list hq
  have hlen:=r'.length
  obtain ⟨o,ho,hc,n,hd⟩:=pl.isList
  exact call_list_seq p (.inl rfl) ho hc hd (fun h' c' kp e=>fin its r' hz h' c' kp e) (by simp only [bb9] <;> omega)
 ·obtain ⟨its,r',pl,hz⟩:=I.tuple hq
  have hlen:=r'.length
  obtain ⟨o,ho,hc,n,hd⟩:=pl
  exact call_list_seq p (.inr rfl) ho hc hd (fun h' c' kp e=>fin its r' hz h' c' kp e) (by simp only [bb9] <;> omega)
theorem am2:cZ X (.type "tuple") (fun xs H Q=>∃ p ys,xs = [.ref p]/\((aN X.K H p ys/\∀ l,H l=none->Q (.ref l) (upd H l (.tup ys))) ∨ (aO X.K H p ys/\Q (.ref p) H))):=by
 intro pins s σ H xs us Q I r h
 obtain ⟨p,ys,rfl,h⟩:=h
 obtain ⟨u,rfl,rx⟩:=gC r
 cases rx
 rcases h with ⟨hq,q⟩ | ⟨hq,q⟩
 ·obtain ⟨its,r',pl,hz⟩:=I.list hq
  have hlen:=r'.length
  refine call_tuple_list pl.isList (fun h' kp=>?_) (by simp only [bb9] <;> omega)
  have I1:a8 X pins σ H { s with heap:=h' }:=I.kept (t':=s.toks) kp
  have I2:a8 X pins σ (upd H h'.objs.size (.tup ys)) { s with heap:=h'.push { cls:=.type "tuple",data:=.seq its.toArray } }:=
   I1.laid (t':=s.toks) (fun b o e=>bb8 _ e) (bc1 _) (show bZ X.prog X.w _ _ _ (.tup ys) from ⟨hz,its,r',IsTup.new _ _⟩)
  exact⟨.ref h'.objs.size,_,I2,rfl,q _ (I1.hok.fresh (bc1 _))⟩
 ·obtain ⟨its,r',pl,hz⟩:=I.tuple hq
  exact call_tuple_same pl ⟨.ref p,H,I,rfl,q⟩
def gG (K:PySem.W.Frag) (T:String) (x:V) (H:Hp):Prop:=match x with
 | .str _=>T="str"
 | .int _=>T="int"
 | .ref p=>(T="list"/\∃ xs,aN K H p xs) ∨ (T="tuple"/\∃ o,K.lookup p=some o/\o.cls = .type "tuple"/\o.dict=none) ∨
   (T="dict"/\((∃ kvs,H p=some (.dK kvs)) ∨ ∃ kvs,H p=some (.dT kvs))) ∨ (T="set"/\∃ S n,H p=some (.set S n))
 | _=>False
theorem B0 {pins:List (Addr × Obj)}{σ:St}{H:Hp}{s:Shared}{T:String}{x:V}{v:Value} (I:a8 X pins σ H s) (r:aX x v) (ty:gG X.K T x H) :
  s.TypeIs v T/\∀ a,v = .ref a->∃ ob,s.heap.get? a=some ob/\ob.dict=none:=by
 cases x with
 | str z=>
  obtain ⟨t,rfl⟩:=r
  cases (show T="str" from ty)
  exact⟨typeIs_str s z t,fun _ e=>nomatch e⟩
 | int i=>
  obtain ⟨t,rfl⟩:=r
  cases (show T="int" from ty)
  exact⟨typeIs_int s i t,fun _ e=>nomatch e⟩
 | ref p=>
  cases r
  rcases ty with ⟨rfl,xs,hq⟩ | ⟨rfl,o,hk,hc,hd⟩ | ⟨rfl,hk⟩ | ⟨rfl,S,n,hk⟩
  ·obtain ⟨its,_,pl,_⟩:=I.list hq
   refine⟨pl.isList.typeIs,fun a e=>?_⟩
   cases e
   obtain ⟨o,n,e,c,hd,_⟩:=pl
   exact⟨o,e,hd⟩
  ·refine⟨⟨o,I.kIn p o hk,hc⟩,fun a e=>?_⟩
   cases e
   exact⟨o,I.kIn _ o hk,hd⟩
  ·have z:∃ o,s.heap.get? p=some o/\o.ExactDict:=by
    rcases hk with ⟨kvs,hk⟩ | ⟨kvs,hk⟩
    ·obtain ⟨_,_,_,_,o,_,_,e,ex,_⟩:=I.hok p _ hk
     exact⟨o,e,ex⟩
    ·obtain ⟨_,_,_,_,o,_,_,e,ex,_⟩:=I.hok p _ hk
     exact⟨o,e,ex⟩
   obtain ⟨o,e,ex⟩:=z
   refine⟨⟨o,e,ex.1⟩,fun a e2=>?_⟩
   cases e2
   exact⟨o,e,ex.2.1⟩
  ·obtain ⟨o,_,_,_,e,ex,_⟩:=I.hok p _ hk
   refine⟨⟨o,e,ex.1⟩,fun a e2=>?_⟩
   cases e2
   exact⟨o,e,ex.2.1⟩
 | _=>exact False.elim ty
def uI (K:PySem.W.Frag) (T:String) (r:V->List V->Hp->VK->Prop) (to:TE):TE:=fun σ H Q=>to σ H fun x H1=>gG K T x H1/\r x [] H1 Q
def pV (K:PySem.W.Frag) (T:String) (r:V->List V->Hp->VK->Prop) (to:TE) (t:TA):TE:=fun σ H Q=>to σ H fun x H1=>gG K T x H1/\t σ H1 fun xs H2=>r x xs H2 Q
variable {o e : Expr} {es : List Expr} {to : TE} {t : TA} {name : Str} {apos cpos : Pos} {T id : String} {r : V → List V → Hp → VK → Prop}
theorem B1 (pa:PlainAttrs T) (slot:Slot T name id) (hty:typeOf (.builtin id)=pure (.type "method_descriptor")) (hm:A2 X id r) (ho:PE X o to)
  (hbase:attributeBase o name X.env (eval o X.env)=eval o X.env:=by rfl) (hline:(apos.endLine == cpos.line)=true:=by rfl):PE X (.Call (.Attribute o name apos) [] [] cpos) (uI X.K T r to):=by
 intro pins s σ H Q I h
 refine wpAny_Call_method0_late hbase hline (aQ (ho pins s σ H _ I h) fun v s1 ⟨x,H1,I1,r1,ty,q1⟩=>?_)
 obtain ⟨h1,h2⟩:=B0 I1 r1 ty
 exact⟨T,id,pa,slot,hty,h1,h2,Calls.callWith_builtin rfl (PySem.evalArgs_none (hm pins s1 σ H1 x [] v [] Q I1 r1 .nil q1))⟩
theorem o7 (pa:PlainAttrs T) (slot:Slot T name id) (hty:typeOf (.builtin id)=pure (.type "method_descriptor")) (hm:A2 X id r) (ho:PE X o to) (ha:PA X (e :: es) t)
  (hbase:attributeBase o name X.env (eval o X.env)=eval o X.env:=by rfl)
  (hfew:((backTo cpos (starEach (e :: es) X.env)).all (fun x=>!x.1) && (backToKw cpos (keywordEach [] X.env)).all (fun x=>x.1.isSome)
   && decide ((e :: es).length+([]:List Keyword).length+(if ([]:List Keyword).isEmpty then 0 else 1) < 30))=true:=by rfl)
  (hline:(apos.endLine == cpos.line)=true:=by rfl) (hs:starEach (e :: es) X.env=(false,eval e X.env) :: starEach es X.env:=by rfl) (hplain:(backTo cpos (starEach es X.env)).any (·.1)=false:=by rfl) :
  PE X (.Call (.Attribute o name apos) (e :: es) [] cpos) (pV X.K T r to t):=by
 intro pins s σ H Q I h
 refine wpAny_Call_method_late hbase hfew hline rfl (aQ (ho pins s σ H _ I h) fun v s1 ⟨x,H1,I1,r1,ty,q1⟩=>?_)
 obtain ⟨h1,h2⟩:=B0 I1 r1 ty
 refine⟨T,id,pa,slot,hty,h1,h2,?_⟩
 have hA:=ha cpos pins s1 σ H1 _ I1 q1
 rw [hs] at hA ⊢
 refine Calls.callWith_builtin (by show (false || (backTo cpos (starEach es X.env)).any (·.1))=false; rw [hplain] <;> rfl) (Calls.evalArgs_plain ?_)
 exact aQ hA fun us s2 ⟨vs,H2,I2,r2,q2⟩=>hm pins s2 σ H2 x vs v us Q I2 r1 r2 q2
end
def m8 (X:Cx) (id:String) (r:V->List V->Hp->VK->Prop):Prop:=
 ∀ (pins:List (Addr × Obj)) (s:Shared) (σ:St) (H:Hp) (x:V) (xs:List V) (v:Value) (us:List Value) (Q:VK),a8 X pins σ H s->aX x v->aK xs us->r x xs H Q->
  wpAny (model X.prog X.w) X.A (call (.builtin id) (v :: us)) (EP X pins σ Q) X.xe s
theorem aK.one {x:V}{us:List Value} (h:aK [x] us):∃ u,us = [u]/\aX x u:=by
 cases h with
 | cons r t=>
  cases t
  exact⟨_,rfl,r⟩
theorem aK.two {x y:V}{us:List Value} (h:aK [x,y] us):∃ u v,us = [u,v]/\aX x u/\aX y v:=by
 cases h with
 | cons r t=>
  cases t with
  | cons q t=>
   cases t
   exact⟨_,_,rfl,r,q⟩
theorem aK.zero:∀ {us:List Value},aK [] us->us = []
 | _,.nil=>rfl
theorem aK.dropLast {xs:List V}{us:List Value} (h:aK xs us):aK xs.dropLast us.dropLast:=by
 induction h with
 | nil=>exact .nil
 | cons r t ih=>
  cases t with
  | nil=>exact .nil
  | cons q t'=>exact .cons r ih
theorem aK.eraseIdx:∀ {xs:List V}{us:List Value} (i:Nat),aK xs us->aK (xs.eraseIdx i) (us.eraseIdx i)
 | _,_,_,.nil=>.nil
 | _,_,0,.cons _ t=>t
 | _,_,i+1,.cons r t=>.cons r (aK.eraseIdx i t)
theorem aK.reverse {xs:List V}{us:List Value} (h:aK xs us):aK xs.reverse us.reverse:=by
 induction h with
 | nil=>exact .nil
 | cons r t ih=>rw [List.reverse_cons,List.reverse_cons]; exact aK.append ih (.cons r .nil)
theorem aK.rep {xs:List V}{us:List Value} (h:aK xs us):∀ k:Nat,aK (List.replicate k xs).flatten (List.replicate k us).flatten
 | 0=>.nil
 | k+1=>by
  rw [bl3,bl3,bm4,bm4]
  exact aK.append h (aK.rep h k)
theorem am3 {α:Type} (l:List α):l.eraseIdx (l.length - 1)=l.dropLast:=by
 induction l with
 | nil=>rfl
 | cons a r ih=>
  cases r with
  | nil=>rfl
  | cons b r=>
   have e:(a :: b :: r).length - 1=((b :: r).length - 1)+1:=by
    have h1:(a :: b :: r).length=r.length+2:=rfl
    have h2:(b :: r).length=r.length+1:=rfl
    omega
   rw [e,List.eraseIdx_cons_succ,ih]
   all_goals rfl
theorem B2 {α:Type}:∀ (l:List α) (i:Nat),(l.eraseIdx i).length<=l.length
 | [],_=>bc1 _
 | _ :: _,0=>Nat.le_succ _
 | _ :: r,i+1=>Nat.succ_le_succ (B2 r i)
theorem B3 (its:List Value):∀ (k:Nat) (acc:List Value),
  List.foldl (fun x1 x2=>x1 ++ x2) acc.toArray (List.replicate k its.toArray)=(acc ++ (List.replicate k its).flatten).toArray
 | 0,acc=>by simp
 | k+1,acc=>by
  have e:acc.toArray ++ its.toArray=(acc ++ its).toArray:=by simp
  have e2:(acc ++ its) ++ (List.replicate k its).flatten=acc ++ (List.replicate (k+1) its).flatten:=by
   rw [bl3,bm4,bf5]
  rw [<- e2,<- B3 its k (acc ++ its),<- e,bl3,List.foldl_cons]
section
variable {X : Cx} {pins : List (Addr × Obj)} {σ : St} {H : Hp} {s : Shared} {l b : Addr} {xs ys zs : List V}
theorem a8.lset {its its':List Value}{n:Nat}{f:Array Value->Array Value}{t':Nat} (I:a8 X pins σ H s) (hH:H l=some (.lst xs))
  (e:s.heap.get? l=some { cls:=.type "list",data:=.seq its.toArray n }) (hf:f its.toArray=its'.toArray) (hv:aK ys its') (hz:ys.length<=sizeLine) :
  a8 X pins σ (upd H l (.lst ys)) { s with heap:=s.heap.update l (Obj.mapSeq f),toks:=t' }:=by
 have q:=PySem.IsL.update e f
 rw [hf] at q
 refine I.write (x:=l) (e:=l) (by rw [hH]; exact trivial) (.inl rfl) (fun b' u hb hu=>(Heap.get?_update_other s.heap (Obj.mapSeq f) (Ne.symm hb)).trans hu) ⟨_,q⟩ ?_
 exact⟨hz,its',_,hv,q⟩
theorem a8.lnew {its:List Value}{t':Nat} (I:a8 X pins σ H s) (hv:aK ys its) (hz:ys.length<=sizeLine) :
  a8 X pins σ (upd H s.heap.objs.size (.lst ys)) { s with heap:=s.heap.push { cls:=.type "list",data:=.seq its.toArray },toks:=t' }:=
 I.laid (fun _ _ q=>bb8 _ q) (bc1 _) ⟨hz,its,0,hv,bd2 _ rfl⟩
theorem a8.fresh (I:a8 X pins σ H s):H s.heap.objs.size=none:=I.hok.fresh (bc1 _)
theorem a8.lstM (I:a8 X pins σ H s) (hH:H l=some (.lst xs)):xs.length<=sizeLine/\∃ (its:List Value) (n:Nat),aK xs its/\xs.length=its.length/\s.heap.get? l=some { cls:=.type "list",data:=.seq its.toArray n }:=by
 obtain ⟨z,its,n,r,e⟩:=I.hok l _ hH
 exact⟨z,its,n,r,r.length,e⟩
theorem am4 {n:Nat} (h:n<=sizeLine):Builtin.List.listTooLong n=false:=by
 unfold Builtin.List.listTooLong
 exact bc8 (by omega)
end
section
variable {X : Cx}
def B4:V->List V->Hp->VK->Prop:=fun x vs H Q=>∃ l xs y,x = .ref l/\vs = [y]/\H l=some (.lst xs)/\xs.length < sizeLine/\Q .non (upd H l (.lst (xs ++ [y])))
theorem pW:m8 X "list.append" B4:=by
 intro pins s σ H x vs v us Q I rx rv h
 obtain ⟨l,xs,y,rfl,rfl,hH,hz,q⟩:=h
 cases rx
 obtain ⟨u,rfl,ru⟩:=rv.one
 obtain ⟨z,its,n,r,hl,e⟩:=I.lstM hH
 refine call_meets F.slot_list_append ⟨_,e,rfl⟩ F.entry_list_append (F.args_list_append_2 _ _) (PySem.list_append l its.toArray n u (by rw [bb9]; omega)) ⟨e,?_⟩
 refine⟨.non,_,I.lset (its':=its ++ [u]) hH e (by simp) (r.append (.cons ru .nil)) ?_,rfl,q⟩
 rw [bc0,bg9]
 omega
def am5:V->List V->Hp->VK->Prop:=fun x vs H Q=>∃ l b xs zs,x = .ref l/\vs = [.ref b]/\H l=some (.lst xs)/\H b=some (.lst zs)/\xs.length+zs.length<=sizeLine/\Q .non (upd H l (.lst (xs ++ zs)))
theorem bb4:m8 X "list.extend" am5:=by
 intro pins s σ H x vs v us Q I rx rv h
 obtain ⟨l,b,xs,zs,rfl,rfl,hH,hB,hz,q⟩:=h
 cases rx
 obtain ⟨u,rfl,ru⟩:=rv.one
 cases ru
 obtain ⟨z,its,n,r,hl,e⟩:=I.lstM hH
 obtain ⟨z2,its2,n2,r2,hl2,e2⟩:=I.lstM hB
 have hsz:its.toArray.size+its2.toArray.size<=sizeLine:=by rw [bb9,bb9]; omega
 have hlong : ¬ (!its.toArray.isEmpty && Builtin.List.listTooLong (its.toArray.size+its2.toArray.size))=true:=by
  rw [am4 hsz,bq1]
  exact be5
 refine call_meets F.slot_list_extend ⟨_,e,rfl⟩ F.entry_list_extend (F.args_list_extend_2 _ _)
  (AutoSeq1.list_extend_list_list_0 l its.toArray n b its2.toArray n2 hlong (by rw [bb9]; omega) (by omega)) ⟨e,e2,?_⟩
 refine⟨.non,_,I.lset (its':=its ++ its2) hH e (by simp) (r.append r2) ?_,rfl,q⟩
 rw [bc0]
 omega
def B5:V->List V->Hp->VK->Prop:=fun x vs H Q=>∃ l xs y,x = .ref l/\vs = []/\H l=some (.lst xs)/\xs[xs.length - 1]? = some y/\Q y (upd H l (.lst xs.dropLast))
theorem am6:m8 X "list.pop" B5:=by
 intro pins s σ H x vs v us Q I rx rv h
 obtain ⟨l,xs,y,rfl,rfl,hH,hy,q⟩:=h
 cases rx
 have hus:=rv.zero
 subst hus
 obtain ⟨z,its,n,r,hl,e⟩:=I.lstM hH
 obtain ⟨u,hu,ru⟩:=r.get hy
 have hy':its.toArray[its.toArray.size - 1]? = some u:=by
  show its.toArray[its.length - 1]? = some u
  rw [<- Array.getElem?_toList,<- hl]
  exact hu
 refine call_meets F.slot_list_pop ⟨_,e,rfl⟩ F.entry_list_pop (F.args_list_pop_1 _) (MeetsSeq.list_pop_last l its.toArray n u hy' (by rw [bb9]; omega)) ⟨e,?_⟩
 refine⟨y,_,I.lset (its':=its.dropLast) hH e ?_ r.dropLast ?_,ru,q⟩
 ·show its.toArray.eraseIdxIfInBounds (its.toArray.size - 1)=its.dropLast.toArray
  rw [bb9,List.eraseIdxIfInBounds_toArray,am3]
 ·rw [List.length_dropLast]
  omega
def B6:V->List V->Hp->VK->Prop:=fun x vs H Q=>∃ l xs i k y,x = .ref l/\vs = [.int i]/\H l=some (.lst xs)/\-(2 ^ 63)<=i/\i < 2 ^ 63/\seqIndex? i xs.length=some k/\xs[k]? = some y/\Q y (upd H l (.lst (xs.eraseIdx k)))
theorem am7:m8 X "list.pop" B6:=by
 intro pins s σ H x vs v us Q I rx rv h
 obtain ⟨l,xs,i,k,y,rfl,rfl,hH,h1,h2,hk,hy,q⟩:=h
 cases rx
 obtain ⟨u,rfl,ru⟩:=rv.one
 obtain ⟨t,rfl⟩:=ru
 obtain ⟨z,its,n,r,hl,e⟩:=I.lstM hH
 obtain ⟨w,hw,rw'⟩:=r.get hy
 refine call_meets F.slot_list_pop ⟨_,e,rfl⟩ F.entry_list_pop (F.args_list_pop_2 _ _)
  (MeetsSeq.list_pop_at l its.toArray n i t k w (fitsIndex_both h1 h2) (by rw [bb9,<- hl]; exact hk) (by rw [<- Array.getElem?_toList]; exact hw) (by rw [bb9]; omega)) ⟨e,?_⟩
 refine⟨y,_,I.lset (its':=its.eraseIdx k) hH e ?_ (r.eraseIdx k) ?_,rw',q⟩
 ·show its.toArray.eraseIdxIfInBounds k=(its.eraseIdx k).toArray
  rw [List.eraseIdxIfInBounds_toArray]
 ·have:=B2 xs k
  omega
def B7:V->List V->Hp->VK->Prop:=fun x vs H Q=>∃ l xs,x = .ref l/\vs = []/\H l=some (.lst xs)/\Q .non (upd H l (.lst xs.reverse))
theorem am8:m8 X "list.reverse" B7:=by
 intro pins s σ H x vs v us Q I rx rv h
 obtain ⟨l,xs,rfl,rfl,hH,q⟩:=h
 cases rx
 have hus:=rv.zero
 subst hus
 obtain ⟨z,its,n,r,hl,e⟩:=I.lstM hH
 refine call_meets F.slot_list_reverse ⟨_,e,rfl⟩ F.entry_list_reverse (F.args_list_reverse_1 _) (AutoSeq1.list_reverse_list_0 l its.toArray n (by rw [bb9]; omega)) ⟨e,?_⟩
 refine⟨.non,_,I.lset (its':=its.reverse) hH e (by simp) r.reverse ?_,rfl,q⟩
 rw [bn2]
 omega
def B8:R2:=fun x y H Q=>∃ l b xs zs,x = .ref l/\y = .ref b/\H l=some (.lst xs)/\H b=some (.lst zs)/\xs.length+zs.length<=sizeLine/\∀ p,H p=none->Q (.ref p) (upd H p (.lst (xs ++ zs)))
theorem am9:cF X (binaryOp .Add) B8:=by
 intro pins s σ H x y v u Q I rx ry h
 obtain ⟨l,b,xs,zs,rfl,rfl,hH,hB,hz,q⟩:=h
 cases rx
 cases ry
 obtain ⟨z,its,n,r,hl,e⟩:=I.lstM hH
 obtain ⟨z2,its2,n2,r2,hl2,e2⟩:=I.lstM hB
 refine PySem.P.add_list e e2 ?_ (by rw [bb9,bb9]; omega)
 have ea:its.toArray ++ its2.toArray=(its ++ its2).toArray:=by simp
 rw [ea]
 exact⟨.ref _,_,I.lnew (t':=s.toks) (r.append r2) (by rw [bc0]; omega),rfl,q _ I.fresh⟩
theorem an0 {α:Type} (xs:List α) (k:Nat):(List.replicate k xs).flatten.length=k * xs.length:=by
 induction k with
 | zero=>simp
 | succ k ih=>rw [bl3,bm4,bc0,ih,Nat.succ_mul,Nat.add_comm]
end
section
variable {κ : Type} [DecidableEq κ]
def fC (kvs:List (κ × V)) (k:κ):Option V:=(kvs.find? fun kv=>decide (kv.1=k)).map (·.2)
def dS (kvs:List (κ × V)) (k:κ) (v:V):List (κ × V):=
 if (kvs.any fun kv=>decide (kv.1=k))=true then kvs.map (fun kv=>if kv.1=k then (kv.1,v) else kv) else kvs ++ [(k,v)]
theorem uJ {p:κ × V}{r:List (κ × V)}{k:κ} (e:p.1=k):fC (p :: r) k=some p.2:=by simp [fC,bl8,e]
theorem uK {p:κ × V}{r:List (κ × V)}{k:κ} (e : ¬ p.1=k):fC (p :: r) k=fC r k:=by simp [fC,bl8,e]
theorem B9 (k:κ):∀ kvs:List (κ × V),(kvs.any fun kv=>decide (kv.1=k))=(fC kvs k).isSome
 | []=>rfl
 | p :: r=>by
  rw [List.any_cons]
  by_cases e:p.1=k
  ·simp only [uJ e,bd4 e,Bool.true_or,Option.isSome_some]
  ·rw [uK e,bc8 e,Bool.false_or]; exact B9 k r
theorem uL (kvs:List (κ × V)) (k:κ) (v:V):(dS kvs k v).length<=kvs.length+1:=by
 unfold dS
 split
 ·rw [bc4]; omega
 ·rw [bc0,bh9,List.length_nil]; omega
theorem iH.isSome_eq {o:Option V}{u:Option Value} (r:iH o u):o.isSome=u.isSome:=by
 cases o with
 | none=>cases u with
  | none=>rfl
  | some _=>exact (show False from r).elim
 | some _=>cases u with
  | none=>exact (show False from r).elim
  | some _=>rfl
theorem KV.val {kvs:List (κ × V)}{vs:List (κ × Value)} (r:KV kvs vs) (k:κ):iH (fC kvs k) (valueAt vs k):=by
 unfold KV at r
 induction r with
 | nil=>exact True.intro
 | @cons p q ps qs h t ih=>
  obtain ⟨h1,h2⟩:=h
  by_cases e:p.1=k
  ·have e':q.1=k:=h1.symm.trans e
   have b:valueAt (q :: qs) k=some q.2:=by simp [valueAt,bl8,e']
   rw [uJ e,b]; exact h2
  ·have e' : ¬ q.1=k:=fun z=>e (h1.trans z)
   have b:valueAt (q :: qs) k=valueAt qs k:=by simp [valueAt,bl8,e']
   rw [uK e,b]; exact ih
theorem KV.any {kvs:List (κ × V)}{vs:List (κ × Value)} (r:KV kvs vs) (k:κ):(kvs.any fun kv=>decide (kv.1=k))=vs.any fun kv=>decide (kv.1=k):=by
 unfold KV at r
 induction r with
 | nil=>rfl
 | cons h t ih=>rw [List.any_cons,List.any_cons,ih,h.1]
theorem KV.repl {kvs:List (κ × V)}{vs:List (κ × Value)} (r:KV kvs vs) (k:κ) {y:V}{u:Value} (ry:aX y u) :
  KV (kvs.map fun kv=>if kv.1=k then (kv.1,y) else kv) (vs.map fun kv=>if kv.1=k then (kv.1,u) else kv):=by
 unfold KV at r ⊢
 induction r with
 | nil=>exact .nil
 | @cons p q ps qs h t ih=>
  rw [bh4,bh4]
  refine .cons ?_ ih
  obtain ⟨h1,h2⟩:=h
  by_cases e:p.1=k
  ·rw [if_pos e,if_pos (h1.symm.trans e)]; exact⟨h1,ry⟩
  ·rw [if_neg e,if_neg (fun z=>e (h1.trans z))]; exact⟨h1,h2⟩
theorem KV.put {kvs:List (κ × V)}{vs:List (κ × Value)} (r:KV kvs vs) (k:κ) {y:V}{u:Value} (ry:aX y u):KV (dS kvs k y) (stored vs k u):=by
 unfold dS stored
 rw [r.any k]
 by_cases e:(vs.any fun kv=>decide (kv.1=k))=true
 ·rw [if_pos e,if_pos e]; exact r.repl k ry
 ·rw [if_neg e,if_neg e]; exact Paired.snoc r ⟨rfl,ry⟩
theorem KV.length {kvs:List (κ × V)}{vs:List (κ × Value)} (r:KV kvs vs):kvs.length=vs.length:=Paired.length r
end
theorem o8 {P:Program}{w:World}{k:aC}{u:Value} (r:aX (kV k) u):(eQ P w).is k u=true:=by
 cases k with
 | inl i=>obtain ⟨t,e⟩:=(show ∃ t,u=Value.int i t from r); subst e; exact ad9 P w i t
 | inr x=>obtain ⟨t,e⟩:=(show ∃ t,u=Value.str x t from r); subst e; exact ae0 P w x t
theorem C0 {P:Program}{w:World}:∀ {ks:List aC}{us:List Value},aK (ks.map kV) us->ItemsAre (eQ P w) ks us
 | [],_,r=>by rw [List.map_nil] at r; cases r; exact .nil
 | k :: ks,_,r=>by
  rw [bh4] at r
  cases r with
  | cons h t=>exact .cons (o8 h) (C0 t)
abbrev KT (H:Hp):List (List aC × V)->List (List aC × Addr × Value)->Prop:=Paired fun p q=>p.1=q.1/\H q.2.1=some (.tup (p.1.map kV))/\aX p.2 q.2.2
theorem KT.val {H:Hp}{kvs:List (List aC × V)}{xs:List (List aC × Addr × Value)} (r:KT H kvs xs) (k:List aC):iH (fC kvs k) ((atKey xs k).map (·.2)):=by
 induction r with
 | nil=>exact True.intro
 | @cons p q ps qs h t ih=>
  obtain ⟨h1,_,h2⟩:=h
  by_cases e:p.1=k
  ·have e':q.1=k:=h1.symm.trans e
   have b:atKey (q :: qs) k=some q.2:=by simp [atKey,bl8,e']
   rw [uJ e,b]; exact h2
  ·have e' : ¬ q.1=k:=fun z=>e (h1.trans z)
   have b:atKey (q :: qs) k=atKey qs k:=by simp [atKey,bl8,e']
   rw [uK e,b]; exact ih
theorem KT.repl {H:Hp}{kvs:List (List aC × V)}{xs:List (List aC × Addr × Value)} (r:KT H kvs xs) (k:List aC) {y:V}{u:Value} (ry:aX y u) :
  KT H (kvs.map fun kv=>if kv.1=k then (kv.1,y) else kv) (xs.map (putAt k u)):=by
 induction r with
 | nil=>exact .nil
 | @cons p q ps qs h t ih=>
  rw [bh4,bh4]
  refine .cons ?_ ih
  obtain ⟨h1,h2,h3⟩:=h
  unfold putAt
  by_cases e:p.1=k
  ·rw [if_pos e,if_pos (h1.symm.trans e)]; exact⟨h1,h2,ry⟩
  ·rw [if_neg e,if_neg (fun z=>e (h1.trans z))]; exact⟨h1,h2,h3⟩
theorem KT.put {H:Hp}{kvs:List (List aC × V)}{xs:List (List aC × Addr × Value)} (r:KT H kvs xs) (k:List aC) {b:Addr}{y:V}{u:Value} (hb:H b=some (.tup (k.map kV))) (ry:aX y u) :
  KT H (dS kvs k y) (storedH xs k b u):=by
 have e:(kvs.any fun kv=>decide (kv.1=k))=(atKey xs k).isSome:=by
  rw [B9,(r.val k).isSome_eq,Option.isSome_map]
 unfold dS storedH
 rw [e]
 by_cases q:(atKey xs k).isSome=true
 ·rw [if_pos q,if_pos q]; exact r.repl k ry
 ·rw [if_neg q,if_neg q]; exact Paired.snoc r ⟨rfl,hb,ry⟩
theorem KT.keeps {H H':Hp}{kvs:List (List aC × V)}{xs:List (List aC × Addr × Value)} (r:KT H kvs xs) (ht:∀ b ys,H b=some (.tup ys)->H' b=some (.tup ys)):KT H' kvs xs:=
 Paired.mapP r fun _ _ z=>⟨z.1,ht _ _ z.2.1,z.2.2⟩
section
variable {P : Program} {w : World} {H : Hp} {h : Heap} {a : Addr}
theorem C1 {u:HO} (ok:bW P w H h) (e:Rd H a u):bZ P w H h a u:=e.ok ok
theorem kR {kvs:List (aC × V)} (ok:bW P w H h) (e:Rd H a (.dK kvs)):kvs.length<=sizeLine/\(a == sysModules)=false/\∃ vs,KV kvs vs/\h.DictOf (eQ P w) a vs:=
 show bZ P w H h a (.dK kvs) from C1 ok e
theorem uM {kvs:List (aC × V)} (ok:bW P w H h) (e:H a=some (.dK kvs)):kvs.length<=sizeLine/\(a == sysModules)=false/\∃ vs,KV kvs vs/\h.DictOf (eQ P w) a vs:=kR ok (.inl e)
theorem m9 {ks:List aC} (ok:bW P w H h) (e:H a=some (.tup (ks.map kV))):(tupleKind (eQ P w)).is h ks a:=by
 obtain ⟨_,its,r,o,h1,h2,n,h3⟩:=(show bZ P w H h a (.tup (ks.map kV)) from ok a _ e)
 exact⟨o,its.toArray,n,h1,h2,h3,by simpa using C0 r⟩
theorem mB {kvs:List (List aC × V)} (ok:bW P w H h) (e:Rd H a (.dT kvs)):kvs.length<=sizeLine/\(a == sysModules)=false/\
  ∃ xs,KT H kvs xs/\h.DictOfH (tupleKind (eQ P w)) a xs:=by
 obtain ⟨z,y,xs,r,o,es,ep,h1,h2,h3,h4,h5⟩:=(show bZ P w H h a (.dT kvs) from C1 ok e)
 refine⟨z,y,xs,r,o,es,ep,h1,h2,h3,h4,fun x hx=>?_,h5⟩
 have all:∀ {l:List (List aC × V)}{m:List (List aC × Addr × Value)},KT H l m->∀ x ∈ m,(tupleKind (eQ P w)).is h x.1 x.2.1:=by
  intro l m q
  induction q with
  | nil=>intro x hx; exact nomatch hx
  | @cons p q ps qs hq t ih=>
   intro x hx
   rcases bc5.mp hx with e | hx
   ·subst e
    exact m9 ok (by rw [<- hq.1]; exact hq.2.1)
   ·exact ih x hx
 exact all r x hx
theorem C2 {kvs:List (List aC × V)} (ok:bW P w H h) (e:H a=some (.dT kvs)):kvs.length<=sizeLine/\(a == sysModules)=false/\
  ∃ xs,KT H kvs xs/\h.DictOfH (tupleKind (eQ P w)) a xs:=mB ok (.inl e)
end
def fI (H:Hp) (a:Addr) (y:V) (r:Option V):Prop:=
 (∃ kvs k,Rd H a (.dK kvs)/\y=kV k/\r=fC kvs k) ∨ ∃ kvs k b,Rd H a (.dT kvs)/\y = .ref b/\H b=some (.tup (k.map kV))/\r=fC kvs k
def jV (H:Hp) (a:Addr) (y v:V) (H':Hp):Prop:=
 (∃ kvs k,H a=some (.dK kvs)/\y=kV k/\kvs.length < sizeLine/\H'=upd H a (.dK (dS kvs k v))) ∨
 ∃ kvs k b,H a=some (.dT kvs)/\y = .ref b/\H b=some (.tup (k.map kV))/\kvs.length < sizeLine/\H'=upd H a (.dT (dS kvs k v))
theorem fI.k {H:Hp}{a:Addr}{kvs:List (aC × V)}{k:aC} (e:H a=some (.dK kvs)):fI H a (kV k) (fC kvs k):=.inl ⟨kvs,k,.inl e,rfl,rfl⟩
theorem fI.t {H:Hp}{a b:Addr}{kvs:List (List aC × V)}{k:List aC} (e:H a=some (.dT kvs)) (eb:H b=some (.tup (k.map kV))):fI H a (.ref b) (fC kvs k):=.inr ⟨kvs,k,b,.inl e,rfl,eb,rfl⟩
theorem jV.k {H:Hp}{a:Addr}{kvs:List (aC × V)}{k:aC}{v:V} (e:H a=some (.dK kvs)) (hl:kvs.length < sizeLine):jV H a (kV k) v (upd H a (.dK (dS kvs k v))):=.inl ⟨kvs,k,e,rfl,hl,rfl⟩
theorem jV.t {H:Hp}{a b:Addr}{kvs:List (List aC × V)}{k:List aC}{v:V} (e:H a=some (.dT kvs)) (eb:H b=some (.tup (k.map kV))) (hl:kvs.length < sizeLine) :
  jV H a (.ref b) v (upd H a (.dT (dS kvs k v))):=.inr ⟨kvs,k,b,e,rfl,eb,hl,rfl⟩
section
variable {X : Cx} {pins : List (Addr × Obj)} {σ : St} {H : Hp} {s : Shared} {a : Addr} {y v : V} {u r : Value} {o : Option V} {A : Around} {E : Value → Shared → Prop}
theorem a8.big (I:a8 X pins σ H s):sysModules < s.heap.objs.size:=by
 have h:mainGlobals < s.heap.objs.size:=(I.mod.glob.keeps I.bk).lt
 exact Nat.lt_trans (by decide) h
theorem an1 {Q:Value->Shared->Prop} (hu:A.units+1 < cLine) (I:a8 X pins σ H s) (g:fI H a y (some v)) (ry:aX y u) (h:∀ w' s',a8 X pins σ H s'->aX v w'->Q w' s') :
  wpAny (model X.prog X.w) A (getItem (.ref a) u) Q E s:=by
 rcases g with ⟨kvs,k,e,ey,l⟩ | ⟨kvs,k,b,e,ey,eb,l⟩
 ·subst ey
  obtain ⟨z,hd,vs,rel,dd⟩:=kR I.hok e
  obtain ⟨w',hw,rw'⟩:=iH.some_of (v:=v) (o:=valueAt vs k) (by rw [l]; exact rel.val k)
  exact wpAny_getItem_of (o8 ry) dd.mapOf hw (h w' _ (I.tok _) rw')
 ·subst ey
  cases (show u=Value.ref b from ry)
  obtain ⟨z,hd,xs,rel,dd⟩:=mB I.hok e
  obtain ⟨w',hw,rw'⟩:=iH.some_of (v:=v) (o:=(atKey xs k).map (·.2)) (by rw [l]; exact rel.val k)
  obtain ⟨p,hp,hp2⟩:=Option.map_eq_some_iff.mp hw
  refine wpAny_getItem_heap (tupleKind_room_in1 hu) (m9 I.hok eb) dd hp ?_
  rw [hp2]
  exact h w' _ (I.tok _) rw'
theorem an2 {Q:Value->Shared->Prop} (hu:A.units+1 < cLine) (I:a8 X pins σ H s) (g:fI H a y o) (ry:aX y u) (h:∀ s',a8 X pins σ H s'->Q (.bool o.isSome) s') :
  wpAny (model X.prog X.w) A (compareOp .In u (.ref a)) Q E s:=by
 rcases g with ⟨kvs,k,e,ey,l⟩ | ⟨kvs,k,b,e,ey,eb,l⟩
 ·subst ey
  obtain ⟨z,hd,vs,rel,dd⟩:=kR I.hok e
  refine wpAny_in_of (o8 ry) hd dd.mapOf ?_
  rw [<- (rel.val k).isSome_eq,<- l]
  exact h _ (I.tok _)
 ·subst ey
  cases (show u=Value.ref b from ry)
  obtain ⟨z,hd,xs,rel,dd⟩:=mB I.hok e
  refine wpAny_in_heap (tupleKind_room_in1 hu) (m9 I.hok eb) hd dd ?_
  have q:=(rel.val k).isSome_eq
  rw [Option.isSome_map] at q
  rw [<- q,<- l]
  exact h _ (I.tok _)
theorem an3 {Q:Value->Shared->Prop} (hu:A.units+1 < cLine) (I:a8 X pins σ H s) (g:fI H a y o) (ry:aX y u) (h:∀ s',a8 X pins σ H s'->Q (.bool (!o.isSome)) s') :
  wpAny (model X.prog X.w) A (compareOp .NotIn u (.ref a)) Q E s:=by
 rcases g with ⟨kvs,k,e,ey,l⟩ | ⟨kvs,k,b,e,ey,eb,l⟩
 ·subst ey
  obtain ⟨z,hd,vs,rel,dd⟩:=kR I.hok e
  refine wpAny_notIn_of (o8 ry) hd dd.mapOf ?_
  rw [<- (rel.val k).isSome_eq,<- l]
  exact h _ (I.tok _)
 ·subst ey
  cases (show u=Value.ref b from ry)
  obtain ⟨z,hd,xs,rel,dd⟩:=mB I.hok e
  refine wpAny_notIn_heap (tupleKind_room_in1 hu) (m9 I.hok eb) hd dd ?_
  have q:=(rel.val k).isSome_eq
  rw [Option.isSome_map] at q
  rw [<- q,<- l]
  exact h _ (I.tok _)
theorem pX {h':Heap}{t':Nat}{ob:HO} (I:a8 X pins σ H s) (mu:nM (H a)) (hs:Heap.SameBut a s.heap h') (he:∃ q,h'.get? a=some q) (new:bZ X.prog X.w (upd H a ob) h' a ob) :
  a8 X pins σ (upd H a ob) { s with heap:=h',toks:=t' }:=
 I.write (x:=a) (e:=a) mu (.inl rfl) (fun b q hb z=>(hs.2 b hb).trans z) he new
theorem C3 {P:Program}{w:World}{H':Hp}{h':Heap}{kvs:List (aC × V)}{vs:List (aC × Value)} (z:kvs.length<=sizeLine) (hd:(a == sysModules)=false) (rel:KV kvs vs) (dd:h'.DictOf (eQ P w) a vs) :
  bZ P w H' h' a (.dK kvs):=⟨z,hd,vs,rel,dd⟩
theorem an4 {H':Hp}{Q:Unit->Shared->Prop} (hu:A.units+1 < cLine) (I:a8 X pins σ H s) (g:jV H a y v H') (ry:aX y u) (rv:aX v r) (h:∀ s',a8 X pins σ H' s'->Q () s') :
  wpAny (model X.prog X.w) A (setItem (.ref a) u r) Q E s:=by
 rcases g with ⟨kvs,k,e,ey,l,eH⟩ | ⟨kvs,k,b,e,ey,eb,l,eH⟩
 ·subst ey eH
  obtain ⟨z,hd,vs,rel,dd⟩:=uM I.hok e
  have hz:vs.length<=sizeLine:=by rw [<- rel.length]; exact z
  have hl:(dS kvs k v).length<=sizeLine:=by have:=uL kvs k v; omega
  refine wpAny_setItem_pairs (hsz:=hz) (o8 ry) dd fun h' dd' hs=>h _ ?_
  have he:∃ q,h'.get? a=some q:=let ⟨q,_,_,hq,_⟩:=dd'; ⟨q,hq⟩
  exact pX I (by rw [e]; exact True.intro) hs he (C3 hl hd (rel.put k rv) dd')
 ·subst ey eH
  cases (show u=Value.ref b from ry)
  obtain ⟨z,hd,xs,rel,dd⟩:=C2 I.hok e
  have hz:xs.length<=sizeLine:=by rw [<- Paired.length rel]; exact z
  have hl:(dS kvs k v).length<=sizeLine:=by have:=uL kvs k v; omega
  refine wpAny_setItem_heap (hsz:=hz) (tupleKind_room_in1 hu) (m9 I.hok eb) dd fun h' dd' hs=>h _ ?_
  obtain ⟨q,es,ep,hq,h2,h3,h4,_,h5⟩:=dd'
  refine pX I (by rw [e]; exact True.intro) hs ⟨q,hq⟩ ⟨hl,hd,_,(rel.put k eb rv).keeps fun c ys ec=>?_,q,es,ep,hq,h2,h3,h4,h5⟩
  rw [aL (yH ec e (fun z=>nomatch z))]
  exact ec
end
section
variable {X : Cx} {pins : List (Addr × Obj)} {σ : St} {H : Hp} {s : Shared} {a : Addr} {kvs : List (aC × V)} {k : aC} {u : Value} {A : Around} {E : Value → Shared → Prop}
theorem an5 {Q:Value->Shared->Prop} (I:a8 X pins σ H s) (e:Rd H a (.dK kvs)) (h:∀ t s',a8 X pins σ H s'->Q (.int kvs.length t) s'):wpAny (model X.prog X.w) A (call (.builtin "len") [.ref a]) Q E s:=by
 obtain ⟨z,hd,vs,rel,dd⟩:=kR I.hok e
 refine call_len_dict hd dd (by rw [<- rel.length]; rw [sizeLine_eq] at z; omega) ?_
 rw [<- rel.length]
 exact h _ _ (I.tok _)
end
def uN (i:Expr):Prop:=∀ ov iv,subscripted i false ov iv=operate [ov,iv] (getItem ov iv)
theorem an6 {prog:Program}{w:World}{A:Around}{E:Value->Shared->Prop}{s:Shared}{env:Env}{value slice:Expr}{pos:Pos}{T id:String}{Q:Value->Shared->Prop}
  (hl:typeLookup (.type T) "__getitem__" = pure (some (.builtin id))) (hs:uN slice)
  (h:wpAny (model prog w) A (eval value env) (fun o s₁=>wpAny (model prog w) A (eval slice env) (fun i s₂=>s₂.TypeIs o T/\wpAny (model prog w) A (getItem o i) Q E s₂) E s₁) E s) :
  wpAny (model prog w) A (eval (.Subscript value slice pos) env) Q E s:=by
 refine Subscript_ (bj2 h (fun o s₁ h₁=>bj2 h₁ (fun i s₂ h₂=>?_) fun _ _ x=>x) fun _ _ x=>x)
 obtain ⟨hT,h₂⟩:=h₂
 unfold subscriptTail
 refine bb7 ?_
 rw [getitemInPython_of_ne hT.not_modules]
 refine bb7 (wpAny_specialOf hT hl ?_)
 have fin:wpAny (model prog w) A (subscripted slice false o i) (fun r s₃=>wpAny (model prog w) A (letTemporaryGo value o r >>= fun _=>pure r) Q E s₃) E s₂:=by
  rw [hs o i]
  exact wpAny_operating (bj2 h₂ (fun r s₃ h₃=>bb7 (wpAny_letTemporaryGo (bc3 h₃))) fun _ _ x=>x)
 first
  | exact bc3 (bb7 fin)
  | exact bb7 (bc3 (bb7 fin))
  | exact bb7 fin
theorem an7 {X:Cx}{pins:List (Addr × Obj)}{σ:St}{H:Hp}{s:Shared}{a:Addr}{y:V}{o:Option V} (I:a8 X pins σ H s) (g:fI H a y o):s.TypeIs (.ref a) "dict":=by
 rcases g with ⟨kvs,k,e,_,_⟩ | ⟨kvs,k,b,e,_,_,_⟩
 ·obtain ⟨_,_,vs,_,dd⟩:=kR I.hok e
  exact dd.typeIs
 ·obtain ⟨_,_,xs,_,dd⟩:=mB I.hok e
  exact dd.typeIs
def C4 (td ty:TE):TE:=fun σ H Q=>td σ H fun x H1=>ty σ H1 fun y H2=>∃ a v,x = .ref a/\fI H2 a y (some v)/\Q v H2
def C5 (ty td:TE):TE:=fun σ H Q=>ty σ H fun y H1=>td σ H1 fun x H2=>∃ a o,x = .ref a/\fI H2 a y o/\Q (.bl o.isSome) H2
def C6 (ty td:TE):TE:=fun σ H Q=>ty σ H fun y H1=>td σ H1 fun x H2=>∃ a o,x = .ref a/\fI H2 a y o/\Q (.bl (!o.isSome)) H2
def uO (td ty tv:TE):TS:=fun D σ H=>tv σ H fun v H1=>td σ H1 fun x H2=>ty σ H2 fun y H3=>∃ a H4,x = .ref a/\jV H3 a y v H4/\D.nx σ H4
section
variable {X : Cx} {o i e value : Expr} {pos pos' tpos : Pos} {td ty tv : TE}
theorem an8 (hu:X.A.units+1 < cLine) (ho:PE X o td) (hi:PE X i ty) (hs:uN i):PE X (.Subscript o i pos) (C4 td ty):=by
 intro pins s σ H Q I h
 refine an6 PySem.F.slot_dict_getitem.lookup hs (aQ (ho pins s σ H _ I h) fun u s1 ⟨x,H1,I1,rx,q1⟩=>aQ (hi pins s1 σ H1 _ I1 q1) fun iv s2 ⟨y,H2,I2,ry,a,v,ex,g,q2⟩=>?_)
 subst ex
 obtain rfl:u=Value.ref a:=rx
 exact⟨an7 I2 g,an1 hu I2 g ry fun w' s3 I3 rw'=>⟨v,H2,I3,rw',q2⟩⟩
theorem an9 (hu:X.A.units+1 < cLine) (hi:PE X i ty) (ho:PE X o td):PC X .In i o (C5 ty td):=by
 intro pins s σ H Q I h
 refine aQ (hi pins s σ H _ I h) fun iv s1 ⟨y,H1,I1,ry,q1⟩=>aQ (ho pins s1 σ H1 _ I1 q1) fun u s2 ⟨x,H2,I2,rx,a,ov,ex,g,q2⟩=>?_
 subst ex
 obtain rfl:u=Value.ref a:=rx
 exact an2 hu I2 g ry fun s3 I3=>⟨.bl ov.isSome,H2,I3,rfl,q2⟩
theorem ao0 (hu:X.A.units+1 < cLine) (hi:PE X i ty) (ho:PE X o td):PC X .NotIn i o (C6 ty td):=by
 intro pins s σ H Q I h
 refine aQ (hi pins s σ H _ I h) fun iv s1 ⟨y,H1,I1,ry,q1⟩=>aQ (ho pins s1 σ H1 _ I1 q1) fun u s2 ⟨x,H2,I2,rx,a,ov,ex,g,q2⟩=>?_
 subst ex
 obtain rfl:u=Value.ref a:=rx
 exact an3 hu I2 g ry fun s3 I3=>⟨.bl (!ov.isSome),H2,I3,rfl,q2⟩
theorem C7 (hu:X.A.units+1 < cLine) (ho:PE X o td) (hi:PE X i ty) (hv:PE X value tv) (hs:swapsWith value (some (.Subscript o i pos')) pos.line X.env=pure false) :
  PS X (.Assign [.Subscript o i pos'] value pos) (uO td ty tv):=by
 intro pins s σ H D I h
 refine wpAny_Assign_Subscript (aQ (hv pins s σ H _ I h) fun r s1 ⟨v,H1,I1,rv,q1⟩=>aQ (ho pins s1 σ H1 _ I1 q1) fun u s2 ⟨x,H2,I2,rx,q2⟩=>aQ (hi pins s2 σ H2 _ I2 q2) fun iv s3 ⟨y,H3,I3,ry,a,H4,ex,g,q3⟩=>?_) hs
 subst ex
 obtain rfl:u=Value.ref a:=rx
 exact an4 hu I3 g ry rv fun s4 I4=>⟨σ,H4,I4,q3⟩
end
theorem ao1 {P:Program}{w:World}{H:Hp} (h:Heap) (hb:sysModules < h.objs.size):bZ P w H (h.push { cls:=.type "dict",data:=.dict #[] }) h.objs.size (.dK []):=
 ⟨bh2 _,bn0.mpr (Ne.symm (bf4 hb)),[],.nil,Heap.DictOf.new h⟩
theorem ao2 {P:Program}{w:World}{H:Hp} (h:Heap) (hb:sysModules < h.objs.size):bZ P w H (h.push { cls:=.type "dict",data:=.dict #[] }) h.objs.size (.dT []):=
 ⟨bh2 _,bn0.mpr (Ne.symm (bf4 hb)),[],.nil,_,#[],0,bd2 _ rfl,⟨rfl,rfl,rfl⟩,rfl,rfl,List.nodup_nil⟩
def C8:TE:=fun _ H Q=>∀ p,H p=none->Q (.ref p) (upd H p (.dK []))
def C9:TE:=fun _ H Q=>∀ p,H p=none->Q (.ref p) (upd H p (.dT []))
section
variable {X : Cx} {pos : Pos}
theorem ao3:PE X (.Dict [] [] pos) C8:=fun pins s σ H Q I h=>
 wpAny_Dict_empty ⟨.ref s.heap.objs.size,_,I.laid (a:=s.heap.objs.size) (o:=.dK []) (t':=s.toks) (fun _ _ q=>bb8 _ q) (bc1 _) (ao1 s.heap I.big),rfl,h _ (I.hok.fresh (bc1 _))⟩
theorem ao4:PE X (.Dict [] [] pos) C9:=fun pins s σ H Q I h=>
 wpAny_Dict_empty ⟨.ref s.heap.objs.size,_,I.laid (a:=s.heap.objs.size) (o:=.dT []) (t':=s.toks) (fun _ _ q=>bb8 _ q) (bc1 _) (ao2 s.heap I.big),rfl,h _ (I.hok.fresh (bc1 _))⟩
end
def kS (kvs more:List (aC × V)):List (aC × V):=more.foldl (fun acc kv=>dS acc kv.1 kv.2) kvs
theorem KV.merge:∀ {more:List (aC × V)}{rs:List (aC × Value)}{kvs:List (aC × V)}{vs:List (aC × Value)},KV more rs->KV kvs vs->KV (kS kvs more) (merged vs rs):=by
 intro more rs kvs vs r
 unfold KV at r
 induction r generalizing kvs vs with
 | nil=>intro q; exact q
 | @cons p q ps qs h t ih=>
  intro r0
  have e:KV (dS kvs p.1 p.2) (stored vs q.1 q.2):=by
   have:=r0.put p.1 h.2
   rw [<- h.1]; exact this
  exact ih e
theorem E1:∀ (more kvs:List (aC × V)),(kS kvs more).length<=kvs.length+more.length
 | [],kvs=>by show kvs.length<=kvs.length+0; omega
 | p :: r,kvs=>by
  have h1:=E1 r (dS kvs p.1 p.2)
  have h2:=uL kvs p.1 p.2
  show (kS (dS kvs p.1 p.2) r).length<=_
  rw [bh9]; omega
structure M1 (X:Cx) (o:Expr) (m:Str) (apos:Pos) (e:Expr) (cpos:Pos):Prop where
 base:attributeBase o m X.env (eval o X.env)=eval o X.env
 few:((backTo cpos (starEach [e] X.env)).all (fun x=>!x.1) && (backToKw cpos (keywordEach [] X.env)).all (fun x=>x.1.isSome)
  && decide (([e]:List Expr).length+([]:List Keyword).length+(if ([]:List Keyword).isEmpty then 0 else 1) < 30))=true
 line:(apos.endLine == cpos.line)=true
 trees:backTo cpos (starEach [e] X.env) = [(false,eval e X.env)]
structure M2 (X:Cx) (o:Expr) (m:Str) (apos:Pos) (e f:Expr) (cpos:Pos):Prop where
 base:attributeBase o m X.env (eval o X.env)=eval o X.env
 few:((backTo cpos (starEach [e,f] X.env)).all (fun x=>!x.1) && (backToKw cpos (keywordEach [] X.env)).all (fun x=>x.1.isSome)
  && decide (([e,f]:List Expr).length+([]:List Keyword).length+(if ([]:List Keyword).isEmpty then 0 else 1) < 30))=true
 line:(apos.endLine == cpos.line)=true
 trees:backTo cpos (starEach [e,f] X.env) = [(false,eval e X.env),(false,eval f X.env)]
def uP (H:Hp) (a:Addr):Prop:=(∃ kvs,Rd H a (.dK kvs)) ∨ ∃ kvs,Rd H a (.dT kvs)
theorem E2 {X:Cx}{pins:List (Addr × Obj)}{σ:St}{H:Hp}{s:Shared}{a:Addr} (I:a8 X pins σ H s) (d:uP H a) :
  s.TypeIs (.ref a) "dict"/\(∀ b,Value.ref a = .ref b->∃ ob,s.heap.get? b=some ob/\ob.dict=none)/\(a == sysModules)=false:=by
 rcases d with ⟨kvs,e⟩ | ⟨kvs,e⟩
 ·obtain ⟨_,hd,vs,_,dd⟩:=kR I.hok e
  refine⟨dd.typeIs,fun b q=>?_,hd⟩
  cases q
  obtain ⟨ob,_,_,h1,h2,_⟩:=dd
  exact⟨ob,h1,h2.2.1⟩
 ·obtain ⟨_,hd,xs,_,dd⟩:=mB I.hok e
  refine⟨dd.typeIs,fun b q=>?_,hd⟩
  cases q
  obtain ⟨ob,_,_,h1,h2,_⟩:=dd
  exact⟨ob,h1,h2.2.1⟩
end L2
namespace Att
open PySem PySem.W PySem.Calls PyProof.Rows
theorem ao5 {P:Params}{h:Heap}:∀ (ns:List Int) (vs:List Value),WellAll P h vs (ns.map WData.int)->IntsAre vs ns:=by
 intro ns
 induction ns with
 | nil=>
  intro vs w
  rw [List.map_nil] at w
  cases w
  exact .nil
 | cons n ns ih=>
  intro vs w
  rw [bh4] at w
  cases w with
  | cons a b=>
   cases a
   exact .cons _ _ (ih _ b)
theorem E3 {l:OpenLaw}{n:Nat} (hn:l.most=some n) {P:Params}{h:Heap}{args:List WData}{vals:List Value}
  (hpre:l.row.toRowW.claim.pre args=true) (hwl:WellAll P h vals args) :
  ∃ a vs ns,vals = [Value.ref a]/\args = [WData.list (ns.map WData.int)]/\h.get? a=some { cls:=.type "list",data:=.seq vs.toArray }/\IntsAre vs ns/\ns.length<=n:=by
 have hsh:WShape.hasAll [] args [.list .int]=true:=(pre_splitW hpre).1
 have hc:l.pre.holds [] { args:=args }=true:=(pre_splitW hpre).2
 obtain ⟨d,r,rfl,h1,h2⟩:=hasAllW_cons hsh
 obtain rfl:=hasAllW_nil h2
 obtain ⟨xs,rfl,h3⟩:=hasW_list h1
 obtain ⟨ns,rfl⟩:=items_int h3
 have hlen:ns.length<=n:=by
  unfold OpenLaw.pre at hc
  have h4:(WTm.not (.lt (.lit (.int (n:Int))) (.len (.arg 0)))).holds [] { args:=[.list (ns.map .int)] }=true:=by
   have h4:=(holds_andW hc).1
   rw [hn] at h4
   exact h4
  have h5:=condW_of h4 (w_not (w_lt w_lit (w_len_list (w_arg rfl))))
  rw [bc4] at h5
  refine Nat.le_of_not_lt fun q=>?_
  have q':(n:Int) < ((ns.length:Nat):Int):=by omega
  first
   | (rw [bd4 q'] at h5; exact absurd h5 (by decide))
   | (simp at h5; omega)
 cases hwl with
 | cons w1 w2=>
  cases w2
  cases w1 with
  | list ho hall=>exact⟨_,_,ns,rfl,rfl,ho,ao5 ns _ hall,hlen⟩
theorem E4 (l:OpenLaw) (args:List WData):l.row.toRowW.claim.post args (.bool true) args=true:=
 postW_of (r:=l.row.toRowW) (X:=(true == true))
  (show WShape.has [] (.bool true) .bool=true by first | rfl | decide | simp [WShape.has,WShape.arms,WShape.armsAll])
  (show (WTm.eq .res (.lit (.bool true))).value [] { args:=args,res:=some (.bool true),after:=args }=some (.bool (true == true)) from w_eq_bool (w_res rfl) w_lit) rfl
theorem bb5 {l:OpenLaw}{n:Nat}{q:Program}{loose:List Str}{XP:(Str->Option Value)->Heap->Prop}{YP:World->Heap->Prop}{d:DefRec}{x:Str}
  (hn:l.most=some n) (hdf:d.params.defaults = [])
  (hbind:∀ pm cd doc v:Value,bindArgs (docDef d.name d.params d.body d.scope pm cd doc) ⟨[v],[]⟩=pure [(x,v)])
  (hx:d.scope.names.lookup x=some .local ∨ d.scope.names.lookup x=some .cell)
  (hk:d.scope.kind = .function) (hco:d.scope.isCoroutine=false) (hgen:d.scope.isGenerator=false)
  (body:∀ (w:World) (s₀ s₁ s:Shared) (mg mb:Str->Option Value) (fa:Addr) (o:Obj) (pm cd doc:Value) (a:Addr) (vs:List Value) (ns:List Int),
   Ground q loose [] XP w s₀ mg mb s₁.heap->YP w s₁.heap->
   s₁.heap.get? fa=some o->o.data = .func (docDef d.name d.params d.body d.scope pm cd doc)->s₁.heap.CodeRec cd d.name->mg d.name=some (.ref fa)->
   s₁.heap.get? a=some { cls:=.type "list",data:=.seq vs.toArray }->IntsAre vs ns->ns.length<=n->
   s.gens = #[]->s.os=s₁.os->
   Fr s₁.heap s₁.heap.objs.size s.heap (bindL (envOfC d.name d.scope s₁.heap.objs.size fa cd).kindOf [(x,.ref a)] fun _=>none)->
   Cl s₁.heap.objs.size (cellsFrom (s₁.heap.objs.size+1) d.scope.names []) s.heap (bindC (envOfC d.name d.scope s₁.heap.objs.size fa cd).kindOf [(x,.ref a)] fun _=>none)->
   wpAny (model l.prog w) (callerA.deeper (envOfC d.name d.scope s₁.heap.objs.size fa cd)) (execs d.body (envOfC d.name d.scope s₁.heap.objs.size fa cd))
    (fun f s'=>f = .ret (.bool true)/\OldK s₁.heap s'.heap/\s'.os=s₁.os/\AllBare s'.gens) (fun _ _=>False) s) :
  WalkO q loose XP YP l.row.toRowW d [] (fun f vs=>PySem.call f vs):=by
 intro w s₀ s₁ mg mb G Y fa o pm cd doc dV kV ho hd hcd hD hmg hg args vals as hpre hlay hrd hwl hlo
 obtain rfl:dV = .none:=Dflts.none hD hdf
 obtain rfl:kV = .none:=Dflts.noKw hD
 obtain ⟨a,vs,ns,rfl,rfl,hobj,hints,hlen⟩:=E3 hn hpre hwl
 refine enter_call ?_
 refine call_cells_ret (o:=o) (by rw [depth_caller]; decide) ho (fd_plain hd) G.T.nolimit hcd (hbind pm cd doc (.ref a)) (fun y hy=>?_) (fun h₁ tk F X=>?_) hco hgen hk
 ·obtain rfl:y=(x,Value.ref a):=bd1.mp hy
  rcases hx with e | e
  ·exact .inl e
  ·exact .inr ⟨e,cellsFrom_some _ _ _ (.inl e)⟩
 ·refine bj2 (body w s₀ s₁ { s₁ with heap:=h₁,toks:=tk } mg mb fa o pm cd doc a vs ns G Y ho (fd_plain hd) hcd hmg hobj hints hlen hg rfl F X) (fun f s' hq=>?_) (fun _ _ hq=>hq)
  obtain ⟨rfl,h2,h3,h4⟩:=hq
  exact⟨.inl ⟨.bool true,.bool true,[],rfl,fun _=>rfl,.bool true,E4 l _,fun _=>⟨List.Pairwise.nil,fun _ hm=>(nomatch hm)⟩⟩,h2,h3,h4⟩
theorem ao6 {l:OpenLaw}{n:Nat}{q:Program}{loose:List Str}{XP:(Str->Option Value)->Heap->Prop}{YP:World->Heap->Prop}{d:DefRec}
  (hn:l.most=some n) (hdf:d.params.defaults = [])
  (call:∀ (w:World) (s₀ s₁:Shared) (mg mb:Str->Option Value) (fa:Addr) (o:Obj) (pm cd doc:Value) (a:Addr) (vs:List Value) (ns:List Int),
   Ground q loose [] XP w s₀ mg mb s₁.heap->YP w s₁.heap->
   s₁.heap.get? fa=some o->o.data = .func (docDef d.name d.params d.body d.scope pm cd doc)->s₁.heap.CodeRec cd d.name->mg d.name=some (.ref fa)->
   s₁.heap.get? a=some { cls:=.type "list",data:=.seq vs.toArray }->IntsAre vs ns->ns.length<=n->s₁.gens = #[]->
   codeAny (model l.prog w) callerA (.call (.ref fa) ⟨[.ref a],[]⟩) (fun r s'=>r = .ok (.ret (.bool true))/\OldK s₁.heap s'.heap/\s'.os=s₁.os/\AllBare s'.gens) s₁) :
  WalkO q loose XP YP l.row.toRowW d [] (fun f vs=>PySem.call f vs):=by
 intro w s₀ s₁ mg mb G Y fa o pm cd doc dV kV ho hd hcd hD hmg hg args vals as hpre hlay hrd hwl hlo
 obtain rfl:dV = .none:=Dflts.none hD hdf
 obtain rfl:kV = .none:=Dflts.noKw hD
 obtain ⟨a,vs,ns,rfl,rfl,hobj,hints,hlen⟩:=E3 hn hpre hwl
 refine enter_call (codeAny_mono (call w s₀ s₁ mg mb fa o pm cd doc a vs ns G Y ho (fd_plain hd) hcd hmg hobj hints hlen hg) fun r s' hq=>?_)
 obtain ⟨rfl,h2,h3,h4⟩:=hq
 exact⟨.inl ⟨.bool true,.bool true,[],rfl,fun _=>rfl,.bool true,E4 l _,fun _=>⟨List.Pairwise.nil,fun _ hm=>(nomatch hm)⟩⟩,h2,h3,h4⟩
end Att
namespace L2
open PySem PySem.Spec PyProof.Rows
theorem o9:∀ {vs:List Value}{ns:List Int},IntsAre vs ns->aK (ns.map V.int) vs
 | _,_,.nil=>.nil
 | _,_,.cons n t h=>.cons ⟨t,rfl⟩ (o9 h)
def pY (H:Hp):Prop:=∀ b,H b=none ∨ ∃ o xs,H b=some (.frz o (.lst xs))
theorem ao7 {P:Program}{w:World}{K:PySem.W.Frag}{mg mb:Str->Option Value}{CX:gD}{k:Nat}{fa a:Addr}{fd:FuncData}{x:Str}{sp:Sp}{s₁:Shared}{vs:List Value}{ns:List Int}
  (KX:K.In s₁.heap) (hns:s₁.heap.Ns mainGlobals mg) (hb:s₁.heap.Ns builtinsNs mb) (hbb:∀ x:Str,x ≠ "__name__"->mb x=bootBuiltins x) (hlim:s₁.heap.NoLimit) (hg:s₁.gens = #[])
  (ha:s₁.heap.get? a=some { cls:=.type "list",data:=.seq vs.toArray }) (hi:IntsAre vs ns) (hl:ns.length<=sizeLine) (hr:c8 k callerA)
  (F:∀ base:Heap,K.In base->base.Ns mainGlobals mg->cW P w K mg base CX k fa fd [x] sp) (hbind:∀ (s:Shared) (u:Value),BindsTo s fd ⟨[u],[]⟩ [(x,u)])
  (hsp:∀ H:Hp,pY H->aN K H a (ns.map V.int)->sp [.ref a] H (fun v _=>v = .bl true) fun _ _ _=>False)
  (hCX:∀ H e s',CX [] H s₁ (fun _ _ _=>False) e s'->False) :
  codeAny (model P w) callerA (.call (.ref fa) ⟨[.ref a],[]⟩) (fun r s'=>r = .ok (.ret (.bool true))/\OldK s₁.heap s'.heap/\s'.os=s₁.os/\AllBare s'.gens) s₁:=by
 have rv:=o9 hi
 have lenV:=hi.length
 have core:∀ H:Hp,pY H->aN K H a (ns.map V.int)->bW P w H s₁.heap->(∀ b,H b ≠ none->b=a)->(H a ≠ none->K.lookup a=none)->
   codeAny (model P w) callerA (.call (.ref fa) ⟨[.ref a],[]⟩) (fun r s'=>r = .ok (.ret (.bool true))/\OldK s₁.heap s'.heap/\s'.os=s₁.os/\AllBare s'.gens) s₁:=by
  intro H hO hS hok hA hK
  have base_of:∀ {b:Addr}{o:Obj},s₁.heap.get? b=some o->H b=none->(iZ s₁.heap H).get? b=some o:=fun e n=>ae2 e n
  have noA:∀ {b:Addr}{o:Obj}{es:Array DictEntry}{ep:Nat},s₁.heap.get? b=some o->o.data = .dict es ep->H b=none:=fun {b o es ep} e d=>by
   cases q:H b with
   | none=>rfl
   | some u=>
    have e':b=a:=hA b (by rw [q]; simp)
    subst e'
    rw [ha] at e; cases e
    have d':Data.seq vs.toArray _=Data.dict es ep:=d
    cases d'
  have nsK:∀ {b:Addr}{m:Str->Option Value},s₁.heap.Ns b m->(iZ s₁.heap H).Ns b m:=fun {b m} ⟨o,es,ep,e,d,r⟩=>⟨o,es,ep,base_of e (noA e d),d,r⟩
  have hKb:K.In (iZ s₁.heap H):=fun b o e=>base_of (KX b o e) (by
   cases q:H b with
   | none=>rfl
   | some u=>
    have e':b=a:=hA b (by rw [q]; simp)
    subst e'
    rw [hK (by rw [q]; simp)] at e; cases e)
  have hM:Mod K mg (iZ s₁.heap H):=⟨hKb,nsK hns,⟨mb,nsK hb,hbb⟩,let ⟨mc,h1,h2⟩:=hlim; ⟨mc,nsK h1,h2⟩⟩
  have e0:pR P w K mg (iZ s₁.heap H) callerA [] s₁ H:=⟨rfl,hM,fun b o e=>ae3 e,Nat.le_of_eq (ae1 _ _),trivial,fun b hb=>absurd (show b ∈ ([]:List Addr) from hb) (by simp),hok,.of_eq hg⟩
  refine codeAny_mono ((F _ hKb (nsK hns)).run callerA [] s₁ H ⟨[.ref a],[]⟩ [.ref a] [.ref a] _ _ hr e0 (hbind s₁ (.ref a)) (.cons rfl .nil) (hsp H hO hS)) fun r s' h=>?_
  cases r with
  | error e=>exact (hCX H e s' h).elim
  | ok fl=>
   cases fl with
   | next=>exact False.elim h
   | brk=>exact False.elim h
   | cont=>exact False.elim h
   | ret u=>
    obtain ⟨v,H',os,bare,un,hok',r',q⟩:=h
    have q':v = .bl true:=q
    subst q'
    obtain rfl:u=Value.bool true:=r'
    refine⟨rfl,OldK.of_keep fun b o e=>?_,os,bare⟩
    cases q:H b with
    | none=>exact un.keep b o e q (by intro z; exact absurd (show b ∈ ([]:List Addr) from z) (by simp)) (by simp)
    | some u=>
     rcases hO b with z | ⟨ob,xs,z⟩
     ·rw [q] at z; cases z
     ·have z2:=un.frzs b ob _ z
      obtain ⟨e1,_⟩:=hok b _ z
      obtain ⟨e2,_⟩:=hok' b _ z2
      rw [e] at e1; cases e1
      exact e2
 cases hk:K.lookup a with
 | some o=>
  have e:=KX a o hk
  rw [ha] at e
  cases e
  refine core (fun _=>none) (fun _=>.inl rfl) (.inr ⟨_,vs.toArray,_,hk,rfl,rfl,rfl,by rw [bb9,lenV]; exact hl,by simpa using rv⟩) (fun b u z=>by have z':(none:Option HO)=some u:=z; cases z') (fun b z=>absurd rfl z) fun z=>absurd rfl z
 | none=>
  refine core (fun b=>if b=a then some (.frz { cls:=.type "list",data:=.seq vs.toArray } (.lst (ns.map V.int))) else none) (fun b=>?_) (.inl (.inr ⟨{ cls:=.type "list",data:=.seq vs.toArray },if_pos rfl⟩)) (fun b u z=>?_) (fun b z=>?_) fun _=>hk
  ·by_cases hb:b=a
   ·exact .inr ⟨_,_,if_pos hb⟩
   ·exact .inl (if_neg hb)
  ·by_cases hb:b=a
   ·have z':=(if_pos hb).symm.trans z
    cases z'
    subst hb
    exact⟨ha,by rw [bc4]; exact hl,vs,_,rv,ha⟩
   ·have z':=(if_neg hb).symm.trans z
    cases z'
  ·by_cases hb:b=a
   ·exact hb
   ·exact absurd (if_neg hb) z
theorem ao8 {l:PySem.W.OpenLaw}{n k:Nat}{q:Program}{loose:List Str}{XP:(Str->Option Value)->Heap->Prop}{YP:World->Heap->Prop}{d:DefRec}{K:Params->PySem.W.Frag}{CX:World->gD}{sp:World->Sp}{x:Str}
  (hn:l.most=some n) (hn2:n<=sizeLine) (hdf:d.params.defaults = []) (hr:c8 k callerA)
  (hY:∀ (w:World) (h:Heap),YP w h->(K w.params).In h)
  (F:∀ (w:World) (mg:Str->Option Value) (fa:Addr) (h:Heap),(K w.params).In h->h.Ns mainGlobals mg->mg d.name=some (.ref fa)->
   ∃ fd:FuncData,(∀ (s:Shared) (u:Value),BindsTo s fd ⟨[u],[]⟩ [(x,u)])/\
    ∀ base:Heap,(K w.params).In base->base.Ns mainGlobals mg->cW l.prog w (K w.params) mg base (CX w) k fa fd [x] (sp w))
  (hsp:∀ (w:World) (H:Hp) (a:Addr) (ns:List Int),ns.length<=n->pY H->aN (K w.params) H a (ns.map V.int)->sp w [.ref a] H (fun v _=>v = .bl true) fun _ _ _=>False)
  (hCX:∀ (w:World) (H:Hp) (s:Shared) (e:Value) (s':Shared),CX w [] H s (fun _ _ _=>False) e s'->False) :
  PySem.W.WalkO q loose XP YP l.row.toRowW d [] (fun f vs=>PySem.call f vs):=by
 refine Att.ao6 hn hdf fun w s₀ s₁ mg mb fa o pm cd doc a vs ns G Y ho hd hcd hmg hobj hints hlen hg=>?_
 have KX:=hY w _ Y
 obtain ⟨fd,hb,hF⟩:=F w mg fa _ KX G.T.g hmg
 exact ao7 KX G.T.g G.T.b G.T.builtins G.T.nolimit hg hobj hints (bg0 hlen hn2) hr hF hb (fun H hO hS=>hsp w H a ns hlen hO hS) fun H e s'=>hCX w H s₁ e s'
def iL (s:Stmt):Arguments:=match s with
 | .FunctionDef _ a _ _ _ _ _ _ _ _=>a
 | _=>{ posonlyargs:=[],args:=[],vararg:=none,kwonlyargs:=[],kw_defaults:=[],kwarg:=none,defaults:=[] }
def dZ (s:Stmt):List Stmt:=match s with
 | .FunctionDef _ _ b _ _ _ _ _ _ _=>b
 | _=>[]
def aS (s:Stmt):Scope:=match s with
 | .FunctionDef _ _ _ _ _ _ sc _ _ _=>sc
 | _=>{ kind:=.function,names:=[],isGenerator:=false,isCoroutine:=false }
abbrev dG:gD:=fun _ _ _ _ _ _=>False
abbrev E0:XK:=fun _ _ _=>False
theorem E5 {X:Cx}:nX dG X E0:=fun _ _ _ _ _ _ _ h=>h.elim
structure eS (K:PySem.W.Frag) (x qual:Str) (st:Stmt) (f:Addr) (fd:FuncData):Prop where
 ex:∃ (oc:Value) (od:Option Addr) (kV doc pm:Value) (an:Option Addr) (cdv ct:Value) (osl:Array (Option Value)),
  fd=PySem.W.fnOf x qual (iL st) (dZ st) (aS st) .none kV doc pm an cdv ct/\K.lookup f=some ⟨oc,od,.func fd,osl⟩/\PySem.W.codeIn K cdv qual=true
 kp:PySem.W.keepIn K (.ref f)=true
section
variable {P : Program} {w : World} {K : PySem.W.Frag} {mg : Str → Option Value} {base : Heap}
theorem eS.ok {x qual:Str}{st:Stmt}{f:Addr}{fd:FuncData}{N ps:List Str}{k:Nat}{sp:Sp} (F:eS K x qual st f fd) (S:FnScope N ps (aS st)) (len:∀ vs H Q E,sp vs H Q E->vs.length=ps.length)
  (hbody:∀ (cdv:Value) (A:Around) (outer:List Env) (s:Shared) (H:Hp) (vs:List V) (Q:VK) (E:XK),c8 k (A.deeper (envOfC qual (aS st) s.heap.objs.size f cdv))->sp vs H Q E->
   ∃ t,cY (dA dG P w K mg base N qual (aS st) f cdv A outer s H E).nox (dZ st) t/\t { nx:=fun _ H'=>Q .non H',rt:=Q } (gE N vs) H):cW P w K mg base dG (k+1) f fd ps sp:=by
 obtain ⟨oc,od,kV,doc,pm,an,cdv,ct,osl,rfl,lk,hcd⟩:=F.ex
 refine zT lk hcd S len fun A outer s H vs Q E hr hsp=>?_
 obtain ⟨t,h,q⟩:=hbody cdv A outer s H vs Q E hr hsp
 exact⟨t,h.nox,q⟩
theorem eS.binds {x qual:Str}{st:Stmt}{f:Addr}{fd:FuncData}{ps:List Str} (F:eS K x qual st f fd)
  (h:∀ (kV doc pm:Value) (an:Option Addr) (cdv ct:Value) (us:List Value),us.length=ps.length->bindArgs (PySem.W.fnOf x qual (iL st) (dZ st) (aS st) .none kV doc pm an cdv ct) ⟨us,[]⟩=pure (ps.zip us)):hG K fd ps []:=by
 obtain ⟨oc,od,kV,doc,pm,an,cdv,ct,osl,rfl,lk,hcd⟩:=F.ex
 exact .all (h kV doc pm an cdv ct)
theorem ao9 {x qual:Str}{st:Stmt}{f:Addr}{oc:Value}{od an:Option Addr}{osl:Array (Option Value)}{kV doc pm cdv ct:Value} (l:K.lookup f=some ⟨oc,od,.func (PySem.W.fnOf x qual (iL st) (dZ st) (aS st) .none kV doc pm an cdv ct),osl⟩)
  (c:PySem.W.codeIn K cdv qual=true) (k:PySem.W.keepIn K (.ref f)=true):eS K x qual st f (PySem.W.fnOf x qual (iL st) (dZ st) (aS st) .none kV doc pm an cdv ct):=⟨⟨oc,od,kV,doc,pm,an,cdv,ct,osl,rfl,l,c⟩,k⟩
end
theorem gH {A:Around}{k:Nat} (hr:c8 k A):A.units+1 < cLine:=Nat.lt_of_le_of_lt (Nat.add_le_add_left (by decide:1<=64) _) hr.units
theorem oA {n:Nat} (h:n<=1000):n < sizeLine:=Nat.lt_of_le_of_lt h (by decide)
section
variable {X : Cx}
theorem pv (i:Nat) {x:Str}{pos:Pos} (hN:X.N[i]? = some x:=by rfl) (hv:eD X.env.scope x:=by first | exact Or.inl rfl | exact Or.inr (Or.inl rfl) | exact Or.inr (Or.inr rfl)) (hd:(x == ("__debug__" : Str))=false:=by decide)
  (hcd:(x == ("__classdict__" : Str))=false:=by decide):PE X (.Name x pos) (eF i):=fG hN hv hd hcd
theorem ap0:cZ X (.builtin "len") (fun xs H Q=>∃ a kvs,xs = [V.ref a]/\H a=some (.dK kvs)/\Q (.int kvs.length) H):=by
 intro pins s σ H xs us Q I r h
 obtain ⟨a,kvs,rfl,ha,q⟩:=h
 obtain ⟨u,rfl,ru⟩:=gC r
 cases ru
 exact an5 I (.inl ha) fun t s' I'=>⟨.int kvs.length,H,I',⟨t,rfl⟩,q⟩
end
theorem aR {A B:Prop} (h:B):if false=true then A else B:=by
 rw [if_neg be5]
 exact h
theorem aV {A B:Prop} (h:A):if true=true then A else B:=by
 rw [if_pos rfl]
 exact h
def aD (H H':Hp):Prop:=∀ b o,H b=some o->H' b=some o
theorem aD.refl (H:Hp):aD H H:=fun _ _ h=>h
theorem aD.trans {H H1 H2:Hp} (a:aD H H1) (b:aD H1 H2):aD H H2:=fun c o h=>b c o (a c o h)
theorem aD.free {H H':Hp} (e:aD H H') {l:Addr} (h:H' l=Option.none):H l=Option.none:=by
 cases q:H l with
 | none=>rfl
 | some o=>
  rw [e l o q] at h
  cases h
theorem aD.seq {K:PySem.W.Frag}{H H':Hp}{a:Addr}{xs:List V} (e:aD H H') (h:aN K H a xs):aN K H' a xs:=by
 rcases h with (h | ⟨o,h⟩) | h
 ·exact .inl (.inl (e _ _ h))
 ·exact .inl (.inr ⟨o,e _ _ h⟩)
 ·exact .inr h
def eI (cells:List (Str × Addr)):List (Str × NameKind)->List (Str × Addr)->List (Str × Addr)
 | [],cs=>cs
 | (n,k) :: r,cs=>eI cells r (if k == .free then (n,(cells.lookup n).getD 0) :: cs else cs)
theorem uQ {env:Env}:∀ (ns:List (Str × NameKind)) (cs:List (Str × Addr)),(∀ x ∈ ns,x.2 = .free->∃ c,env.cells.lookup x.1=some c)->
  (forIn ns cs (fun (x:Str × NameKind) r=>(match x with
   | (name,kind)=>if (kind == .free)=true then (do let y <- cellOf env name; pure (ForInStep.yield ((name,y) :: r))) else pure (ForInStep.yield r)):_->_->Sem _))=(pure (eI env.cells ns cs):Sem (List (Str × Addr)))
 | [],cs,_=>by rw [List.forIn_nil]; rfl
 | (n,k) :: r,cs,h=>by
  rw [List.forIn_cons]
  have hr:∀ x ∈ r,x.2 = .free->∃ c,env.cells.lookup x.1=some c:=fun x hx=>h x (be4 _ hx)
  cases hk:(k == NameKind.free) with
  | true=>
   have e:k = .free:=by simpa using hk
   obtain ⟨c,hc⟩:=h (n,k) bd0 e
   simp only [hk,if_true]
   have e1:cellOf env n=pure c:=by unfold cellOf; rw [hc]
   rw [e1]
   show ((pure c >>= fun y=>pure (ForInStep.yield ((n,y) :: cs))) >>= _:Sem _)=_
   rw [pure_bind,pure_bind]
   have:=uQ (env:=env) r ((n,c) :: cs) hr
   refine this.trans ?_
   unfold eI
   simp only [hk,if_true,hc,Option.getD_some]
   cases r <;> rfl
  | false=>
   simp only [hk,be3,bi9]
   rw [pure_bind]
   have:=uQ (env:=env) r cs hr
   refine this.trans ?_
   conv=>rhs; unfold eI
   simp only [hk,be3,bi9]
theorem pZ {scope:Scope}{env:Env} (h:∀ x ∈ scope.names,x.2 = .free->∃ c,env.cells.lookup x.1=some c):closureFor scope env=pure (eI env.cells scope.names []):=by
 have e:=uQ (env:=env) scope.names [] h
 unfold closureFor
 rw [show (pure (eI env.cells scope.names []):Sem (List (Str × Addr)))=(pure (eI env.cells scope.names []) >>= pure) by rw [pure_bind]]
 rw [<- e]
theorem qA {cells:List (Str × Addr)}:∀ (ns:List (Str × NameKind)) (cs:List (Str × Addr)) {x:Str}{c:Addr},(∀ y ∈ ns,y.2 = .free->∃ c,cells.lookup y.1=some c)->
  (∀ x c,cs.lookup x=some c->cells.lookup x=some c)->(eI cells ns cs).lookup x=some c->cells.lookup x=some c
 | [],cs,x,c,_,hc,h=>hc x c h
 | (n,k) :: r,cs,x,c,hn,hc,h=>by
  unfold eI at h
  have hr:∀ y ∈ r,y.2 = .free->∃ c,cells.lookup y.1=some c:=fun y hy=>hn y (be4 _ hy)
  cases hk:(k == NameKind.free) with
  | false=>
   simp only [hk,be3,bi9] at h
   exact qA r cs hr hc h
  | true=>
   simp only [hk,if_true] at h
   refine qA r _ hr (fun y d e=>?_) h
   obtain ⟨c0,h0⟩:=hn (n,k) bd0 (by simpa using hk)
   have h0:cells.lookup n=some c0:=h0
   rw [h0] at e
   rw [bi7] at e
   by_cases hyn:y=n
   ·subst hyn
    simp only [bk4,Option.getD_some] at e
    rw [h0]; exact e
   ·have:(y == n)=false:=bn0.mpr hyn
    simp only [this] at e
    exact hc y d e
theorem uR {cells:List (Str × Addr)}:∀ (ns:List (Str × NameKind)) (cs:List (Str × Addr)) {x:Str},((x,NameKind.free) ∈ ns ∨ ∃ c,cs.lookup x=some c)->∃ c,(eI cells ns cs).lookup x=some c
 | [],cs,x,h=>by
  rcases h with h | h
  ·simp at h
  ·exact h
 | (n,k) :: r,cs,x,h=>by
  unfold eI
  refine uR r _ ?_
  rcases h with h | ⟨c,h⟩
  ·rcases bc5.mp h with e | e
   ·cases e
    exact .inr ⟨_,by simp [bi7]; rfl⟩
   ·exact .inl e
  ·right
   cases hk:(k == NameKind.free) with
   | false=>exact⟨c,by simpa [hk] using h⟩
   | true=>
    simp only [if_true]
    rw [bi7]
    by_cases hxn:(x == n)=true
    ·simp only [hxn]; exact⟨_,rfl⟩
    ·simp only [bm5.mpr hxn]; exact⟨c,h⟩
theorem qB {env:Env}:∀ {names:List (Str × NameKind)}{x:Str}{k:NameKind},(names.map fun (n,k)=>if (k == NameKind.free && env.scope.kind == .function && env.kindOf n == some .cell) then (n,NameKind.cell) else (n,k)).lookup x=some k->
  names.lookup x=some k ∨ (names.lookup x=some .free/\k = .cell)
 | [],_,_,h=>by simp at h
 | (n,q) :: r,x,k,h=>by
  have ih:=@qB env r x k
  rw [bh4] at h
  by_cases hx:(x == n)=true
  ·have e:x=n:=by simpa using hx
   subst e
   by_cases hc:(q == NameKind.free && env.scope.kind == .function && env.kindOf x == some .cell)=true
   ·simp only [hc,if_true,bi7,bk4] at h
    have hq:q = .free:=by simp at hc; exact hc.1.1
    exact .inr ⟨by simp [bi7,hq],(be8 h).symm⟩
   ·simp only [hc,be3,bi9,bi7,bk4] at h
    exact .inl (by simp [bi7]; exact be8 h)
  ·have hx':(x == n)=false:=bm5.mpr hx
   have h':(r.map fun (n,k)=>if (k == NameKind.free && env.scope.kind == .function && env.kindOf n == some .cell) then (n,NameKind.cell) else (n,k)).lookup x=some k:=by
    by_cases hc:(q == NameKind.free && env.scope.kind == .function && env.kindOf n == some .cell)=true
    ·simp only [hc,if_true,bi7,hx'] at h; exact h
    ·simp only [hc,be3,bi9,bi7,hx'] at h; exact h
   simp only [bi7,hx']
   exact ih h'
def e8 (fr:List (Option Nat)) (σ:St):St:=fr.map fun o=>o.bind fun j=>(σ[j]?).join
def Wk (σ₁ σ₂:St):Prop:=σ₁.length=σ₂.length/\∀ (i:Nat) v,σ₁[i]? = some (some v)->σ₂[i]? = some (some v)
theorem Wk.refl (σ:St):Wk σ σ:=⟨rfl,fun _ _ h=>h⟩
theorem Wk.set {σ τ:St}{i:Nat}{v:V} (h:Wk σ τ) (hi:σ[i]? = some none):Wk σ (τ.set i (some v)):=by
 refine⟨by rw [bg1]; exact h.1,fun j w e=>?_⟩
 by_cases hj:j=i
 ·subst hj; rw [hi] at e; cases e
 ·rw [bd7 (Ne.symm hj)]; exact h.2 j w e
theorem j9:∀ (ns:List (Str × NameKind)) (n:Nat) (cs:List (Str × Addr)),cellsFrom n ns cs=cellsFrom n ns [] ++ cs
 | [],_,_=>rfl
 | (x,k) :: r,n,cs=>by
  unfold cellsFrom
  split
  ·rw [j9 r (n+1) ((x,n) :: cs),j9 r (n+1) [(x,n)]]; simp
  ·exact j9 r n cs
theorem uS:∀ (ns:List (Str × NameKind)) (n:Nat) {x:Str}{c:Addr},(x,c) ∈ cellsFrom n ns []->(x,NameKind.cell) ∈ ns
 | [],_,_,_,h=>by simp [cellsFrom] at h
 | (y,k) :: r,n,x,c,h=>by
  unfold cellsFrom at h
  split at h
  ·rename_i hk
   rw [j9] at h
   rcases bf0.mp h with z | z
   ·exact be4 _ (uS r _ z)
   ·rw [bd1] at z
    cases z
    have:k = .cell:=by simpa using hk
    rw [this]; exact bd0
  ·exact be4 _ (uS r _ h)
theorem qD:∀ (ns:List (Str × NameKind)) (n:Nat) {x:Str},(x,NameKind.cell) ∈ ns->∃ c,(x,c) ∈ cellsFrom n ns []
 | (y,k) :: r,n,x,h=>by
  unfold cellsFrom
  rcases bc5.mp h with z | z
  ·cases z
   rw [if_pos (by rfl),j9]
   exact⟨n,bd9 _ (by simp)⟩
  ·split
   ·obtain ⟨c,hc⟩:=qD r (n+1) z
    rw [j9]
    exact⟨c,bg3 _ hc⟩
   ·exact qD r n z
theorem uT {α:Type}:∀ {l:List (Str × α)}{x:Str}{c:α},(x,c) ∈ l->∃ d,l.lookup x=some d
 | (y,v) :: r,x,c,h=>by
  rw [bi7]
  cases hb:x == y with
  | true=>exact⟨v,rfl⟩
  | false=>
   rcases bc5.mp h with z | z
   ·cases z; simp at hb
   ·exact uT z
theorem qE {α:Type}{x:Str}:∀ (l r:List (Str × α)),(l ++ r).lookup x=(match l.lookup x with | some v=>some v | none=>r.lookup x)
 | [],_=>rfl
 | (y,v) :: l,r=>by
  rw [List.cons_append,bi7,bi7]
  cases hb:x == y with
  | true=>rfl
  | false=>exact qE l r
def gI (X:Cx) (scope:Scope) (C:Addr):List (Str × Addr):=cellsFrom (C+1) scope.names (eI X.env.cells scope.names [])
theorem kT {X:Cx}{scope:Scope}{C:Addr}{x:Str}{c:Addr} (h:(gI X scope C).lookup x=some c) :
  (x,c) ∈ cellsFrom (C+1) scope.names [] ∨ ((∀ d,(x,d) ∉ cellsFrom (C+1) scope.names [])/\(eI X.env.cells scope.names []).lookup x=some c):=by
 unfold gI at h
 rw [j9,qE] at h
 cases e:(cellsFrom (C+1) scope.names []).lookup x with
 | some v=>rw [e] at h; cases h; exact .inl (bh5 e)
 | none=>
  rw [e] at h
  refine .inr ⟨fun d hd=>?_,h⟩
  obtain ⟨d',z⟩:=uT hd
  rw [e] at z; cases z
theorem ap1 {X:Cx}{scope:Scope}{C:Addr}{x:Str}{c:Addr} (hn:(x,NameKind.cell) ∉ scope.names) (h:(eI X.env.cells scope.names []).lookup x=some c):(gI X scope C).lookup x=some c:=by
 unfold gI
 rw [j9,qE]
 cases e:(cellsFrom (C+1) scope.names []).lookup x with
 | some v=>exact absurd (uS _ _ (bh5 e)) hn
 | none=>exact h
theorem E6 {X:Cx}{scope:Scope}{C:Addr}{x:Str} (h:(x,NameKind.cell) ∈ scope.names ∨ ∃ c,(eI X.env.cells scope.names []).lookup x=some c):∃ c,(gI X scope C).lookup x=some c:=by
 unfold gI
 rw [j9,qE]
 cases e:(cellsFrom (C+1) scope.names []).lookup x with
 | some v=>exact⟨v,rfl⟩
 | none=>
  rcases h with h | h
  ·obtain ⟨c,hc⟩:=qD scope.names (C+1) h
   obtain ⟨d,hd⟩:=uT hc
   rw [e] at hd; cases hd
  ·exact h
def b9 (X:Cx) (scope:Scope) (N:List Str) (s:Shared) (H:Hp) (C:Addr) (fp:List Addr) (E:Value->Shared->Prop):Cx:=
 { X with N:=N,s₀:=s,H₀:=H,env:=compEnvC scope (gI X scope C) C X.env,outer:=X.stack,ex:=fp,fn:=fun x=>scope.names.lookup x == some .cell,pn:=[],xe:=E }
structure cA (X:Cx) (scope:Scope) (N:List Str) (fr:List (Option Nat)):Prop where
 kind:scope.kind = .function
 own:∀ y ∈ scope.names,y.2 = .cell->scope.names.lookup y.1=some .cell
 names:∀ y ∈ scope.names,y.2 = .local->scope.names.lookup y.1=some .local
 free:∀ y ∈ scope.names,y.2 = .free->X.env.scope.names.lookup y.1=some .cell ∨ X.env.scope.names.lookup y.1=some .free
 len:fr.length=N.length
 from_:∀ (i j:Nat),fr[i]? = some (some j)->∃ x,N[i]? = some x/\X.N[j]? = some x/\scope.names.lookup x=some .free
section
variable {X : Cx} {pins : List (Addr × Obj)} {σ : St} {H : Hp} {s : Shared} {scope : Scope} {N : List Str} {fr : List (Option Nat)}
theorem cA.cells (S:cA X scope N fr) (I:a8 X pins σ H s):∀ y ∈ scope.names,y.2 = .free->∃ c,X.env.cells.lookup y.1=some c:=fun y hy hk=>I.ok.has y.1 (S.free y hy hk)
theorem ap2 {C D:Addr}{fp:List Addr}{E:Value->Shared->Prop}{h1:Heap}{tk:Nat}{m:Str->Option Value} (S:cA X scope N fr) (I:a8 X pins σ H s)
  (hf:∀ b ∈ fp,gA X pins H b) (hfl:∀ b ∈ fp,b < s.heap.objs.size) (hD:s.heap.objs.size<=D) (hC:s.heap.objs.size<=C) (hDC:D < C)
  (old:∀ b o,s.heap.get? b=some o->h1.get? b=some o) (hns:h1.Ns C m) (hacc:h1.get? D=some { cls:=.type "list",data:=.seq #[] 0 }) (hco:CellsOk h1 (C+1) (cellsFrom (C+1) scope.names [])) :
  a8 (b9 X scope N s H C fp E) [] (e8 fr σ) (upd H D (.lst [])) { s with heap:=h1,toks:=tk }:=by
 have hHD:H D=none:=I.hok.fresh hD
 have cl:=S.cells I
 have cs:∀ {x:Str}{c:Addr},(eI X.env.cells scope.names []).lookup x=some c->X.env.cells.lookup x=some c:=fun {x c} h=>qA scope.names [] cl (fun _ _ z=>by simp at z) h
 have clt:∀ {x:Str}{c:Addr},X.env.cells.lookup x=some c->c < s.heap.objs.size:=fun {x c} h=>by obtain ⟨v,z⟩:=I.cell x c h; exact z.lt
 have nge:∀ {x:Str}{c:Addr},(x,c) ∈ cellsFrom (C+1) scope.names []->C < c:=fun {x c} h=>(hco.empty x c h).2
 refine⟨⟨I.ok.mod,?_,I.ok.glob,I.ok.blt,hC,?_,?_,?_,I.ok.hd,I.ok.frames,.inl rfl,?_,I.bs,bg0 I.ok.bsz I.sz,?_,?_,I.stack,I.stkFree⟩,rfl,I.bare,Un.laid old hD hHD,⟨m,hns,?_⟩,?_,?_,?_,fun p hp=>absurd (show p ∈ ([]:List (Addr × Obj)) from hp) (by simp),?_,?_⟩
 ·exact S.kind
 ·intro x y c h1 h2
  rcases kT h1 with a | ⟨_,a⟩ <;> rcases kT h2 with b | ⟨_,b⟩
  ·exact name_of_addr hco.apart a b
  ·exact absurd (bd5 (Nat.lt_trans (nge a) (clt (cs b))) hC) (bh7 _)
  ·exact absurd (bd5 (Nat.lt_trans (nge b) (clt (cs a))) hC) (bh7 _)
  ·exact I.ok.inj x y c (cs a) (cs b)
 ·intro x hx
  have hx:(relabel scope X.env).names.lookup x=some .cell ∨ (relabel scope X.env).names.lookup x=some .free:=hx
  have fin:(x,NameKind.free) ∈ scope.names->∃ c,(gI X scope C).lookup x=some c:=fun z=>E6 (.inr (uR scope.names [] (.inl z)))
  rcases hx with hx | hx
  ·rcases qB hx with z | z
   ·exact E6 (.inl (bh5 z))
   ·exact fin (bh5 z.1)
  ·rcases qB hx with z | z
   ·exact fin (bh5 z)
   ·exact absurd z.2 (by decide)
 ·intro x c hx h
  have hx:(scope.names.lookup x == some NameKind.cell)=true:=hx
  have hx:scope.names.lookup x=some .cell:=by simpa using hx
  rcases kT h with a | ⟨a,_⟩
  ·exact bg0 hC (bi2 (nge a))
  ·obtain ⟨d,hd⟩:=qD scope.names (C+1) (bh5 hx)
   exact absurd hd (a d)
 ·intro b hb
  refine⟨bf4 (bd5 (hfl b hb) hC),fun x c e=>?_⟩
  rcases kT e with a | ⟨_,a⟩
  ·exact bk2 (Nat.lt_trans (bd5 (hfl b hb) hC) (nge a))
  ·exact (hf b hb).2.2.2.2.1 x c (cs a)
 ·intro b o e hb
  rcases (hf b hb).2.2.2.1 with z | z
  ·exact I.ok.noex b o e z
  ·exact absurd (bd5 (bd3 e) (bg0 I.ok.bsz z)) (bh7 _)
 ·intro b hb z
  rcases bc5.mp (I.stkSub b z) with e | e
  ·exact (hf b hb).2.1 e
  ·exact (hf b hb).2.2.1 e
 ·intro i x v e1 e2 e3
  have e2:(fr.map fun o=>o.bind fun j=>(σ[j]?).join)[i]? = some (some v):=e2
  rw [bc9] at e2
  cases ef:fr[i]? with
  | none=>rw [ef] at e2; cases e2
  | some o=>
   rw [ef] at e2
   cases o with
   | none=>cases e2
   | some j=>
    have e2:some ((σ[j]?).join)=some (some v):=e2
    have ej:σ[j]? = some (some v):=by
     cases q:σ[j]? with
     | none=>rw [q] at e2; cases e2
     | some w=>rw [q] at e2; cases w with
      | none=>cases e2
      | some w=>cases e2; rfl
    obtain ⟨y,a1,a2,a4⟩:=S.from_ i j ef
    have e1:N[i]? = some x:=e1
    rw [e1] at a1
    cases a1
    have a3:(x,NameKind.free) ∈ scope.names:=bh5 a4
    have vis:eD X.env.scope x:=(S.free _ a3 rfl).elim (fun z=>.inr (.inl z)) fun z=>.inr (.inr z)
    obtain ⟨m0,hn0,hl0⟩:=I.loc
    obtain ⟨u,r,l⟩:=hl0 j x v a2 ej vis
    refine⟨u,r,.inr ⟨?_,?_⟩⟩
    ·have e3:(relabel scope X.env).names.lookup x=some .local ∨ (relabel scope X.env).names.lookup x=some .cell ∨ (relabel scope X.env).names.lookup x=some .free:=e3
     rcases e3 with z | z | z
     ·rcases qB z with y | y
      ·rw [a4] at y; cases y
      ·exact absurd y.2 (by decide)
     ·exact .inl z
     ·exact .inr z
    ·obtain ⟨c,hc⟩:=uR (cells:=X.env.cells) scope.names [] (x:=x) (.inl a3)
     refine⟨c,ap1 (fun z=>by have:=S.own _ z rfl; rw [a4] at this; cases this) hc,?_⟩
     have hc':=cs hc
     have S1:=S.free (x,.free) a3 rfl
     rcases l with ⟨k,_⟩ | ⟨_,c2,hc2,z⟩
     ·have k:X.env.scope.names.lookup x=some .local:=k
      rcases S1 with q | q <;> (have q:X.env.scope.names.lookup x=_:=q; rw [k] at q; cases q)
     ·rw [hc'] at hc2; cases hc2
      obtain ⟨oc,ho,hd⟩:=z
      exact⟨oc,old c oc ho,hd⟩
 ·intro x c e
  rcases kT e with a | ⟨_,a⟩
  ·exact⟨_,(hco.empty x c a).1⟩
  ·obtain ⟨v,oc,ho,hd⟩:=I.cell x c (cs a)
   exact⟨v,oc,old c oc ho,hd⟩
 ·show upd H D (.lst []) C=none
  rw [aL (bk2 hDC)]; exact I.hok.fresh hC
 ·intro x c e
  show upd H D (.lst []) c=none
  rcases kT e with a | ⟨_,a⟩
  ·rw [aL (bk2 (Nat.lt_trans hDC (nge a)))]; exact I.hok.fresh (bg0 hC (bi2 (nge a)))
  ·have q:=cs a
   rw [aL (bf4 (bd5 (clt q) hD))]
   exact I.freeC x c q
 ·exact I.hok.laid old hD ⟨bh2 _,[],0,.nil,hacc⟩
 ·show (e8 fr σ).length=N.length
  unfold e8; rw [bc4]; exact S.len
end
def jA (X:Cx) (ifs:List Expr) (t:TT):Prop:=
 ∀ (pins:List (Addr × Obj)) (s:Shared) (σ:St) (H:Hp) (Q:Bool->Hp->Prop),a8 X pins σ H s->t σ H Q->
  wpAny (model X.prog X.w) X.A (forIn ifs true fun c r=>if r=true then do let ok <- isTrue c X.env (eval c X.env); pure (ForInStep.yield ok) else pure (ForInStep.yield r)) (TP X pins σ Q) X.xe s
def uU:TT:=fun _ H Q=>Q true H
theorem qF {X:Cx}:jA X [] uU:=fun _ _ _ H _ I h=>wpAny_tests_nil ⟨H,I,h⟩
theorem oB {X:Cx}{c:Expr}{t:TT} (h:PT X c t):jA X [c] t:=fun pins s σ H Q I hq=>wpAny_tests_one (h pins s σ H Q I hq)
section
variable {prog : Program} {w : World} {A : Around}
def uV (prog:Program) (w:World) (A:Around) (elt tg:Expr) (ifs:List Expr) (it acc:Value) (env:Env) (lost:Value->Shared->Prop) (stop next:Shared->Prop) (s:Shared):Prop:=
 let M:=model prog w
 let tests:Sem Bool:=forIn ifs true fun c r=>if r=true then do let ok <- isTrue c env (eval c env); pure (ForInStep.yield ok) else pure (ForInStep.yield r)
 let put:Shared->Prop:=wpAny M A (eval elt env) (fun x=>wpAny M A (call (.builtin "list.append") [acc,x]) (fun _=>next) lost) lost
 let taken:Value->Shared->Prop:=fun v=>wpAny M A (letOwnedTupleGo tg it v) (fun _=>wpAny M A (assign tg env v) (fun _=>wpAny M A tests (fun ok s'=>if ok=true then put s' else next s') lost) lost) lost
 wpAny M A (pyNext it) (fun r s'=>match r with
  | none=>stop s'
  | some v=>taken v s') lost s
theorem ap3 {R:Result->Shared->Prop}{s:Shared}{elt tg iter:Expr}{ifs:List Expr}{scope:Scope}{pos:Pos}{it acc:Value}{env:Env} (I:Nat->Shared->Prop)
  (turn:∀ n s,I n s->uV prog w A elt tg ifs it acc env (notedBy (model prog w) A env fun e=>R (.error e)) (R (.ok .next)) (fun s'=>∃ m,m < n/\I m s') s) (n:Nat) (h:I n s) :
  codeAny (model prog w) A (.compLoop (.ListComp elt [⟨tg,iter,ifs,0⟩] scope pos) 0 it acc env) R s:=by
 apply codeAny_loop rfl I _ n h
 intro k s1 h1
 change wpAny _ A ((compTurn _ 0 it acc env).onRaise (fun x=>do noteFrame x env; theTreesLotGoes x)) _ _ s1
 apply wpAny_noted
 rw [compTurn_list]
 have t:=turn k s1 h1
 unfold uV at t
 apply bb7
 apply wpAny_standAt
 apply bb7
 refine bj2 t (fun r s2 h2=>?_) fun _ _ z=>z
 cases r with
 | none=>exact bc3 h2
 | some v=>
  apply bb7
  refine bj2 h2 (fun _ s3 h3=>?_) fun _ _ z=>z
  apply bb7
  refine bj2 h3 (fun _ s4 h4=>?_) fun _ _ z=>z
  apply bb7
  refine bj2 h4 (fun ok s5 h5=>?_) fun _ _ z=>z
  cases ok with
  | false=>exact bc3 ⟨rfl,h5⟩
  | true=>
   apply bb7
   apply bb7
   refine bj2 h5 (fun x s6 h6=>?_) fun _ _ z=>z
   apply bb7
   exact bj2 h6 (fun _ s7 h7=>bc3 (bc3 ⟨rfl,h7⟩)) fun _ _ z=>z
end
def oC (g:TG) (tc:TT) (te:TE) (σ0:St) (J:It) (D:Addr) (Q:VK) (W:Nat->Nat->List V->Hp->Prop):Prop:=
 ∀ i m acc H',W i m acc H'->H' D=some (.lst acc)/\((J.stop i H'/\Q (.ref D) H') ∨ (J.go i H'/\∀ x H2,J.yld i H' x H2->g x σ0 H2 fun σ2 H3=>Wk σ0 σ2/\tc σ2 H3 fun b H4=>
  if b=true then te σ2 H4 fun v H5=>H5 D=some (.lst acc)/\acc.length < sizeLine/\∃ m',m' < m/\W (i+1) m' (acc ++ [v]) (upd H5 D (.lst (acc ++ [v]))) else ∃ m',m' < m/\W (i+1) m' acc H4))
def E7 (wi:TI) (fr:List (Option Nat)) (g:TG) (tc:TT) (te:TE):TE:=fun σ H Q=>wi σ H fun J H1=>∀ D,H1 D=none->
 ∃ W:Nat->Nat->List V->Hp->Prop,(∃ m,W 0 m [] (upd H1 D (.lst [])))/\oC g tc te (e8 fr σ) J D Q W
section
variable {M : Model} {A : Around} {E : Value → Shared → Prop} {s : Shared}
theorem ap4 {scope:Scope}{globals:Addr}{cl:List (Str × Addr)}{qual:Str}{func:Option Addr}{code:Value}{builtins:Addr}{outer:Env}{Q:Env->Shared->Prop}
  (hQ:∀ h',h'.Ns s.heap.objs.size (fun _=>none)->(∀ b o,s.heap.get? b=some o->h'.get? b=some o)->CellsOk h' (s.heap.objs.size+1) (cellsFrom (s.heap.objs.size+1) scope.names [])->
   Q (newEnv scope s.heap.objs.size globals (cellsFrom (s.heap.objs.size+1) scope.names cl) qual func code (some outer) builtins) { s with heap:=h' }) :
  wpAny M A (newFunctionEnv scope globals cl [] qual func code (some outer) builtins) Q E s:=by
 simp only [newFunctionEnv,Option.isSome_some,if_true]
 refine bb7 (wpAny_alloc ?_)
 refine bb7 (wpAny_layCells _ (fun name kind cells=>by cases hkc:kind == NameKind.cell <;> simp [hkc]) _ _ _ _ ?_)
 have ok:=cellsFrom_ok scope.names (s.heap.push { cls:=.type "dict",data:=.dict #[] }) (s.heap.objs.size+1) [] ⟨fun _ _ hm=>(nomatch hm),List.Pairwise.nil⟩ (by rw [bm6]; exact bc1 _)
 rw [bm6] at ok
 rw [show ({ s with heap:=s.heap.push { cls:=.type "dict",data:=.dict #[] } }:Shared).heap.objs.size=s.heap.objs.size+1 from bm6 ..]
 rw [List.forIn_nil]
 refine bb7 (bc3 (bc3 (hQ _ ((Heap.Ns.new s.heap (.type "dict")).keeps (pushCells_keeps _ _)) (fun b o e=>pushCells_keeps _ _ b o (bb8 _ e)) ok)))
end
section
variable {X : Cx} {pins : List (Addr × Obj)} {σ : St} {H : Hp} {s : Shared} {scope : Scope} {N : List Str} {fr : List (Option Nat)} {tg iter elt : Expr} {ifs : List Expr} {pos : Pos} {wi : TI} {g : TG} {tc : TT} {te : TE}
structure kU (X:Cx) (scope:Scope) (N:List Str) (tg:Expr) (ifs:List Expr) (elt:Expr) (s:Shared) (H:Hp) (g:TG) (tc:TT) (te:TE):Prop where
 tg:∀ (C:Addr) (fp:List Addr),PG (b9 X scope N s H C fp fun _ _=>False) tg g
 ifs:∀ (C:Addr) (fp:List Addr),jA (b9 X scope N s H C fp fun _ _=>False) ifs tc
 elt:∀ (C:Addr) (fp:List Addr),PE (b9 X scope N s H C fp fun _ _=>False) elt te
structure qG (X:Cx) (scope:Scope) (N:List Str) (tg:Expr) (ifs:List Expr) (elt:Expr) (g:TG) (tc:TT) (te:TE):Prop where
 tg:∀ (s:Shared) (H:Hp) (C:Addr) (fp:List Addr),PG (b9 X scope N s H C fp fun _ _=>False) tg g
 ifs:∀ (s:Shared) (H:Hp) (C:Addr) (fp:List Addr),jA (b9 X scope N s H C fp fun _ _=>False) ifs tc
 elt:∀ (s:Shared) (H:Hp) (C:Addr) (fp:List Addr),PE (b9 X scope N s H C fp fun _ _=>False) elt te
theorem qG.at (B:qG X scope N tg ifs elt g tc te) (s:Shared) (H:Hp):kU X scope N tg ifs elt s H g tc te:=⟨B.tg s H,B.ifs s H,B.elt s H⟩
theorem ap5 {C:Addr}{fp:List Addr}{E:Value->Shared->Prop}{pins':List (Addr × Obj)}{σ':St}{H':Hp}{s':Shared} (I:a8 X pins σ H s) (hf:∀ b ∈ fp,gA X pins H b) (I':a8 (b9 X scope N s H C fp E) pins' σ' H' s'):a8 X pins σ H' s':=
 I.call' (ch:=fp) I'.os I'.base I'.hok I'.bare fun b hb=>⟨(hf b hb).2.2.2.1,(hf b hb).2.1,(hf b hb).2.2.2.2.1,(hf b hb).2.2.2.2.2⟩
theorem qH {Rr:Value->Addr->Result->Shared->Prop}{J:It}{fp:List Addr}{it:Addr}{tn:Nat->Heap->Prop}{Q:VK}
  (hc:X.calm=true) (S:cA X scope N fr) (B:kU X scope N tg ifs elt s H g tc te) (I:a8 X pins σ H s) (T:gB X.prog X.w X.K tg J fp it tn) (hst:tn 0 s.heap) (hf:∀ b ∈ fp,gA X pins H b)
  (h:∀ D,H D=none->∃ W:Nat->Nat->List V->Hp->Prop,(∃ m,W 0 m [] (upd H D (.lst [])))/\oC g tc te (e8 fr σ) J D Q W)
  (hend:∀ (D C:Addr) (s':Shared) (H':Hp) (m:Str->Option Value),s.heap.objs.size<=C->s.heap.objs.size<=D->a8 X pins σ H' s'->s'.heap.Ns C m->H' C=none->Q (.ref D) H'->Rr (.ref D) C (.ok .next) s') :
  wpAny (model X.prog X.w) X.A (newList []) (fun acc s₃=>wpAny (model X.prog X.w) X.A (newFunctionEnv scope X.env.globals (eI X.env.cells scope.names []) [] X.env.qual none .none (some X.env)) (fun cenv s₄=>
   codeAny (model X.prog X.w) X.A (.compStart (.ListComp elt [⟨tg,iter,ifs,0⟩] scope pos) 0 (.ref it) acc { cenv with scope:=relabel scope X.env }) (Rr acc cenv.locals) s₄) X.xe s₃) X.xe s:=by
 refine bk0 (ap4 (fun h₁ hns₁ keep₁ hco₁=>?_))
 dsimp only at hns₁ keep₁ hco₁ ⊢
 generalize hH2:s.heap.push { cls:=.type "list",dict:=none,data:=.seq ([]:List Value).toArray }=H2 at hns₁ keep₁ hco₁ ⊢
 have hC:H2.objs.size=s.heap.objs.size+1:=by rw [<- hH2,bm6]
 have hDC:s.heap.objs.size < H2.objs.size:=by rw [hC]; exact Nat.lt_succ_self _
 have hCle:s.heap.objs.size<=H2.objs.size:=by rw [hC]; exact Nat.le_succ _
 have old:∀ b o,s.heap.get? b=some o->h₁.get? b=some o:=fun b o e=>keep₁ b o (hH2 ▸ bb8 _ e)
 have hacc:h₁.get? s.heap.objs.size=some { cls:=.type "list",data:=.seq #[] 0 }:=keep₁ _ _ (hH2 ▸ bd2 _ rfl)
 have hfl:∀ b ∈ fp,b < s.heap.objs.size:=fun b hb=>by obtain ⟨o,e,_⟩:=T.obj _ _ hst b hb; exact bd3 e
 obtain ⟨W,⟨m0,w0⟩,turn⟩:=h s.heap.objs.size (I.hok.fresh (bc1 _))
 have st1:tn 0 h₁:=T.keep _ _ _ hst fun b _ o e=>old b o e
 have fr0:∀ b ∈ fp,upd H s.heap.objs.size (.lst []) b=none:=fun b hb=>by rw [aL (bf4 (hfl b hb))]; exact (hf b hb).1
 have stat:∀ {H':Hp},(∀ b ∈ fp,H' b=none)->∀ b ∈ fp,gA (b9 X scope N s H H2.objs.size fp fun _ _=>False) [] H' b:=fun {H'} hn b hb=>by
  have f:=hf b hb
  refine⟨hn b hb,bf4 (bd5 (hfl b hb) hCle),fun z=>?_,.inl hb,fun x c e=>(kT e).elim (fun z=>bk2 (Nat.lt_trans (bd5 (hfl b hb) hCle) (hco₁.empty x c z).2)) fun z=>f.2.2.2.2.1 x c (qA scope.names [] (S.cells I) (fun _ _ z=>by simp at z) z.2),fun p hp=>absurd (show p ∈ ([]:List (Addr × Obj)) from hp) (by simp)⟩
  rcases bc5.mp (I.stkSub b z) with e | e
  ·exact f.2.1 e
  ·exact f.2.2.1 e
 generalize hX:b9 X scope N s H H2.objs.size fp (fun _ _=>False)=Y at stat
 have I0:a8 Y [] (e8 fr σ) (upd H s.heap.objs.size (.lst [])) { s with heap:=h₁ }:=hX ▸ ap2 S I hf hfl (bc1 _) hCle hDC old hns₁ hacc hco₁
 have bt:PG Y tg g:=hX ▸ B.tg H2.objs.size fp
 have bi:jA Y ifs tc:=hX ▸ B.ifs H2.objs.size fp
 have be:PE Y elt te:=hX ▸ B.elt H2.objs.size fp
 have eP:Y.prog=X.prog:=by rw [<- hX]; rfl
 have ew:Y.w=X.w:=by rw [<- hX]; rfl
 have eK:Y.K=X.K:=by rw [<- hX]; rfl
 have eA:Y.A=X.A:=by rw [<- hX]; rfl
 have eE:Y.env=compEnvC scope (gI X scope H2.objs.size) H2.objs.size X.env:=by rw [<- hX]; rfl
 have eX:Y.xe=fun _ _=>False:=by rw [<- hX]; rfl
 have ec:Y.calm=true:=by rw [<- hX]; exact hc
 have never:∀ {E:Value->Shared->Prop} (e:Value) (s':Shared),Y.xe e s'->E e s':=fun {E} e s' z=>by rw [eX] at z; exact z.elim
 have out:∀ {pins' σ' H' s'},a8 Y pins' σ' H' s'->a8 X pins σ H' s':=fun {_ _ _ _} I'=>ap5 (C:=H2.objs.size) (E:=fun _ _=>False) (scope:=scope) (N:=N) I hf (hX ▸ I')
 have loop:codeAny (model X.prog X.w) X.A (.compLoop (.ListComp elt [⟨tg,iter,ifs,0⟩] scope pos) 0 (.ref it) (.ref s.heap.objs.size) (compEnvC scope (gI X scope H2.objs.size) H2.objs.size X.env))
   (Rr (.ref s.heap.objs.size) H2.objs.size) { s with heap:=h₁ }:=by
  refine ap3 (fun n s'=>∃ i acc H',a8 Y [] (e8 fr σ) H' s'/\tn i s'.heap/\(∀ b ∈ fp,H' b=none)/\W i n acc H') ?_ m0 ⟨0,[],_,I0,st1,fr0,w0⟩
  rintro n s3 ⟨i,acc,H3,I3,st3,fr3,w3⟩
  unfold uV
  dsimp only
  obtain ⟨hD3,step⟩:=turn i n acc H3 w3
  rcases step with ⟨stop,qn⟩ | ⟨go,step⟩
  ·have z:=T.done Y eP ew eK ec i [] s3 _ H3 (notedBy (model X.prog X.w) X.A (compEnvC scope (gI X scope H2.objs.size) H2.objs.size X.env) fun e s'=>Rr (.ref s.heap.objs.size) H2.objs.size (.error e) s') I3 (stat fr3) st3 stop
   rw [eA] at z
   refine aQ z fun r s4 ⟨hr,I4⟩=>?_
   subst hr
   obtain ⟨m4,hn4,_⟩:=I4.loc
   rw [eE] at hn4
   have f4:=I4.free
   rw [eE] at f4
   exact hend _ _ s4 H3 m4 hCle (bc1 _) (out I4) hn4 f4 qn
  ·have z:=T.item Y eP ew eK ec i [] s3 _ H3 (notedBy (model X.prog X.w) X.A (compEnvC scope (gI X scope H2.objs.size) H2.objs.size X.env) fun e s'=>Rr (.ref s.heap.objs.size) H2.objs.size (.error e) s') I3 (stat fr3) st3 go
   rw [eA] at z
   refine aQ z fun r s4 ⟨u,hr,h4⟩=>?_
   subst hr
   refine aQ h4 fun _ s5 ⟨x,H5,I5,r5,y5,st5,fr5⟩=>?_
   have I5':=I5.pinned (stat fr5) (T.obj _ _ st5)
   have q1:=bt _ s5 _ H5 x u _ I5' r5 (step x H5 y5)
   rw [eP,ew,eA,eE] at q1
   refine bj2 q1 (fun _ s6 ⟨σ6,H6,I6,wk,q6⟩=>?_) never
   have q2:=bi _ s6 σ6 H6 _ I6 q6
   rw [eP,ew,eA,eE] at q2
   refine bj2 q2 (fun b s7 ⟨H7,I7,q7⟩=>?_) never
   have again:∀ {H8:Hp}{s8:Shared}{acc':List V},a8 Y ([] ++ nT fp s5.heap) σ6 H8 s8->(∃ m',m' < n/\W (i+1) m' acc' H8)->∃ m,m < n/\∃ i acc H',a8 Y [] (e8 fr σ) H' s8/\tn i s8.heap/\(∀ b ∈ fp,H' b=none)/\W i m acc H':=fun {H8 s8 acc'} I8 n8=>by
    obtain ⟨m',hm,w8⟩:=n8
    refine⟨m',hm,i+1,acc',H8,(I8.unpinned).weak wk.1 wk.2,T.keep _ _ _ st5 fun b hb o e=>(I8.pin (b,o) (bd9 _ (bd9 _ (pP hb e)))).1,fun b hb=>?_,w8⟩
    obtain ⟨o,e,d⟩:=T.obj _ _ st5 b hb
    exact (I8.pin (b,o) (bd9 _ (bd9 _ (pP hb e)))).2.1
   cases b with
   | false=>
    rw [if_neg be5] at q7 ⊢
    exact again I7 q7
   | true=>
    rw [if_pos rfl] at q7 ⊢
    have q3:=be _ s7 σ6 H7 _ I7 q7
    rw [eP,ew,eA,eE] at q3
    refine bj2 q3 (fun v s8 ⟨y,H8,I8,r8,hD8,hz8,q8⟩=>?_) never
    have q4:=pW _ s8 σ6 H8 (.ref s.heap.objs.size) [y] (.ref s.heap.objs.size) [v] (fun _ H9=>∃ m',m' < n/\W (i+1) m' (acc ++ [y]) H9) I8 rfl (.cons r8 .nil) ⟨_,_,_,rfl,rfl,hD8,hz8,q8⟩
    rw [eP,ew,eA] at q4
    exact bj2 q4 (fun _ s9 ⟨_,H9,I9,_,q9⟩=>again I9 q9) never
 exact codeAny_compStart_list loop (T.self _ 0 _ _ _ st1 loop)
end
section
variable {X : Cx} {scope : Scope} {N : List Str} {fr : List (Option Nat)} {tg iter elt : Expr} {ifs : List Expr} {pos : Pos} {wi : TI} {g : TG} {tc : TT} {te : TE}
theorem a8.drop {pins:List (Addr × Obj)}{σ:St}{H H':Hp}{s s':Shared}{C:Addr}{h':Heap} (I0:a8 X pins σ H s) (hC:s.heap.objs.size<=C) {σ':St} (I:a8 X pins σ' H' s') (hn:H' C=none) (sb:Heap.SameBut C s'.heap h'):a8 X pins σ' H' { s' with heap:=h' }:=by
 refine I.turned (t':=s'.toks) (it:=C) (fun b o hb e=>(sb.2 b hb).trans e) hn (bk2 (bd5 I0.lt hC)) (.inr (bg0 I0.sz hC)) (fun x c e z=>?_) fun p hp z=>?_
 ·obtain ⟨v,q⟩:=I0.cell x c e
  exact absurd (bd5 q.lt (by rw [z]; exact hC)) (bh7 _)
 ·exact absurd (bd5 (bd3 (I0.pin p hp).1) (by rw [z]; exact hC)) (bh7 _)
theorem E8 (hc:X.calm=true) (S:cA X scope N fr) (hi:PI X tg iter wi) (B:qG X scope N tg ifs elt g tc te)
  (hs:∀ x,foldedSetIterable iter X.env x=pure x:=by intro _; rfl):PE X (.ListComp elt [⟨tg,iter,ifs,0⟩] scope pos) (E7 wi fr g tc te):=by
 intro pins s σ H Q I h
 rw [eval_ListComp]
 refine wpAny_comprehension_free (use:=none) rfl hs (pZ (S.cells I)) S.kind S.names (aQ (hi pins s σ H _ I h) fun v s1 h1=>aQ h1 fun itv s2 h2=>?_)
 obtain ⟨it,fp,tn,J,H2,e,I2,T,st2,f2,hW⟩:=h2
 subst e
 refine qH (Rr:=fun acc C=>compPost (model X.prog X.w) X.A X.xe none (EP X pins σ Q) acc C) hc S (B.at _ _) I2 T st2 f2 hW ?_
 intro D C s' H' m hC hD I' hns hHC q
 exact⟨m,hns,fun h' sb=>⟨.ref D,H',I2.drop hC I' hHC sb,rfl,q⟩⟩
theorem ap6 {i:Nat}{x:Str}{px spos:Pos} (hc:X.calm=true) (S:cA X scope N fr) (hi:PI X tg iter wi) (B:qG X scope N tg ifs elt g tc te) (hN:X.N.Nodup) (hix:X.N[i]? = some x) (hx:X.env.scope.names.lookup x=some .local)
  (hsw:swapsWith (.ListComp elt [⟨tg,iter,ifs,0⟩] scope pos) (some (.Name x px)) spos.line X.env=pure true) (hs:∀ x,foldedSetIterable iter X.env x=pure x:=by intro _; rfl) :
  PS X (.Assign [.Name x px] (.ListComp elt [⟨tg,iter,ifs,0⟩] scope pos) spos) (jS (E7 wi fr g tc te) (bX i)):=by
 intro pins s σ H D I h
 rw [exec_Assign_Name_used _ _ _ _ hsw]
 refine bb7 (wpAny_standAt (bb7 ?_))
 show wpAny _ _ (do let _ <- comprehension (.ListComp elt [⟨tg,iter,ifs,0⟩] scope pos) scope X.env _ (newList []) false (eval iter X.env) (some (assign (.Name x px) X.env))) _ _ s
 refine bb7 (bj2 (wpAny_comprehension_free (Q:=fun _ s'=>SP X pins D .next s') (use:=some (assign (.Name x px) X.env)) rfl hs (pZ (S.cells I)) S.kind S.names (aQ (hi pins s σ H _ I h) fun v s1 h1=>aQ h1 fun itv s2 h2=>?_))
  (fun _ s' hq=>bc3 (bc3 hq)) fun _ _ e=>e)
 obtain ⟨it,fp,tn,J,H2,e,I2,T,st2,f2,hW⟩:=h2
 subst e
 refine qH (Rr:=fun acc C=>compPost (model X.prog X.w) X.A X.xe (some (assign (.Name x px) X.env)) (fun _ s'=>SP X pins D .next s') acc C) hc S (B.at _ _) I2 T st2 f2 hW ?_
 intro D' C s' H' m hC hD I' hns hHC q
 refine wpAny_assign_Name (tN I' hN hix (.inl hx) (v:=.ref D') rfl (fun s'' I'' sb=>?_) (.inr hx))
 obtain ⟨a,sb,ha⟩:=sb
 have hCa:C ≠ a:=by
  rcases ha with z | z
  ·rw [z]; exact bk2 (bd5 I2.lt hC)
  ·intro e; subst e
   obtain ⟨v,q⟩:=I2.cell x _ z
   exact absurd (bd5 q.lt hC) (bh7 _)
 exact⟨m,hns.sameBut sb hCa,fun h' sb'=>⟨_,H',I2.drop hC I'' hHC sb',q⟩⟩
variable {gh : Hp → TG} {tch : Hp → TT} {teh : Hp → TE}
def qI (wi:TI) (fr:List (Option Nat)) (gh:Hp->TG) (tch:Hp->TT) (teh:Hp->TE):TE:=fun σ H Q=>wi σ H fun J H1=>∀ D,H1 D=none->
 ∃ W:Nat->Nat->List V->Hp->Prop,(∃ m,W 0 m [] (upd H1 D (.lst [])))/\oC (gh H1) (tch H1) (teh H1) (e8 fr σ) J D Q W
theorem oD (hc:X.calm=true) (S:cA X scope N fr) (hi:PI X tg iter wi) (B:∀ (s:Shared) (H:Hp),kU X scope N tg ifs elt s H (gh H) (tch H) (teh H))
  (hs:∀ x,foldedSetIterable iter X.env x=pure x:=by intro _; rfl):PE X (.ListComp elt [⟨tg,iter,ifs,0⟩] scope pos) (qI wi fr gh tch teh):=by
 intro pins s σ H Q I h
 rw [eval_ListComp]
 refine wpAny_comprehension_free (use:=none) rfl hs (pZ (S.cells I)) S.kind S.names (aQ (hi pins s σ H _ I h) fun v s1 h1=>aQ h1 fun itv s2 h2=>?_)
 obtain ⟨it,fp,tn,J,H2,e,I2,T,st2,f2,hW⟩:=h2
 subst e
 refine qH (Rr:=fun acc C=>compPost (model X.prog X.w) X.A X.xe none (EP X pins σ Q) acc C) hc S (B _ _) I2 T st2 f2 hW ?_
 intro D C s' H' m hC hD I' hns hHC q
 exact⟨m,hns,fun h' sb=>⟨.ref D,H',I2.drop hC I' hHC sb,rfl,q⟩⟩
theorem qJ {i:Nat}{x:Str}{px spos:Pos} (hc:X.calm=true) (S:cA X scope N fr) (hi:PI X tg iter wi) (B:∀ (s:Shared) (H:Hp),kU X scope N tg ifs elt s H (gh H) (tch H) (teh H)) (hN:X.N.Nodup) (hix:X.N[i]? = some x) (hx:X.env.scope.names.lookup x=some .local)
  (hsw:swapsWith (.ListComp elt [⟨tg,iter,ifs,0⟩] scope pos) (some (.Name x px)) spos.line X.env=pure true) (hs:∀ x,foldedSetIterable iter X.env x=pure x:=by intro _; rfl) :
  PS X (.Assign [.Name x px] (.ListComp elt [⟨tg,iter,ifs,0⟩] scope pos) spos) (jS (qI wi fr gh tch teh) (bX i)):=by
 intro pins s σ H D I h
 rw [exec_Assign_Name_used _ _ _ _ hsw]
 refine bb7 (wpAny_standAt (bb7 ?_))
 show wpAny _ _ (do let _ <- comprehension (.ListComp elt [⟨tg,iter,ifs,0⟩] scope pos) scope X.env _ (newList []) false (eval iter X.env) (some (assign (.Name x px) X.env))) _ _ s
 refine bb7 (bj2 (wpAny_comprehension_free (Q:=fun _ s'=>SP X pins D .next s') (use:=some (assign (.Name x px) X.env)) rfl hs (pZ (S.cells I)) S.kind S.names (aQ (hi pins s σ H _ I h) fun v s1 h1=>aQ h1 fun itv s2 h2=>?_))
  (fun _ s' hq=>bc3 (bc3 hq)) fun _ _ e=>e)
 obtain ⟨it,fp,tn,J,H2,e,I2,T,st2,f2,hW⟩:=h2
 subst e
 refine qH (Rr:=fun acc C=>compPost (model X.prog X.w) X.A X.xe (some (assign (.Name x px) X.env)) (fun _ s'=>SP X pins D .next s') acc C) hc S (B _ _) I2 T st2 f2 hW ?_
 intro D' C s' H' m hC hD I' hns hHC q
 refine wpAny_assign_Name (tN I' hN hix (.inl hx) (v:=.ref D') rfl (fun s'' I'' sb=>?_) (.inr hx))
 obtain ⟨a,sb,ha⟩:=sb
 have hCa:C ≠ a:=by
  rcases ha with z | z
  ·rw [z]; exact bk2 (bd5 I2.lt hC)
  ·intro e; subst e
   obtain ⟨v,q⟩:=I2.cell x _ z
   exact absurd (bd5 q.lt hC) (bh7 _)
 exact⟨m,hns.sameBut sb hCa,fun h' sb'=>⟨_,H',I2.drop hC I'' hHC sb',q⟩⟩
end
theorem bB {H:Hp}{p:Addr} (h:H p=none) (o:HO):aD H (upd H p o):=fun b u q=>by rw [aL (cE q h)]; exact q
theorem aD.tup {K:PySem.W.Frag}{H H':Hp}{a:Addr}{xs:List V} (e:aD H H') (h:aO K H a xs):aO K H' a xs:=by
 rcases h with (h | ⟨o,h⟩) | h
 ·exact .inl (.inl (e _ _ h))
 ·exact .inl (.inr ⟨o,e _ _ h⟩)
 ·exact .inr h
structure E9 (H:Hp) (J:It) (xs:List V):Prop where
 go:∀ i H',aD H H'->i < xs.length->J.go i H'
 yld:∀ i H' x H2,aD H H'->J.yld i H' x H2->i < xs.length->xs[i]? = some x/\H2=H'
 stop:∀ H',aD H H'->J.stop xs.length H'
theorem ap7 {K:PySem.W.Frag}{H:Hp}{a:Addr}{xs:List V} (h:aO K H a xs):E9 H (jT K a) xs:=
 ⟨fun i H' e hi=>⟨xs,xs[i],e.tup h,by simp [hi]⟩,fun i H' x H2 e y hi=>⟨y.2 xs (e.tup h),y.1⟩,fun H' e=>⟨xs,e.tup h,bc1 _⟩⟩
def jB (lo:Int) (n:Nat):List V:=(List.range n).map fun (i:Nat)=>V.int (lo+(i:Int))
theorem uW (lo:Int) (n:Nat):(jB lo n).length=n:=by unfold jB; rw [bc4,bm7]
def CW (H1:Hp) (D:Addr) (n:Nat) (Pv:Nat->List V->Hp->Prop):Nat->Nat->List V->Hp->Prop:=fun i m acc H'=>m=n - i/\i<=n/\acc.length<=i/\aD H1 H'/\H' D=some (.lst acc)/\Pv i acc H'
def uX (H1:Hp) (D:Addr) (n:Nat) (Pv:Nat->List V->Hp->Prop) (i:Nat) (acc:List V) (v:V) (H5:Hp):Prop:=H5 D=some (.lst acc)/\acc.length < sizeLine/\∃ m',m' < n - i/\CW H1 D n Pv (i+1) m' (acc ++ [v]) (upd H5 D (.lst (acc ++ [v])))
def F0 (H1:Hp) (D:Addr) (n:Nat) (Pv:Nat->List V->Hp->Prop) (i:Nat) (acc:List V) (H4:Hp):Prop:=∃ m',m' < n - i/\CW H1 D n Pv (i+1) m' acc H4
structure qK (H1:Hp) (D:Addr) (n i:Nat) (acc:List V) (H':Hp):Prop where
 lt:i < n
 few:acc.length<=i
 sz:n<=sizeLine
 same:aD H1 H'
 new:H1 D=none
 acc:H' D=some (.lst acc)
theorem qK.yes {H1:Hp}{D:Addr}{n i:Nat}{acc:List V}{H' H5:Hp}{Pv:Nat->List V->Hp->Prop}{v:V} (c:qK H1 D n i acc H') (s:aD H' H5) (p:Pv (i+1) (acc ++ [v]) (upd H5 D (.lst (acc ++ [v])))):uX H1 D n Pv i acc v H5:=by
 refine⟨s _ _ c.acc,Nat.lt_of_le_of_lt c.few (bd5 c.lt c.sz),_,?_,rfl,c.lt,?_,fun b o e=>?_,b8,p⟩
 ·have:=c.lt; omega
 ·rw [bc0,bg9]; exact Nat.succ_le_succ c.few
 ·rw [aL (cE e c.new)]; exact s _ _ (c.same _ _ e)
theorem ap8 {H1:Hp}{J:It}{xs:List V}{g:TG}{tc:TT}{te:TE}{σ0:St}{Q:VK} (O:E9 H1 J xs) (Pv:Nat->List V->Hp->Prop) (hn:xs.length<=sizeLine)
  (h0:∀ D,H1 D=none->Pv 0 [] (upd H1 D (.lst [])))
  (hs:∀ i x acc D H',xs[i]? = some x->qK H1 D xs.length i acc H'->Pv i acc H'->g x σ0 H' fun σ2 H3=>Wk σ0 σ2/\tc σ2 H3 fun b H4=>
   if b=true then te σ2 H4 fun v H5=>uX H1 D xs.length Pv i acc v H5 else F0 H1 D xs.length Pv i acc H4)
  (hd:∀ D acc H',H1 D=none->aD H1 H'->H' D=some (.lst acc)->acc.length<=xs.length->Pv xs.length acc H'->Q (.ref D) H') :
  ∀ D,H1 D=none->∃ W:Nat->Nat->List V->Hp->Prop,(∃ m,W 0 m [] (upd H1 D (.lst [])))/\oC g tc te σ0 J D Q W:=by
 intro D hD
 refine⟨CW H1 D xs.length Pv,⟨xs.length,rfl,bh2 _,bc1 _,bB hD _,b8,h0 D hD⟩,?_⟩
 rintro i m acc H' ⟨rfl,hi,ha,sm,hDa,p⟩
 refine⟨hDa,?_⟩
 by_cases hlt:i < xs.length
 ·refine .inr ⟨O.go i H' sm hlt,fun x H2 y=>?_⟩
  obtain ⟨hx,e⟩:=O.yld i H' x H2 sm y hlt
  subst e
  exact hs i x acc D H2 hx ⟨hlt,ha,hn,sm,hD,hDa⟩ p
 ·have e:i=xs.length:=by omega
  subst e
  exact .inl ⟨O.stop H' sm,hd D acc H' hD sm hDa ha p⟩
end L2
namespace Srt
open PySem PySem.W PyProof.Rows
abbrev G (p:Array Nat) (i:Nat):Nat:=p.getD i 0
theorem oE {p q:Array Nat}{i j:Nat} (h:p[i]? = q[j]?):G p i=G q j:=by
 unfold G; rw [bo5,bo5,h]
theorem uY {p:Array Nat}{i j:Nat} (hj:j<=p.size) (k:Nat):G (kas_rev p i j) k=if i<=k/\k < j then G p (i+j - 1 - k) else G p k:=by
 have e:=getElem?_mirror_all (i:=i) hj k
 unfold kas_rev
 by_cases h1:i<=k/\k < j
 ·rw [if_pos h1] at e ⊢; exact oE e
 ·rw [if_neg h1] at e ⊢; exact oE e
theorem ap9 {p:Array Nat}{src d:Nat} (hs:src < p.size) (hd:d<=src) (k:Nat):G (bubble p src d) k=if k=src - d then G p src else if src - d < k/\k<=src then G p (k - 1) else G p k:=by
 have e:=getElem?_bubble hs d hd k
 by_cases h1:k=src - d
 ·rw [if_pos h1] at e ⊢; exact oE e
 ·rw [if_neg h1] at e ⊢
  by_cases h2:src - d < k/\k<=src
  ·rw [if_pos h2] at e ⊢; exact oE e
  ·rw [if_neg h2] at e ⊢; exact oE e
def PP (n:Nat) (p:Array Nat):Prop:=p.toList.Perm (List.range n)
theorem PP.size {n:Nat}{p:Array Nat} (h:PP n p):p.size=n:=by
 have:=h.length_eq
 rw [bm7] at this
 simpa using this
theorem PP.lt {n:Nat}{p:Array Nat} (h:PP n p) {k:Nat} (hk:k < n):G p k < n:=by
 have hs:=h.size
 have hk':k < p.toList.length:=by simpa [hs] using hk
 have e:G p k=p.toList[k]:=by
  unfold G; rw [bo5]; simp [hs,hk]
 have m:p.toList[k] ∈ p.toList:=bn7 hk'
 rw [e]
 exact bo9.mp (h.mem_iff.mp m)
theorem PP.of {n:Nat}{p q:Array Nat} (h:PP n p) (e:q.Perm p):PP n q:=(Array.perm_iff_toList_perm.mp e).trans h
theorem PP.rev {n:Nat}{p:Array Nat} (h:PP n p) (i j:Nat):PP n (kas_rev p i j):=h.of (mirror_perm _ _ _ _)
theorem PP.bub {n:Nat}{p:Array Nat} (h:PP n p) (i j:Nat):PP n (bubble p i j):=h.of (bubble_perm _ _ _)
structure fJ (c:Nat->Nat->Bool):Prop where
 asym:∀ {i j},c i j=true->c j i=false
 ntr:∀ {i j k},c i j=false->c j k=false->c i k=false
section
variable {c : Nat → Nat → Bool} (O : fJ c)
def Le (c:Nat->Nat->Bool) (i j:Nat):Prop:=c j i=false
include O
theorem le_refl (i:Nat):Le c i i:=by
 unfold Le
 cases h:c i i with
 | false=>rfl
 | true=>have:=O.asym h; rw [h] at this; exact this
theorem le_trans {i j k:Nat} (h1:Le c i j) (h2:Le c j k):Le c i k:=O.ntr h2 h1
theorem qL {i j:Nat} (h:c i j=true):Le c i j:=O.asym h
omit O
def fK (c:Nat->Nat->Bool) (p:Array Nat) (n:Nat):Prop:=∀ a b,a<=b->b < n->Le c (G p a) (G p b)
def jW (c:Nat->Nat->Bool) (p:Array Nat) (n:Nat):Prop:=∀ a b,a<=b->b < n->Le c (G p b) (G p a)
include O
theorem aq0 {p:Array Nat}{n:Nat} (h:fK c p n) (h1:1<=n) (hl:Le c (G p (n - 1)) (G p n)):fK c p (n+1):=fun a b hab hb=>by
 by_cases hbn:b < n
 ·exact h a b hab hbn
 ·have e:b=n:=by omega
  subst e
  by_cases han:a=b
  ·subst han; exact le_refl O _
  ·exact le_trans O (h a (b - 1) (by omega) (by omega)) hl
theorem qM {p:Array Nat}{n:Nat} (h:jW c p n) (h1:1<=n) (hl:Le c (G p n) (G p (n - 1))):jW c p (n+1):=fun a b hab hb=>by
 by_cases hbn:b < n
 ·exact h a b hab hbn
 ·have e:b=n:=by omega
  subst e
  by_cases han:a=b
  ·subst han; exact le_refl O _
  ·exact le_trans O hl (h a (b - 1) (by omega) (by omega))
omit O
def cB {α:Type} (n:Nat) (c:Nat->Nat->Bool) (R:α->Prop):KasT α->Prop
 | .ret a=>R a
 | .ask i j k=>i < n/\j < n/\cB n c R (k (c i j))
theorem cB.mono {α:Type}{n:Nat}{R R':α->Prop} (h:∀ a,R a->R' a):∀ (t:KasT α),cB n c R t->cB n c R' t
 | .ret a,q=>h a q
 | .ask i j k,q=>⟨q.1,q.2.1,cB.mono h (k (c i j)) q.2.2⟩
theorem cB.bind {α β:Type}{n:Nat}{R:α->Prop}{R':β->Prop}{f:α->KasT β} (h:∀ a,R a->cB n c R' (f a)):∀ (t:KasT α),cB n c R t->cB n c R' (t.bind f)
 | .ret a,q=>h a q
 | .ask i j k,q=>⟨q.1,q.2.1,cB.bind h (k (c i j)) q.2.2⟩
theorem cB.run {α:Type}{n:Nat}{R:α->Prop}{I:Shared->Prop}{cmp:Nat->Nat->(Bool->Shared->Prop)->Shared->Prop}{Q:α->Shared->Prop}
  (hc:∀ i j C s,i < n->j < n->I s->(∀ s',I s'->C (c i j) s')->cmp i j C s) (hQ:∀ a s,R a->I s->Q a s):∀ (t:KasT α) (s:Shared),I s->cB n c R t->t.kasWp cmp Q s
 | .ret a,s,hI,q=>hQ a s q hI
 | .ask i j k,s,hI,q=>hc i j _ s q.1 q.2.1 hI fun s' hI'=>cB.run hc hQ (k (c i j)) s' hI' q.2.2
include O
theorem uZ {n:Nat}{p:Array Nat} (hp:PP n p):∀ (f m:Nat),1<=m->m+f<=n->fK c p m->cB n c (fun r=>m<=r/\r<=m+f/\fK c p r/\(r < m+f->c (G p r) (G p (r - 1))=true)) (kas_asc p f m)
 | 0,m,_,_,h=>⟨bc1 _,bc1 _,h,fun z=>absurd z (bh7 _)⟩
 | f+1,m,h1,h2,h=>by
  refine⟨hp.lt (by omega),hp.lt (by omega),?_⟩
  by_cases hc:c (p.getD m 0) (p.getD (m - 1) 0)=true
  ·simp only [hc,if_true]
   exact⟨bc1 _,by omega,h,fun _=>hc⟩
  ·have hc':c (p.getD m 0) (p.getD (m - 1) 0)=false:=bm5.mpr hc
   simp only [hc',be3,bi9]
   refine cB.mono (fun r q=>⟨by omega,by omega,q.2.2.1,fun z=>q.2.2.2 (by omega)⟩) _ (uZ hp f (m+1) (by omega) (by omega) (aq0 O h h1 hc'))
omit O
def kW (c:Nat->Nat->Bool) (i j:Nat):Prop:=Le c i j/\Le c j i
include O
theorem v0 {p q:Array Nat}{n:Nat} (h:jW c p n) (e:∀ k,k < n->kW c (G q k) (G p k)):jW c q n:=fun a b hab hb=>
 le_trans O (e b hb).1 (le_trans O (h a b hab hb) (e a (by omega)).2)
theorem F1 {n m i:Nat}{p:Array Nat} (hp:PP n p) (hm:m<=n) (h:∀ a,i<=a->a < m->kW c (G p a) (G p (m - 1))):∀ k,kW c (G (kas_rev p i m) k) (G p k):=fun k=>by
 rw [uY (by rw [hp.size]; exact hm)]
 by_cases hk:i<=k/\k < m
 ·rw [if_pos hk]
  have h1:=h (i+m - 1 - k) (by omega) (by omega)
  have h2:=h k hk.1 hk.2
  exact⟨le_trans O h1.1 h2.2,le_trans O h2.1 h1.2⟩
 ·rw [if_neg hk]; exact⟨le_refl O _,le_refl O _⟩
omit O
def DI (c:Nat->Nat->Bool) (n:Nat) (p:Array Nat) (m q:Nat):Prop:=PP n p/\1<=m/\m<=n/\jW c p m/\q+1<=m/\∀ a,m - (q+1)<=a->a < m->kW c (G p a) (G p (m - 1))
include O
theorem F3 {n m q:Nat}{p:Array Nat} (h:DI c n p m q):PP n (kas_rev p (m - (q+1)) m)/\∀ k,kW c (G (kas_rev p (m - (q+1)) m) k) (G p k):=
 ⟨h.1.rev _ _,F1 O h.1 h.2.2.1 h.2.2.2.2.2⟩
theorem qN {n:Nat}:∀ (f:Nat) (p:Array Nat) (m q:Nat),m+f<=n->DI c n p m q->cB n c (fun r=>DI c n r.1 r.2.1 r.2.2) (kas_desc f p m q)
 | 0,p,m,q,_,h=>h
 | f+1,p,m,q,hf,h=>by
  have hp:=h.1
  have h1:=h.2.1
  refine⟨hp.lt (by omega),hp.lt (by omega),?_⟩
  by_cases hc:c (p.getD m 0) (p.getD (m - 1) 0)=true
  ·simp only [hc,if_true]
   have dn:jW c p (m+1):=qM O h.2.2.2.1 h1 (qL O hc)
   by_cases hq:q > 0
   ·simp only [hq,if_true]
    obtain ⟨pr,er⟩:=F3 O h
    refine qN f _ (m+1) 0 (by omega) ⟨pr,by omega,by omega,v0 O dn fun k _=>er k,by omega,fun a h1 h2=>?_⟩
    have e:a=m+1 - 1:=by omega
    rw [e]; exact⟨le_refl O _,le_refl O _⟩
   ·simp only [hq,bi9]
    refine qN f p (m+1) 0 (by omega) ⟨hp,by omega,by omega,dn,by omega,fun a h1 h2=>?_⟩
    have e:a=m+1 - 1:=by omega
    rw [e]; exact⟨le_refl O _,le_refl O _⟩
  ·have hc':c (p.getD m 0) (p.getD (m - 1) 0)=false:=bm5.mpr hc
   simp only [hc',be3,bi9]
   refine⟨hp.lt (by omega),hp.lt (by omega),?_⟩
   by_cases hd:c (p.getD (m - 1) 0) (p.getD m 0)=true
   ·simp only [hd,if_true]
    exact h
   ·have hd':c (p.getD (m - 1) 0) (p.getD m 0)=false:=bm5.mpr hd
    simp only [hd',be3,bi9]
    have ee:kW c (G p (m - 1)) (G p m):=⟨hc',hd'⟩
    refine qN f p (m+1) (q+1) (by omega) ⟨hp,by omega,by omega,qM O h.2.2.2.1 h1 ee.2,by have:=h.2.2.2.2.1; omega,fun a h1 h2=>?_⟩
    rw [Nat.add_sub_cancel]
    by_cases ha:a=m
    ·rw [ha]; exact⟨le_refl O _,le_refl O _⟩
    ·have z:=h.2.2.2.2.2 a (by omega) (by omega)
     exact⟨le_trans O z.1 ee.1,le_trans O ee.2 z.2⟩
omit O
def CI (c:Nat->Nat->Bool) (n:Nat) (r:Nat × Array Nat):Prop:=PP n r.2/\1<=r.1/\r.1<=n/\fK c r.2 r.1
include O
theorem F4 {n m:Nat}{p:Array Nat} (hp:PP n p) (h1:1<=m) (hm:m<=n) (h:jW c p m):cB n c (CI c n) (kas_tail3 m n p):=by
 have ha:fK c (kas_rev p 0 m) m:=fun a b hab hb=>by
  rw [uY (by rw [hp.size]; exact hm),uY (by rw [hp.size]; exact hm),if_pos ⟨bh2 _,by omega⟩,if_pos ⟨bh2 _,hb⟩]
  exact h _ _ (by omega) (by omega)
 refine cB.bind (R:=fun r=>m<=r/\r<=m+(n - m)/\fK c (kas_rev p 0 m) r/\_) (fun r q=>?_) _ (uZ O (hp.rev 0 m) (n - m) m h1 (by omega) ha)
 exact⟨hp.rev _ _,by have:=q.1; omega,by have:=q.2.1; omega,q.2.2.1⟩
theorem F5 {n m:Nat}{p:Array Nat} (hp:PP n p) (h1:1<=m) (hm:m+1<=n) (h:jW c p (m+1)):cB n c (CI c n) (kas_descPart m n p):=by
 refine cB.bind (R:=fun r=>DI c n r.1 r.2.1 r.2.2) (fun r q=>?_) _ (qN O (n - (m+1)) p (m+1) 0 (by omega) ⟨hp,by omega,hm,h,by omega,fun a h1 h2=>?_⟩)
 ·by_cases hq:r.2.2 > 0
  ·rw [if_pos hq]
   obtain ⟨pr,er⟩:=F3 O q
   exact F4 O pr q.2.1 q.2.2.1 (v0 O q.2.2.2.1 fun k _=>er k)
  ·rw [if_neg hq]
   exact F4 O q.1 q.2.1 q.2.2.1 q.2.2.2.1
 ·have e:a=m+1 - 1:=by omega
  rw [e]; exact⟨le_refl O _,le_refl O _⟩
theorem aq1 {n:Nat}{p:Array Nat} (hp:PP n p) (hn:1<=n):cB n c (CI c n) (kas_count n p):=by
 have a1:fK c p 1:=fun a b hab hb=>by
  have e1:a=0:=by omega
  have e2:b=0:=by omega
  rw [e1,e2]; exact le_refl O _
 refine cB.bind (R:=fun r=>1<=r/\r<=1+(n - 1)/\fK c p r/\(r < 1+(n - 1)->c (G p r) (G p (r - 1))=true)) (fun m q=>?_) _ (uZ O hp (n - 1) 1 (bc1 _) (by omega) a1)
 obtain ⟨q1,q2,q3,q4⟩:=q
 by_cases hm:(m == n)=true
 ·rw [if_pos hm]
  exact⟨hp,q1,by omega,q3⟩
 ·rw [if_neg hm]
  have hne:m ≠ n:=by simpa using hm
  have hc:=q4 (by omega)
  by_cases h1:m > 1
  ·rw [if_pos h1]
   refine⟨hp.lt (by omega),hp.lt (by omega),?_⟩
   by_cases hd:c (p.getD 0 0) (p.getD (m - 1) 0)=true
   ·simp only [hd,if_true]
    exact⟨hp,q1,by omega,q3⟩
   ·have hd':c (p.getD 0 0) (p.getD (m - 1) 0)=false:=bm5.mpr hd
    simp only [hd',be3,bi9]
    have eq:∀ a,0<=a->a < m->kW c (G p a) (G p (m - 1)):=fun a _ ha=>⟨q3 a (m - 1) (by omega) (by omega),le_trans O hd' (q3 0 a (bh2 _) ha)⟩
    have er:=F1 O hp (by omega:m<=n) eq
    refine F5 O (hp.rev 0 m) q1 (by omega) (v0 O (p:=p) ?_ fun k _=>er k)
    refine qM O (fun a b hab hb=>?_) q1 (qL O hc)
    exact le_trans O (eq b (bh2 _) hb).1 (eq a (bh2 _) (by omega)).2
  ·rw [if_neg h1]
   have e:m=1:=by omega
   subst e
   refine F5 O hp (bc1 _) (by omega) (qM O (fun a b hab hb=>?_) (bc1 _) (qL O hc))
   have e1:a=0:=by omega
   have e2:b=0:=by omega
   rw [e1,e2]; exact le_refl O _
theorem v3 {n k:Nat}{p:Array Nat} (hp:PP n p) (hk:k < n) (ha:fK c p k):∀ (f l r:Nat),l<=r->r<=k->r - l<=f->(∀ a,a < l->Le c (G p a) (G p k))->(∀ a,r<=a->a < k->Le c (G p k) (G p a))->
  cB n c (fun l=>l<=k/\(∀ a,a < l->Le c (G p a) (G p k))/\∀ a,l<=a->a < k->Le c (G p k) (G p a)) (kas_place p k f l r)
 | 0,l,r,h1,h2,h3,hl,hr=>⟨by omega,hl,fun a h4 h5=>hr a (by omega) h5⟩
 | f+1,l,r,h1,h2,h3,hl,hr=>by
  unfold kas_place
  by_cases hlr:l >= r
  ·rw [if_pos hlr]
   exact⟨by omega,hl,fun a h4 h5=>hr a (by omega) h5⟩
  ·rw [if_neg hlr]
   refine⟨hp.lt hk,hp.lt (by omega),?_⟩
   by_cases hc:c (p.getD k 0) (p.getD ((l+r) / 2) 0)=true
   ·simp only [hc,if_true]
    exact v3 hp hk ha f l ((l+r) / 2) (by omega) (by omega) (by omega) hl fun a h4 h5=>le_trans O (qL O hc) (ha _ _ h4 h5)
   ·have hc':c (p.getD k 0) (p.getD ((l+r) / 2) 0)=false:=bm5.mpr hc
    simp only [hc',be3,bi9]
    exact v3 hp hk ha f ((l+r) / 2+1) r (by omega) h2 (by omega) (fun a h4=>le_trans O (ha a ((l+r) / 2) (by omega) (by omega)) hc') hr
theorem F6 {n:Nat}:∀ (f:Nat) (p:Array Nat) (k:Nat),PP n p->k+f<=n->fK c p k->cB n c (fun q=>PP n q/\fK c q (k+f)) (kas_bin f p k)
 | 0,p,k,hp,_,h=>⟨hp,h⟩
 | f+1,p,k,hp,hk,h=>by
  refine cB.bind (R:=fun l=>l<=k/\(∀ a,a < l->Le c (G p a) (G p k))/\∀ a,l<=a->a < k->Le c (G p k) (G p a)) (fun l q=>?_) _ (v3 O hp (by omega) h k 0 k (bh2 _) (bc1 _) (by omega) (fun a z=>absurd z (Nat.not_lt_zero _)) fun a h1 h2=>absurd h2 (by omega))
  obtain ⟨q1,q2,q3⟩:=q
  have e:∀ a,G (bubble p k (k - l)) a=if a=l then G p k else if l < a/\a<=k then G p (a - 1) else G p a:=fun a=>by
   rw [ap9 (by rw [hp.size]; omega) (by omega),show k - (k - l)=l by omega]
  refine cB.mono (fun r z=>⟨z.1,by rw [show k+(f+1)=k+1+f by omega]; exact z.2⟩) _ (F6 f _ (k+1) (hp.bub _ _) (by omega) fun a b hab hb=>?_)
  rw [e,e]
  by_cases ha:a=l
  ·rw [if_pos ha]
   by_cases hb':b=l
   ·rw [if_pos hb']; exact le_refl O _
   ·rw [if_neg hb',if_pos (by omega)]; exact q3 _ (by omega) (by omega)
  ·rw [if_neg ha]
   by_cases ha2:l < a/\a<=k
   ·rw [if_pos ha2,if_neg (by omega),if_pos (by omega)]
    exact h _ _ (by omega) (by omega)
   ·rw [if_neg ha2]
    by_cases hb':b=l
    ·rw [if_pos hb']; exact q2 a (by omega)
    ·rw [if_neg hb']
     by_cases hb2:l < b/\b<=k
     ·rw [if_pos hb2]; exact h _ _ (by omega) (by omega)
     ·rw [if_neg hb2]; exact h _ _ hab (by omega)
theorem aq2 {n:Nat} (hn:1<=n):cB n c (fun q=>PP n q/\fK c q n) (kas_sort n):=by
 have hp:PP n (List.toArray (List.range n)):=by unfold PP; simp
 refine cB.bind (R:=CI c n) (fun r q=>?_) _ (aq1 O hp hn)
 obtain ⟨q1,q2,q3,q4⟩:=q
 by_cases h:r.1 < n
 ·rw [if_pos h]
  have e:max r.1 1=r.1:=by omega
  rw [e]
  exact cB.mono (fun p z=>⟨z.1,by rw [show r.1+(n - r.1)=n by omega] at z; exact z.2⟩) _ (F6 O (n - r.1) r.2 r.1 q1 (by omega) q4)
 ·rw [if_neg h]
  have e:r.1=n:=by omega
  exact⟨q1,by rw [e] at q4; exact q4⟩
end
end Srt
namespace L2
open PySem PySem.Spec PyProof.Rows
theorem bZ.there {P:Program}{w:World}{H:Hp}{h:Heap}{a:Addr}{o:HO} (x:bZ P w H h a o):∃ u,h.get? a=some u:=by
 cases o with
 | lst xs=>obtain ⟨_,_,_,_,e⟩:=x; exact⟨_,e⟩
 | tup xs=>obtain ⟨_,_,_,o,e,_⟩:=x; exact⟨_,e⟩
 | dK kvs=>obtain ⟨_,_,_,_,o,_,_,e,_⟩:=x; exact⟨_,e⟩
 | dT kvs=>obtain ⟨_,_,_,_,o,_,_,e,_⟩:=x; exact⟨_,e⟩
 | set S n=>obtain ⟨o,_,_,_,e,_⟩:=x; exact⟨_,e⟩
 | ins C dx fs=>obtain ⟨_,_,_,e,_⟩:=x; exact⟨_,e⟩
 | own y=>exact x
 | xd fs=>obtain ⟨_,⟨_,_,_,e,_⟩,_⟩:=x; exact⟨_,e⟩
 | rng lo hi=>obtain ⟨_,_,_,e⟩:=x; exact⟨_,e⟩
 | frz ob u=>obtain ⟨e,_⟩:=x; exact⟨_,e⟩
 | tbl ps=>exact⟨_,(show h.get? a=some _ from x)⟩
 | met f y=>exact⟨_,(show h.get? a=some _ from x)⟩
 | ext φ=>obtain ⟨_,z,_⟩:=x; exact z
section
variable {X : Cx} {pins : List (Addr × Obj)} {σ : St} {H : Hp} {s : Shared} {h' : Heap} {a : Addr} {o : HO} {t' : Nat}
theorem a8.laidF (I:a8 X pins σ H s) (hn:s.heap.get? a=none) (k:∀ b u,b ≠ X.env.locals->s.heap.get? b=some u->h'.get? b=some u) (ns:∀ m,s.heap.Ns X.env.locals m->h'.Ns X.env.locals m)
  (new:bZ X.prog X.w (upd H a o) h' a o):H a=none/\a8 X pins σ (upd H a o) { s with heap:=h',toks:=t' }:=by
 have hHn:H a=none:=by
  cases q:H a with
  | none=>rfl
  | some u=>obtain ⟨z,e⟩:=(I.hok a u q).there; rw [hn] at e; cases e
 have ne:∀ b u,s.heap.get? b=some u->b ≠ a:=fun b u e z=>by rw [z,hn] at e; cases e
 have hL:=I.free
 refine⟨hHn,I.step (g':=s.gens) (d':=s.drawn) (ch:=[]) (fun _ z=>nomatch z) (fun b o' h1 _ _ e _=>k b o' h1 e) (fun b o' h1 _ _ e _=>⟨o'.slots,k b o' h1 e⟩) (fun b o' _ e n=>by rw [aL (ne b o' e)]; exact n) (fun b o' _ e=>?_)
  (fun b xs q=>by rw [aL (cE q hHn)]; exact q) (fun b u xs q=>by rw [aL (cE q hHn)]; exact q) (fun b ps q=>⟨#[],by rw [aL (cE q hHn),q]; simp⟩) ns (fun b u q=>?_) I.bare⟩
 ·by_cases hb:b=X.env.locals
  ·obtain ⟨m,hm,_⟩:=I.loc
   obtain ⟨o2,_,_,e2,_⟩:=ns m hm
   exact⟨o2,by rw [hb]; exact e2⟩
  ·exact⟨o',k b o' hb e⟩
 ·by_cases hb:b=a
  ·subst hb; rw [b8] at q; cases q; exact new
  ·rw [aL hb] at q
   refine (I.hok b u q).stay (fun c v hc e=>k c v ?_ e) (fun c e=>by rw [aL (cE e hHn)]; exact e) fun c xs e=>by rw [aL (cE e hHn)]; exact e
   rcases hc with z | z
   ·rw [z]; intro y; rw [y,hL] at q; cases q
   ·intro y; rw [y,hL] at z; cases z
theorem a8.newsAll (I:a8 X pins σ H s) {news:List (Addr × Obj)}{m:Str->Option Value} (hs:∀ p ∈ nN X.base s.heap X.env.locals,p ∈ news) (F:Fr X.base X.env.locals h' m) (N:News X.base X.env.locals h' news) :
  ∀ b o,b ≠ X.env.locals->s.heap.get? b=some o->h'.get? b=some o:=fun b o h1 e=>by
 cases q:X.base.get? b with
 | some u=>
  have:=I.bk b u q
  rw [e] at this; cases this
  exact F.keep b _ q
 | none=>exact (N (b,o) (hs _ (yI h1 q e))).1
end
theorem aq3 {α:Type}{d:α} (l:List α) {p:List Nat} (h:p.Perm (List.range l.length)):(p.map fun i=>l.getD i d).Perm l:=by
 have e:(List.range l.length).map (fun i=>l.getD i d)=l:=by
  apply List.ext_getElem
  ·simp
  ·intro i h1 h2
   simp at h1
   simp [h1]
 have:=h.map fun i=>l.getD i d
 rw [e] at this
 exact this
theorem v4:∀ {xs:List V}{us:List Value} (i:Nat),i < xs.length->aK xs us->aX (xs.getD i .non) (us.getD i Value.none)
 | _,_,_,h,.nil=>by simp at h
 | _,_,0,_,.cons r _=>by simpa using r
 | _,_,i+1,h,.cons _ t=>by
  have:=v4 i (by simpa using h) t
  simpa using this
theorem F7 {xs:List V}{us:List Value} (r:aK xs us):∀ {p:List Nat},(∀ i ∈ p,i < xs.length)->aK (p.map fun i=>xs.getD i .non) (p.map fun i=>us.getD i Value.none)
 | [],_=>.nil
 | i :: p,h=>.cons (v4 i (h i bd0) r) (F7 r fun j hj=>h j (be4 _ hj))
theorem v7 {α:Type}:∀ l:List α,(l.zip l).map (·.2)=l
 | []=>rfl
 | a :: l=>by
  show a :: ((l.zip l).map (·.2))=a :: l
  rw [v7 l]
theorem aq4 {prog:Program}{w:World}{A:Around}{E:Value->Shared->Prop}{s:Shared}{a:Addr}{vs:List Value}{n:Nat}{P:PySem.Fin->Shared->Prop} (e:s.heap.get? a=some (seqObj "list" vs.toArray n)) (few:vs.length < 2)
  (q:P (.done (.ret .none)) { s with heap:=sortedHeap s.heap a vs vs.toArray }):wpAny (model prog w) A (Builtin.«list.sort» ⟨[.ref a],[]⟩) P E s:=by
 have big:vs.length<=sizeLine:=bg0 (bi2 few) (by decide)
 have la:=bd3 e
 have c:vs.toArray.size < 2:=by simpa using few
 have same:(arrOf (SortSt.mk' general' (vs.toArray.zip vs.toArray) #[] 7 none)).map (·.2)=vs.toArray:=by
  change (vs.toArray.zip vs.toArray).map (·.2)=vs.toArray
  apply Array.ext'
  simpa using v7 vs
 obtain ⟨k,ek⟩:∃ k,(s.heap.update a (Obj.mapSeq fun _=>#[])).get? a=some (seqObj "list" #[] k):=⟨_,get?_update_seq e fun _=>#[]⟩
 have there:(((s.heap.update a (Obj.mapSeq fun _=>#[])).push (seqObj "tuple" vs.toArray 0)).push (seqObj "list" #[] 0)).get? a=some (seqObj "list" #[] k):=
  bb8 _ (bb8 _ ek)
 rw [list_sort_plain]
 apply bb7
 apply listItems_at e rfl
 apply bb7
 refine listUpdate_at e rfl ?_ (by simpa using big) (bh2 _)
 apply bb7
 apply seqEpoch_at ek rfl
 apply bb7
 refine wpAny_newTuple ?_ big
 apply bb7
 refine wpAny_newList ?_ (bh2 _)
 apply bk9
 simp only [c,if_true,StateT.run_pure]
 apply bb7
 apply bc3
 apply bb7
 apply bc3
 apply bb7
 apply seqEpoch_at there rfl
 apply bb7
 refine listUpdate_at there rfl ?_ (bh2 _) (by rw [same,bb9]; exact Nat.le_succ_of_le big)
 rw [same]
 simp only [bne_self_eq_false,be3,bi9]
 exact bc3 q
theorem aq5 {prog:Program}{w:World}{A:Around}{E:Value->Shared->Prop}{s:Shared}{l:Addr}{vs:List Value}{Q:Value->Shared->Prop} (hl:s.heap.IsList l vs.toArray) (few:vs.length < 2)
  (q:Q (.ref (s.heap.objs.size+1)) { s with heap:=sortedAll s.heap vs vs.toArray }):wpAny (model prog w) A (call (.builtin "sorted") [.ref l]) Q E s:=by
 have big:vs.length<=sizeLine:=bg0 (bi2 few) (by decide)
 apply Calls.call_function_entry kind_sorted plain_sorted entry_sorted (args_sorted1 _)
 simp only [Builtin.«sorted»]
 apply bb7 (m:=checkCount "sorted" 1 1 _)
 apply bc3
 apply bb7
 refine collect_list hl ?_ big
 apply bb7
 refine wpAny_newList ?_ big
 have one:((s.heap.push (seqObj "list" #[] 0)).update s.heap.objs.size (Obj.mapSeq (· ++ vs.toArray))).objs.size=s.heap.objs.size+1:=(Heap.size_update _ _ _).trans (size_push' _ _)
 have at1:(((s.heap.push (seqObj "list" #[] 0)).update s.heap.objs.size (Obj.mapSeq (· ++ vs.toArray))).push (seqObj "list" vs.toArray 0)).get? (s.heap.objs.size+1)=some (seqObj "list" vs.toArray 0):=one ▸ bd2 _ rfl
 change wpAny _ _ _ _ _ { s with heap:=((s.heap.push (seqObj "list" #[] 0)).update s.heap.objs.size (Obj.mapSeq (· ++ vs.toArray))).push (seqObj "list" vs.toArray 0) }
 rw [one]
 apply bb7
 apply bk9
 refine bi6 slot_list_sort ⟨_,at1,rfl⟩ entry_list_sort ?_ (args_list_sort _)
 refine aq4 at1 few ⟨_,rfl,?_⟩
 exact bc3 ⟨_,rfl,q⟩
def aq6 (K:PySem.W.Frag):List V->Hp->VK->Prop:=fun xs H Q=>∃ a ns,xs = [.ref a]/\aN K H a (ns.map V.int)/\ns.length < 64/\∀ l (ms:List Int),H l=none->ms.Perm ns->ms.Pairwise (· <= ·)->Q (.ref l) (upd H l (.lst (ms.map V.int)))
theorem aq7 {X:Cx}:cZ X (.builtin "sorted") (aq6 X.K):=by
 intro pins s σ H xs us Q I r h
 obtain ⟨a,ns,rfl,hs,h64,q⟩:=h
 obtain ⟨u,rfl,ru⟩:=gC r
 cases ru
 obtain ⟨its,rv,p,hz⟩:=I.list hs
 have hl:=rv.length
 rw [bc4] at hl
 refine sorted_ints p.isList (nZ rv) (by omega) fun out ns' a1 a2 a3=>?_
 obtain ⟨e,he⟩:=sortedAll_at s.heap its out
 have hn:s.heap.objs.size<=s.heap.objs.size+1:=Nat.le_succ _
 have hlen:ns'.length=ns.length:=a2.length_eq
 refine⟨.ref (s.heap.objs.size+1),upd H (s.heap.objs.size+1) (.lst (ns'.map V.int)),I.laid (t':=s.toks) (fun _ _=>sortedAll_old) hn ⟨?_,out.toList,e,o9 a1,by simpa using he⟩,rfl,q _ ns' (I.hok.fresh hn) a2 a3⟩
 rw [bc4,hlen]
 exact bi2 (oA (by omega))
theorem F8:∀ {a b:List Int},HT.fH a b=true->HT.fH b a=false
 | [],[],h=>by cases h
 | [],_ :: _,_=>rfl
 | _ :: _,[],h=>by cases h
 | x :: xs,y :: ys,h=>by
  rw [HT.nY] at h ⊢
  by_cases e:x=y
  ·rw [if_pos e] at h; rw [if_pos e.symm]; exact F8 h
  ·rw [if_neg e] at h; rw [if_neg (Ne.symm e)]
   have:=bm8 h
   exact bc8 (by omega)
theorem F9:∀ {a b c:List Int},HT.fH a b=false->HT.fH b c=false->HT.fH a c=false
 | [],[],c,_,h=>h
 | [],_ :: _,_,h,_=>by cases h
 | _ :: _,[],[],_,_=>rfl
 | _ :: _,[],_ :: _,_,h=>by cases h
 | _ :: _,_ :: _,[],_,_=>rfl
 | x :: xs,y :: ys,z :: zs,h1,h2=>by
  rw [HT.nY] at h1 h2 ⊢
  by_cases e1:x=y
  ·rw [if_pos e1] at h1
   by_cases e2:y=z
   ·rw [if_pos e2] at h2; rw [if_pos (e1.trans e2)]; exact F9 h1 h2
   ·rw [if_neg e2] at h2; rw [if_neg (by rw [e1]; exact e2)]; rw [e1]; exact h2
  ·rw [if_neg e1] at h1
   have k1:=bl9 h1
   by_cases e2:y=z
   ·rw [<- e2,if_neg e1]; exact h1
   ·rw [if_neg e2] at h2
    have k2:=bl9 h2
    rw [if_neg (by omega)]
    exact bc8 (by omega)
def G0 (H:Hp):V->List Int
 | .ref b=>match H b with
  | some (.tup xs)=>xs.map fun x=>match x with
   | .int i=>i
   | _=>0
  | _=>[]
 | _=>[]
section
variable {prog : Program} {w : World} {A : Around} {s : Shared} {Q : Bool → Shared → Prop}
theorem G1:∀ {us ws:List Value}{xs ys:List Int} (i:Nat),IntsAre us xs->IntsAre ws ys->Q (HT.fH xs ys) s->PySem.W.KatLex prog w A true (decide (us.length < ws.length)) Q (us.zip ws) i s
 | _,_,_,_,_,.nil,.nil,h=>h
 | _,_,_,_,_,.nil,.cons _ _ _,h=>h
 | _,_,_,_,_,.cons _ _ _,.nil,h=>h
 | _,_,_,_,i,.cons (vs:=us) x t hx,.cons (vs:=ws) y u hy,h=>by
  refine PySem.W.kat_cons (wpAny_eqBool_int ?_)
  rw [HT.nY] at h
  by_cases e:x=y
  ·rw [if_pos e] at h
   have eb:(x == y)=true:=by simpa using e
   rw [eb]
   refine PySem.W.kat_yes ?_
   have e2:decide ((Value.int x t :: us).length < (Value.int y u :: ws).length)=decide (us.length < ws.length):=by simp
   rw [e2]
   exact G1 (i+1) hx hy h
  ·rw [if_neg e] at h
   have eb:(x == y)=false:=by simpa using e
   rw [eb]
   refine PySem.W.kat_no ?_
   cases hi:(true && i == 0) with
   | true=>exact PySem.W.kat_lt_int h
   | false=>exact PySem.W.kat_one _ _ (lt_int h)
end
def G2 (K:PySem.W.Frag):List V->Hp->VK->Prop:=fun xs H Q=>∃ (a:Addr) (ys:List V) (key:V->List Int),xs = [.ref a]/\aN K H a ys/\ys.length < 64/\(∀ y ∈ ys,∃ b,y = .ref b/\aO K H b ((key y).map V.int)/\key y ≠ [])/\
 ∀ l (zs:List V),H l=none->zs.Perm ys->zs.Pairwise (fun u v=>HT.fH (key v) (key u)=false)->Q (.ref l) (upd H l (.lst zs))
theorem aq8 {c:Nat->Nat->Bool}{R:V->V->Prop}{ys:List V}{p:Array Nat}{n:Nat} (hp:Srt.PP n p) (ha:Srt.fK c p n) (hR:∀ i j,Srt.Le c i j->R (ys.getD i .non) (ys.getD j .non)) :
  (p.toList.map fun i=>ys.getD i .non).Pairwise R:=by
 rw [bl5,List.pairwise_iff_getElem]
 intro i j hi hj hij
 have hs:=hp.size
 have h1:i < n:=by rw [<- hs]; simpa using hi
 have h2:j < n:=by rw [<- hs]; simpa using hj
 have q:=ha i j (bi2 hij) h2
 have e:∀ k (hk:k < p.toList.length),Srt.G p k=p.toList[k]:=fun k hk=>by
  have hk':k < p.size:=by simpa using hk
  unfold Srt.G; rw [bo5]; simp [hk']
 rw [e i hi,e j hj] at q
 exact hR _ _ q
theorem aq9 {X:Cx}:cZ X (.builtin "sorted") (G2 X.K):=by
 intro pins s σ H xs us Q I r h
 obtain ⟨a,ys,key,rfl,hs,h64,hk,q⟩:=h
 obtain ⟨u,rfl,ru⟩:=gC r
 cases ru
 obtain ⟨its,rv,p,hz⟩:=I.list hs
 have hl:=rv.length
 by_cases h2:its.length < 2
 ·
  refine aq5 p.isList h2 ?_
  obtain ⟨e,he⟩:=sortedAll_at s.heap its its.toArray
  have hn:s.heap.objs.size<=s.heap.objs.size+1:=Nat.le_succ _
  refine⟨.ref (s.heap.objs.size+1),upd H (s.heap.objs.size+1) (.lst ys),I.laid (t':=s.toks) (fun _ _=>sortedAll_old) hn ⟨hz,its,e,rv,he⟩,rfl,q _ ys (I.hok.fresh hn) (bq2 _) ?_⟩
  match ys,hl with
  | [],_=>exact List.Pairwise.nil
  | [_],_=>exact bf8 _ _
  | _ :: _ :: _,hl=>simp at hl; omega
 ·obtain ⟨m,F⟩:=I.fr
  have hL:∀ {b:Addr}{k:List Int},aO X.K H b (k.map V.int)->b ≠ X.env.locals:=fun {b k} z e=>by
   obtain ⟨its',_,⟨ob,e1,c1,_⟩,_⟩:=I.tuple z
   obtain ⟨m',⟨o',es',ep',e2,d2,_⟩,_⟩:=I.loc
   rcases z with (z | ⟨_,z⟩) | ⟨o3,its3,n3,z3,zc,zd,_⟩
   ·rw [e,I.free] at z; cases z
   ·rw [e,I.free] at z; cases z
   ·have:=I.kIn b o3 z3
    rw [e,e2] at this
    cases this
    rw [d2] at zd; cases zd
  refine PySem.W.kat_sorted F (ae5 (g:=X.base) (h:=s.heap) (L:=X.env.locals)) p.isList (by omega) (by omega) fun D e1 h' F' N' hD=>?_
  have keep:=I.newsAll (fun p hp=>be4 _ hp) F' N'
  have look:∀ i,i < ys.length->∃ (b:Addr) (ob:Obj) (us:List Value) (n:Nat),its.getD i Value.none = .ref b/\h'.get? b=some ob/\ob.cls = .type "tuple"/\ob.data = .seq us.toArray n/\IntsAre us (key (ys.getD i .non))/\key (ys.getD i .non) ≠ []:=fun i hi=>by
   have hy:ys.getD i .non ∈ ys:=by
    rw [bd6,bc2 hi]; exact bn7 hi
   obtain ⟨b,eb,sq,ne⟩:=hk _ hy
   have rr:=v4 i hi rv
   rw [eb] at rr
   have rr:its.getD i Value.none = .ref b:=rr
   obtain ⟨us,ru,⟨ob,e1,c1,n1,d1⟩,_⟩:=I.tuple sq
   exact⟨b,ob,us,n1,rr,keep b ob (hL sq) e1,c1,d1,nZ ru,ne⟩
  have firsts:∀ {xs:List V}{vs:List Value},aK xs vs->(∀ y ∈ xs,∃ b,y = .ref b/\aO X.K H b ((key y).map V.int)/\key y ≠ [])->∃ fs:List Value,PySem.W.KatTups h' vs fs/\fs.length=vs.length/\∀ v ∈ fs,∃ i t,v=Value.int i t:=by
   intro xs vs r
   induction r with
   | nil=>intro _; exact⟨[],PySem.W.KatTups.nil,rfl,fun _ z=>nomatch z⟩
   | @cons x v xs vs rx rt ih=>
    intro hh
    obtain ⟨fs,t1,t2,t3⟩:=ih fun y hy=>hh y (be4 _ hy)
    obtain ⟨b,eb,sq,ne⟩:=hh x bd0
    subst eb
    cases rx
    obtain ⟨us,ru,⟨ob,e1,c1,n1,d1⟩,_⟩:=I.tuple sq
    have ia:=nZ ru
    generalize key (V.ref b)=kk at ia ne
    cases ia with
    | nil=>exact absurd rfl ne
    | @cons n t vs0 ns0 ht=>
     exact⟨Value.int n t :: fs,PySem.W.KatTups.cons (keep b ob (hL sq) e1) c1 d1 (by simp) t1,by simp [t2],fun v hv=>(bc5.mp hv).elim (fun z=>⟨n,t,z⟩) (t3 v)⟩
  obtain ⟨fs,t1,t2,t3⟩:=firsts rv hk
  refine PySem.W.kat_kind (T:=.type "int") t1 (by omega) (fun v hv=>?_) (by decide) ?_
  ·obtain ⟨i,t,rfl⟩:=t3 v hv
   exact PySem.W.Looks.now
  let c:Nat->Nat->Bool:=fun i j=>HT.fH (key (ys.getD i .non)) (key (ys.getD j .non))
  have O:Srt.fJ c:=⟨fun h=>F8 h,fun h1 h2=>F9 h1 h2⟩
  have ok:=Srt.aq2 (n:=its.length) O (by omega)
  refine Srt.cB.run (I:=fun s'=>s'={ s with heap:=h' }) (fun i j C s' hi hj hI hC=>?_) (fun pa s' hR hI=>?_) _ _ rfl ok
  ·subst hI
   obtain ⟨b1,o1,u1,n1,g1,g2,_,g4,g5,_⟩:=look i (by omega)
   obtain ⟨b2,o2,u2,n2,k1,k2,_,k4,k5,_⟩:=look j (by omega)
   show wpAny _ _ (keyLt' (tuples' (Value.type "int" != Value.type "tuple")) (its.getD i Value.none) (its.getD j Value.none)) _ _ _
   rw [g1,k1]
   have eT:(Value.type "int" != Value.type "tuple")=true:=by decide
   rw [eT]
   refine PySem.W.kat_lt g2 g4 k2 k4 ?_
   have:=G1 (prog:=X.prog) (w:=X.w) (A:=X.A.in1.in1) (s:={ s with heap:=h' }) (Q:=C) 0 g5 k5 (hC _ rfl)
   simpa using this
  ·subst hI
   obtain ⟨hp,hasc⟩:=hR
   refine PySem.W.KasFin.intro F' N' (PySem.W.UpdF.head fun p hp=>bf4 (hD p hp)) fun h2 cc F2 N2=>?_
   have keep2:=I.newsAll (fun p hp=>be4 _ hp) F2 N2
   have hDn:s.heap.get? D=none:=by
    cases z:s.heap.get? D with
    | none=>rfl
    | some o=>
     obtain ⟨_,n1,n2⟩:=N2 (D,_) bd0
     exact absurd (hD _ (yI n1 n2 z)) (bh7 _)
   have hpl:∀ i ∈ pa.toList,i < ys.length:=fun i hi=>by
    have:=bo9.mp (hp.mem_iff.mp hi); omega
   have hp':pa.toList.Perm (List.range ys.length):=by rw [hl]; exact hp
   have pm:=aq3 (d:=V.non) ys hp'
   obtain ⟨hDo,hDL,hDb⟩:=N2 (D,_) bd0
   obtain ⟨hHD,I2⟩:=I.laidF (t':=s.toks) (a:=D) (o:=.lst (pa.toList.map fun i=>ys.getD i .non)) hDn keep2 (fun m' hm'=>by
     have e:m'=m:=funext fun nm=>Heap.Ns.agree hm' F.ns nm
     rw [e]; exact F2.ns) ⟨by rw [pm.length_eq]; exact hz,_,cc,F7 rv hpl,hDo⟩
   exact⟨.ref D,_,I2,rfl,q D _ hHD pm (aq8 hp hasc fun i j hle=>hle)⟩
end L2
namespace Raw
open PySem PySem.W PySem.Calls PyProof.Rows
def fS (h:Heap) (d:Addr) (es:Array DictEntry) (ep:Nat):Prop:=∃ o,h.get? d=some o/\o.ExactDict/\o.data = .dict es ep
theorem fS.ty {s:Shared}{d:Addr}{es:Array DictEntry}{ep:Nat} (x:fS s.heap d es ep):s.TypeIs (.ref d) "dict":=x.elim fun o y=>⟨o,y.1,y.2.1.1⟩
theorem fS.lt {h:Heap}{d:Addr}{es:Array DictEntry}{ep:Nat} (x:fS h d es ep):d < h.objs.size:=x.elim fun _ y=>bd3 y.1
theorem fS.keep {h h':Heap}{d:Addr}{es:Array DictEntry}{ep:Nat} (x:fS h d es ep) (k:∀ o,h.get? d=some o->h'.get? d=some o):fS h' d es ep:=x.elim fun o y=>⟨o,k o y.1,y.2⟩
section
variable {prog : Program} {w : World} {A : Around} {E : Value → Shared → Prop} {s : Shared} {d it : Addr} {es : Array DictEntry} {ep i : Nat}
theorem made (far:(d == sysModules)=false) (x:fS s.heap d es ep) {Q:Value->Shared->Prop}
  (q:Q (.ref s.heap.objs.size) { s with heap:=s.heap.push { cls:=.type "dict_keyiterator",data:=.fields #[.ref d,.int 0 0,.int es.size 0,.int ep 0] } }):wpAny (model prog w) A (pyIter (.ref d)) Q E s:=by
 have T:=x.ty
 obtain ⟨o,e1,e2,e3⟩:=x
 apply wpAny_pyIter_slot T PySem.F.slot_dict_iter
 apply bi6 PySem.F.slot_dict_iter T PySem.F.entry_dict_iter _ (PySem.F.args_dict_iter_1 _)
 simp only [Builtin.«dict.__iter__»,Builtin.Dict.dictSlotNone]
 apply bb7
 apply bb7
 apply wpAny_notOrdered_dict T
 apply bc3
 change wpAny _ _ (Builtin.Dict.showsAll d >>= _) _ _ s
 have far':Builtin.Dict.showsAll d=pure ():=by
  unfold Builtin.Dict.showsAll
  simp only [far,be3,bi9]
 rw [far',pure_bind]
 apply bb7
 apply wpAny_dictEntries e1 e3
 apply bb7
 apply wpAny_dictEpoch e1 e3
 apply bb7
 refine bk0 (bc3 ?_)
 refine⟨.ref s.heap.objs.size,rfl,"dict_keyiterator",_,⟨_,bd2 _ rfl,rfl⟩,PySem.F.slot_dict_keyiterator_next.lookup,?_⟩
 simpa only [rawInt] using q
theorem turn (hh:A.handled=none) (hi:s.heap.IsKeyIter it d i es.size ep) (x:fS s.heap d es ep) {Q:Option Value->Shared->Prop}
  (yes:∀ (lt:i < es.size) h',h'.IsKeyIter it d (i+1) es.size ep->Heap.SameBut it s.heap h'->Q (some es[i].key) { s with heap:=h' })
  (no:es.size<=i->∀ h',Heap.ExtBut it s.heap h'->Q none { s with heap:=h' }):wpAny (model prog w) A (pyNext (.ref it)) Q E s:=by
 have T:=hi.typeIs
 obtain ⟨oi,f1,f2,f3⟩:=hi
 obtain ⟨o,e1,e2,e3⟩:=x
 have slot:=PySem.F.slot_dict_keyiterator_next
 have plain:Builtin.Dict_items.ownsTuple "dict_keyiterator" = false:=by decide
 have isref:(Value.ref d == Value.none)=false:=rfl
 have nn : ¬ (i:Int) < 0:=by omega
 unfold pyNext
 apply bb7
 apply wpAny_attempt
 apply bi4 (name:=Str.ofString "__next__") T slot
 apply bi6 slot T PySem.F.entry_dict_keyiterator_next _ (PySem.F.args_dict_keyiterator_next_1 _)
 apply bb7
 apply bc3
 apply bb7
 apply bb7
 apply bb7
 first
  | apply wpAny_typeNameOfWhole_keyiter T
  | apply wpAny_typeNameOf_keyiter T
 apply bc3
 apply bb7
 apply wpAny_fieldsOf f1 f3
 simp only [plain,be3,bi9]
 change wpAny _ _ (if (Value.ref d == Value.none)=true then _ else _) _ _ s
 have adr:Builtin.Dict_items.addrOf (Value.ref d)=pure d:=rfl
 simp only [isref,be3,bi9,adr,pure_bind]
 apply bb7
 apply wpAny_dictEntries e1 e3
 simp only [bne_self_eq_false,be3,bi9]
 apply bb7
 apply wpAny_dictEpoch e1 e3
 simp only [bne_self_eq_false,be3,bi9]
 apply bc3
 simp only [nn,bi9,bj9]
 by_cases lt:i < es.size
 ·simp only [Array.getElem?_eq_getElem lt]
  apply bb7
  apply bb7
  first
   | apply wpAny_typeNameOfWhole_keyiter T
   | apply wpAny_typeNameOf_keyiter T
  apply bc3
  apply bb7
  apply wpAny_isOneOf_keyiter T
  change wpAny _ _ (setField (.ref it) 1 (rawInt ((i:Int)+1)) >>= _) _ _ s
  apply bb7
  refine wpAny_setField f1 f3 (by simp) ?_
  have again:(s.heap.update it (Obj.mapFields (·.setIfInBounds 1 (rawInt ((i:Int)+1))))).IsKeyIter it d (i+1) es.size ep:=by
   refine⟨_,Heap.get?_update_self _ f1 (Obj.isFreed_of_fields (Obj.data_mapFields f3 _)),?_,?_⟩
   ·rw [Obj.cls_mapFields]; exact f2
   ·rw [Obj.data_mapFields f3]; simp [rawInt]
  apply bb7
  apply bk9
  apply bb7
  refine wpAny_isOneOf_keyiter (s:={ s with heap:=s.heap.update it (Obj.mapFields (·.setIfInBounds 1 (rawInt ((i:Int)+1)))) }) again.typeIs ?_
  change wpAny _ _ (pure es[i].key) _ _ _
  apply bc3
  apply bc3
  exact⟨es[i].key,rfl,bc3 (yes lt _ again (Heap.SameBut.update ..))⟩
 ·have ge:es.size<=i:=Nat.le_of_not_lt lt
  simp only [Array.getElem?_eq_none ge]
  apply bb7
  apply bb7
  first
   | apply wpAny_typeNameOfWhole_keyiter T
   | apply wpAny_typeNameOf_keyiter T
  apply bc3
  change wpAny _ _ (setField (.ref it) 0 .none >>= _) _ _ s
  apply bb7
  refine wpAny_setField f1 f3 (by simp) ?_
  apply bb7
  simp only [newExc,newTuple]
  apply bb7
  refine bk0 ?_ (by size_fits)
  apply bb7
  refine wpAny_of_eq (a:=Value.none) (by first | rfl | (simp only [firstArgMember]; rfl)) ?_
  refine bk0 ?_ (by size_fits)
  unfold raiseNew
  apply bb7
  apply wpAny_handled
  have quiet:A.in1.handled=none:=hh
  rw [quiet]
  refine wpAny_throw ?_
  apply bb7
  refine wpAny_isInstance (T:="StopIteration") (b:=true) ⟨_,bd2 _ rfl,rfl⟩ isSubtype_stop ?_
  exact bc3 (no ge _ (((Heap.SameBut.update ..).extBut.push _).push _))
theorem ar0 (hh:A.handled=none) (ne:d ≠ it):Walks prog w A it [it,d] [it] es.size (fun i v=>∃ lt:i < es.size,es[i].key=v) (fun i h=>h.IsKeyIter it d i es.size ep/\fS h d es ep) where
 sub:=by intro b hb; rw [bd1.mp hb]; exact bd0
 frame:=by
  intro i h h' st hk
  exact⟨st.1.at (hk it bd0),st.2.keep (hk d (be4 _ bd0))⟩
 item:=by
  intro i s Q E lt st hQ
  refine turn hh st.1 st.2 (fun lt' h' again sb=>?_) fun ge=>absurd lt (Nat.not_lt.mpr ge)
  exact hQ _ h' s.toks ⟨lt',rfl⟩ ⟨again,st.2.keep fun o e=>sb.extBut d o ne e⟩ fun b o hb e=>sb.extBut b o (fun z=>hb (bd1.mpr z)) e
 done:=by
  intro s Q E st hQ
  refine turn hh st.1 st.2 (fun lt=>absurd lt (bh7 _)) fun _ h' eb=>?_
  exact hQ h' s.toks fun b o hb e=>eb b o (fun z=>hb (bd1.mpr z)) e
 self:=by intro i s Q E st hQ; exact wpAny_pyIter_keyiter st.1 hQ
theorem G3 (far:(d == sysModules)=false):KdlSrc prog w "dict" d d es.size (fun i v=>∃ lt:i < es.size,es[i].key=v) (fun h=>fS h d es ep) where
 type:=fun _ x=>x.ty
 there:=fun _ x=>⟨x.lt,x.lt⟩
 keep:=fun _ _ x k=>x.keep (k d (.inl rfl))
 notList:=by decide
 notTuple:=by decide
 hint:=fun _ _ _ _ x q=>kdl_hint_dict x.ty q
 iter:=fun _ _ hh x=>⟨_,_,fun _ _ q=>made far x q,ar0 hh (bf4 x.lt),⟨_,bd2 _ rfl,rfl,rfl⟩,x.keep fun o e=>bb8 _ e⟩
end
end Raw
namespace L2
open PySem PySem.Spec PyProof.Rows
section
variable {X : Cx} {pins : List (Addr × Obj)} {σ : St} {H : Hp} {s : Shared} {a : Addr}
def oF (H:Hp) (y:V) (k:List aC):Prop:=∃ q,y = .ref q/\H q=some (.tup (k.map kV))
theorem ar1 {kvs:List (aC × V)} (I:a8 X pins σ H s) (h:H a=some (.dK kvs)):∃ es ep,Raw.fS s.heap a es ep/\(a == sysModules)=false/\aK (kvs.map fun p=>kV p.1) (es.toList.map (·.key))/\kvs.length<=sizeLine:=by
 obtain ⟨z,far,vs,rel,o,es,ep,e1,e2,e3,kk,pr,nd⟩:=(show bZ X.prog X.w H s.heap a (.dK kvs) from I.hok a _ h)
 refine⟨es,ep,⟨o,e1,e2,e3⟩,far,?_,z⟩
 clear z far e1 e2 e3 kk nd h
 generalize es.toList=l at pr
 induction pr generalizing kvs with
 | nil=>cases rel; exact .nil
 | @cons e k es' kvs' h1 h2 _ ih=>
  cases rel with
  | @cons p q ps qs r rs=>
   refine .cons ?_ (ih rs)
   obtain ⟨r1,_⟩:=r
   show aX (kV p.1) e.key
   rw [r1]
   rcases iG h1 with ⟨n,t,e4,e5⟩ | ⟨x,t,e4,e5⟩
   ·rw [e4,e5]; exact⟨t,rfl⟩
   ·rw [e4,e5]; exact⟨t,rfl⟩
theorem G4 {kvs:List (List aC × V)} (I:a8 X pins σ H s) (h:H a=some (.dT kvs)):∃ es ep ys,Raw.fS s.heap a es ep/\(a == sysModules)=false/\Paired (oF H) ys (kvs.map (·.1))/\aK ys (es.toList.map (·.key))/\kvs.length<=sizeLine:=by
 obtain ⟨z,far,xs,rel,o,es,ep,e1,e2,e3,e4,nd⟩:=(show bZ X.prog X.w H s.heap a (.dT kvs) from I.hok a _ h)
 refine⟨es,ep,xs.map fun q=>V.ref q.2.1,⟨o,e1,e2,e3⟩,far,?_,?_,z⟩
 ·clear e4 nd h z
  induction rel with
  | nil=>exact .nil
  | cons r rs ih=>exact .cons ⟨_,rfl,r.2.1⟩ ih
 ·rw [e4]
  clear rel e4 nd
  induction xs with
  | nil=>exact .nil
  | cons q qs ih=>exact .cons rfl ih
theorem G5 {es:Array DictEntry}{acc:Array Value} (h:ItemsOf (fun i v=>∃ lt:i < es.size,es[i].key=v) acc es.size):acc.toList=es.toList.map (·.key):=by
 apply List.ext_getElem?
 intro j
 have h1:=h.1
 by_cases hj:j < es.size
 ·have hj':j < acc.size:=by rw [h1]; exact hj
  obtain ⟨_,e⟩:=h.2 j acc[j] (by simp [hj'])
  rw [bc9]
  simp [hj,hj',e]
 ·have hj' : ¬ j < acc.size:=by rw [h1]; exact hj
  rw [bc9]
  simp [Nat.le_of_not_lt hj,Nat.le_of_not_lt hj']
theorem ar2 (hc:X.calm=true):cZ X (.type "list") (fun xs H Q=>∃ a kvs,xs = [.ref a]/\H a=some (.dT kvs)/\∀ l ys,H l=none->Paired (oF H) ys (kvs.map (·.1))->Q (.ref l) (upd H l (.lst ys))):=by
 intro pins s σ H xs us Q I r h
 obtain ⟨a,kvs,rfl,ha,q⟩:=h
 obtain ⟨u,rfl,ru⟩:=gC r
 cases ru
 obtain ⟨es,ep,ys,rd,far,pk,vk,z⟩:=G4 I ha
 have hl:=vk.length
 have hl2:=pk.length
 rw [bc4] at hl hl2
 have hsz:es.toList.length=es.size:=bn1
 refine PySem.W.kdl_call (Raw.G3 far) (I.ok.hd hc) rd (by omega) fun h' tk acc c kp e it=>?_
 refine⟨.ref s.heap.objs.size,_,I.laid (t':=tk) kp (bc1 _) (show bZ X.prog X.w _ h' _ (.lst ys) from ⟨by omega,acc.toList,c,by rw [G5 it]; exact vk,by simpa using e⟩),rfl,q _ ys (I.hok.fresh (bc1 _)) pk⟩
end
def G6 (outer:List (Str × NameKind)) (XN:List Str) (names:List (Str × NameKind)) (N:List Str) (fr:List (Option Nat)):Bool:=
 names.all (fun y=>!(y.2 == .cell) || names.lookup y.1 == some .cell) && names.all (fun y=>!(y.2 == .local) || names.lookup y.1 == some .local) &&
 names.all (fun y=>!(y.2 == .free) || (outer.lookup y.1 == some .cell || outer.lookup y.1 == some .free)) && fr.length == N.length &&
 (fr.zip N).all (fun p=>match p.1 with
  | none=>true
  | some j=>XN[j]? == some p.2 && names.lookup p.2 == some .free)
theorem cA.of {X:Cx}{scope:Scope}{N:List Str}{fr:List (Option Nat)} (hk:scope.kind = .function) (h:G6 X.env.scope.names X.N scope.names N fr=true):cA X scope N fr:=by
 unfold G6 at h
 simp only [bd8] at h
 obtain ⟨⟨⟨⟨h1,h2⟩,h3⟩,h4⟩,h5⟩:=h
 refine⟨hk,fun y hy e=>?_,fun y hy e=>?_,fun y hy e=>?_,by simpa using h4,fun i j e=>?_⟩
 ·have:=bm0.mp h1 y hy
  rw [e] at this; simpa using this
 ·have:=bm0.mp h2 y hy
  rw [e] at this; simpa using this
 ·have:=bm0.mp h3 y hy
  rw [e] at this; simpa using this
 ·have hl:fr.length=N.length:=by simpa using h4
  have hi:i < fr.length:=(bc6.mp e).1
  have m:(some j,N[i]'(by omega)) ∈ fr.zip N:=by
   have:(fr.zip N)[i]? = some (some j,N[i]'(by omega)):=by
    rw [List.getElem?_zip_eq_some]
    exact⟨e,by simp⟩
   exact be1 this
  have:=bm0.mp h5 _ m
  simp only [bd8,beq_iff_eq] at this
  exact⟨N[i]'(by omega),by simp,this.1,this.2⟩
theorem wk0 {n:Option V}{r:St}{v:V}:Wk (none :: r) (some v :: r):=(Wk.refl (none :: r)).set (i:=0) rfl
def mC (H:Hp) (ys:List V) (ls:List (Int × Int)):Prop:=Paired (fun y l=>∃ b,y = .ref b/\H b=some (.tup [.int l.1,.int l.2])) ys ls
structure G7 (H:Hp) (v:V) (ws:List Int) (ls:List (Int × Int)):Prop where
 at_:∃ a p q ys,v = .ref a/\H a=some (.tup [.ref p,.ref q])/\H p=some (.tup (ws.map V.int))/\H q=some (.tup ys)/\mC H ys ls
theorem mC.get {H:Hp}:∀ {ys:List V}{ls:List (Int × Int)}{i:Nat}{y:V},mC H ys ls->ys[i]? = some y->∃ l b,ls[i]? = some l/\y = .ref b/\H b=some (.tup [.int l.1,.int l.2])
 | _,_,_,_,.nil,e=>by simp at e
 | _,_,0,_,.cons (b:=l) ⟨b,h1,h2⟩ _,e=>by simp at e; subst e; exact⟨l,b,rfl,h1,h2⟩
 | _,_,i+1,_,.cons _ t,e=>by
  obtain ⟨l,b,h1,h2⟩:=mC.get (i:=i) t (by simpa using e)
  exact⟨l,b,by simpa using h1,h2⟩
def cQ (ls:List (Int × Int)) (k:Int):List Int:=ls.flatMap fun l=>(if l.1=k then [l.2] else []) ++ (if l.2=k then [l.1] else [])
theorem ar3 (ls:List (Int × Int)) (l:Int × Int) (k:Int):cQ (ls ++ [l]) k=cQ ls k ++ ((if l.1=k then [l.2] else []) ++ (if l.2=k then [l.1] else [])):=by
 unfold cQ; rw [List.flatMap_append]; simp
theorem G8 {ls:List (Int × Int)}{i:Nat}{l:Int × Int} (h:ls[i]? = some l) (k:Int):cQ (ls.take (i+1)) k=cQ (ls.take i) k ++ ((if l.1=k then [l.2] else []) ++ (if l.2=k then [l.1] else [])):=by
 rw [bf9,h]; exact ar3 _ _ _
structure jC (H H':Hp) (r:Addr) (bs:List Addr) (f:Nat->List Int):Prop where
 new:H r=none
 news:∀ b ∈ bs,H b=none/\b ≠ r
 nd:bs.Nodup
 row:H' r=some (.lst (bs.map V.ref))
 rows:∀ (k:Nat) (b:Addr),bs[k]? = some b->H' b=some (.lst ((f k).map V.int))
 same:aD H H'
theorem jC.congr {H H':Hp}{r:Addr}{bs:List Addr}{f g:Nat->List Int} (h:jC H H' r bs f) (e:∀ k,k < bs.length->f k=g k):jC H H' r bs g:=
 ⟨h.new,h.news,h.nd,h.row,fun k b hb=>by rw [<- e k (bc6.mp hb).1]; exact h.rows k b hb,h.same⟩
theorem jC.app {H H':Hp}{r:Addr}{bs:List Addr}{f:Nat->List Int} (h:jC H H' r bs f) {k:Nat}{b:Addr} (hb:bs[k]? = some b) (x:Int) :
  jC H (upd H' b (.lst ((f k).map V.int ++ [V.int x]))) r bs (fun j=>if j=k then f j ++ [x] else f j):=by
 have hm:b ∈ bs:=be1 hb
 refine⟨h.new,h.news,h.nd,by rw [aL (Ne.symm (h.news b hm).2)]; exact h.row,fun j c hc=>?_,fun c o e=>by rw [aL (cE e (h.news b hm).1)]; exact h.same c o e⟩
 by_cases hj:j=k
 ·subst hj
  rw [hb] at hc; cases hc
  rw [b8,if_pos rfl]; simp
 ·rw [if_neg hj]
  have ne:c ≠ b:=fun z=>by
   subst z
   obtain ⟨i1,e1⟩:=bc6.mp hb
   obtain ⟨i2,e2⟩:=bc6.mp hc
   refine hj (Nat.le_antisymm (Nat.le_of_not_lt fun z=>?_) (Nat.le_of_not_lt fun z=>?_))
   ·exact List.pairwise_iff_getElem.mp h.nd _ _ i1 i2 z (e1.trans e2.symm)
   ·exact List.pairwise_iff_getElem.mp h.nd _ _ i2 i1 z (e2.trans e1.symm)
  rw [aL ne]; exact h.rows j c hc
theorem qO (ls:List (Int × Int)) (k:Int):(cQ ls k).length<=2 * ls.length:=by
 induction ls with
 | nil=>exact bc1 _
 | cons l r ih=>
  have e:cQ (l :: r) k=((if l.1=k then [l.2] else []) ++ (if l.2=k then [l.1] else [])) ++ cQ r k:=rfl
  rw [e,bc0,bc0,bh9]
  have h1:(if l.1=k then [l.2] else []).length<=1:=by split <;> simp
  have h2:(if l.2=k then [l.1] else []).length<=1:=by split <;> simp
  omega
theorem qP {α:Type}{xs:List α}{i:Int}{v:α} (h0:0<=i) (h:xs[i.toNat]? = some v):atI xs i=some v:=by
 have:=pU h
 rwa [show ((i.toNat:Nat):Int)=i by omega] at this
theorem hU {n:Nat} (h:n<=16000000):n < sizeLine:=by rw [sizeLine_eq]; omega
theorem qQ {σ:St}{H:Hp}{A B:Hp->Prop} (h:A H):uU σ H fun b H4=>if b=true then A H4 else B H4:=by
 show if true=true then A H else B H
 rw [if_pos rfl]; exact h
theorem kX {K:PySem.W.Frag}{H:Hp}{p:Addr}{xs:List V} (h:aN K H p xs):gG K "list" (.ref p) H:=.inl ⟨rfl,xs,h⟩
def oG (H:Hp) (y:V):Int × Int:=match G0 H y with
 | [a,b]=>(a,b)
 | _=>(0,0)
theorem qR {H:Hp}:∀ {zs:List V},(∀ y ∈ zs,∃ b,y = .ref b/\H b=some (.tup [.int (oG H y).1,.int (oG H y).2])/\G0 H y = [(oG H y).1,(oG H y).2])->mC H zs (zs.map (oG H))
 | [],_=>.nil
 | y :: zs,h=>by
  obtain ⟨b,e,hb,_⟩:=h y bd0
  exact .cons ⟨b,e,hb⟩ (qR fun z hz=>h z (be4 _ hz))
end L2
namespace Zp
open PySem PyProof.Rows
section
variable {prog : Program} {w : World} {A : Around} {E : Value → Shared → Prop} {s : Shared}
theorem G9 {it t:Addr}{i:Nat}{items:Array Value}{x:Value}{Q:Value->Shared->Prop} (hi:s.heap.IsTupleIter it t i) (ht:s.heap.IsTuple t items) (hx:items[i]? = some x)
  (q:∀ h',h'.IsTupleIter it t (i+1)->Heap.SameBut it s.heap h'->Q x { s with heap:=h' }):wpAny (model prog w) A (Builtin.SmallTypes.nextOf (.ref it)) Q E s:=by
 have T:=hi.typeIs
 obtain ⟨o,e1,e2,e3⟩:=hi
 obtain ⟨u,f1,_,k,f3⟩:=ht
 have slot:=PySem.F.slot_tuple_iterator_next
 have isref:(Value.ref t == Value.none)=false:=rfl
 unfold Builtin.SmallTypes.nextOf
 apply bb7
 apply bi4 (name:=Str.ofString "__next__") T slot
 apply bi6 slot T PySem.F.entry_tuple_iterator_next _ (PySem.F.args_tuple_iterator_next_1 _)
 change wpAny _ _ (field (.ref it) 0 >>= _) _ _ s
 apply bb7
 refine bi3 e1 e3 (x:=.ref t) rfl ?_
 change wpAny _ _ (if (Value.ref t == Value.none)=true then _ else _) _ _ s
 simp only [isref,be3,bi9]
 change wpAny _ _ (field (.ref it) 1 >>= _) _ _ s
 apply bb7
 refine bi3 e1 e3 (x:=.int i 0) rfl ?_
 change wpAny _ _ (seqItems? (.ref t) >>= _) _ _ s
 apply bb7
 apply bp0 f1 f3
 simp only [bj9,hx]
 apply bb7
 refine wpAny_setField e1 e3 (by simp) ?_
 apply bc3
 refine⟨x,rfl,bc3 (q _ ⟨_,Heap.get?_update_self _ e1 (Obj.isFreed_of_fields (Obj.data_mapFields e3 _)),?_,?_⟩ (Heap.SameBut.update ..))⟩
 ·rw [Obj.cls_mapFields]; exact e2
 ·rw [Obj.data_mapFields e3]; simp [rawInt]
theorem J0 {it t:Addr}{i:Nat}{items:Array Value}{Q:Value->Shared->Prop} (hh:A.handled=none) (hi:s.heap.IsTupleIter it t i) (ht:s.heap.IsTuple t items) (hx:items[i]? = none)
  (q:∀ h' e,Heap.ExtBut it s.heap h'->(∃ o,h'.get? e=some o/\o.cls = .type "StopIteration")->E (.ref e) { s with heap:=h' }):wpAny (model prog w) A (Builtin.SmallTypes.nextOf (.ref it)) Q E s:=by
 have T:=hi.typeIs
 obtain ⟨o,e1,e2,e3⟩:=hi
 obtain ⟨u,f1,_,k,f3⟩:=ht
 have slot:=PySem.F.slot_tuple_iterator_next
 have isref:(Value.ref t == Value.none)=false:=rfl
 unfold Builtin.SmallTypes.nextOf
 apply bb7
 apply bi4 (name:=Str.ofString "__next__") T slot
 apply bi6 slot T PySem.F.entry_tuple_iterator_next _ (PySem.F.args_tuple_iterator_next_1 _)
 change wpAny _ _ (field (.ref it) 0 >>= _) _ _ s
 apply bb7
 refine bi3 e1 e3 (x:=.ref t) rfl ?_
 change wpAny _ _ (if (Value.ref t == Value.none)=true then _ else _) _ _ s
 simp only [isref,be3,bi9]
 change wpAny _ _ (field (.ref it) 1 >>= _) _ _ s
 apply bb7
 refine bi3 e1 e3 (x:=.int i 0) rfl ?_
 change wpAny _ _ (seqItems? (.ref t) >>= _) _ _ s
 apply bb7
 apply bp0 f1 f3
 simp only [bj9,hx]
 apply bb7
 apply wpAny_rule
 apply bb7
 refine wpAny_setField e1 e3 (by simp) ?_
 apply bb7
 simp only [newExc,newTuple]
 apply bb7
 refine bk0 ?_ (by size_fits)
 apply bb7
 refine wpAny_of_eq (a:=Value.none) (by first | rfl | (simp only [firstArgMember]; rfl)) ?_
 refine bk0 ?_ (by size_fits)
 unfold raiseNew
 apply bb7
 apply wpAny_handled
 have quiet:A.in1.handled=none:=hh
 rw [quiet]
 refine wpAny_throw ?_
 exact q _ _ (((Heap.SameBut.update ..).extBut.push _).push _) ⟨_,bd2 _ rfl,rfl⟩
theorem ar4 (hh:A.handled=none) (it t:Addr) (ne:t ≠ it) (items:Array Value):Draws prog w A it [it,t] items.size (fun i v=>items[i]? = some v) (fun i h=>h.IsTupleIter it t i/\h.IsTuple t items) where
 live:=fun _ _ st=>st.1.elim fun o y=>⟨o,y.1⟩
 frame:=fun _ _ _ st k=>⟨st.1.at fun o e=>k it bd0 o e,st.2.elim fun o y=>⟨o,k t (be4 _ bd0) o y.1,y.2⟩⟩
 item:=fun i s Q E lt st q=>G9 st.1 st.2 (Array.getElem?_eq_getElem lt) fun h' again sb=>q _ h' s.toks (Array.getElem?_eq_getElem lt) ⟨again,st.2.elim fun o y=>⟨o,sb.extBut t o ne y.1,y.2⟩⟩ sb
 done:=fun s Q E st q=>J0 hh st.1 st.2 (Array.getElem?_eq_none (bc1 _)) q
end
structure Ap (z TI TO i1 i2:Addr) (fp1 fp2:List Addr):Prop where
 TIz:TI ≠ z
 TOz:TO ≠ z
 TITO:TI ≠ TO
 z1:z ∉ fp1
 z2:z ∉ fp2
 o1:TO ∉ fp1
 o2:TO ∉ fp2
 t1:TI ∉ fp1
 t2:TI ∉ fp2
 m1:i1 ∈ fp1
 m2:i2 ∈ fp2
 n1:i1 ∉ fp2
 n2:i2 ∉ fp1
structure v8 (z TI TO i1 i2:Addr) (St1 St2:Nat->Heap->Prop) (f0:Value) (i j:Nat) (h:Heap):Prop where
 zz:IsZip h z TI TO f0
 ti:IsPair h TI (.ref i1) (.ref i2)
 to_:∃ a b,IsPair h TO a b
 s1:St1 i h
 s2:St2 j h
section
variable {prog : Program} {w : World} {A : Around} {E : Value → Shared → Prop} {s : Shared} {z TI TO i1 i2 : Addr} {fp1 fp2 : List Addr} {n1 n2 : Nat} {P1 P2 : Nat → Value → Prop} {St1 St2 : Nat → Heap → Prop}
theorem mD (ap:Ap z TI TO i1 i2 fp1 fp2) {b:Addr} (h:b ∉ fp1):b ≠ i1:=fun e=>h (e ▸ ap.m1)
theorem qS (ap:Ap z TI TO i1 i2 fp1 fp2) {b:Addr} (h:b ∉ fp2):b ≠ i2:=fun e=>h (e ▸ ap.m2)
theorem item (D1:Draws prog w A.in1 i1 fp1 n1 P1 St1) (D2:Draws prog w A.in1 i2 fp2 n2 P2 St2) (ap:Ap z TI TO i1 i2 fp1 fp2) {i:Nat} (l1:i < n1) (l2:i < n2) (st:v8 z TI TO i1 i2 St1 St2 .none i i s.heap) {Q:Option Value->Shared->Prop}
  (q:∀ x y h' tk,P1 i x->P2 i y->v8 z TI TO i1 i2 St1 St2 (rawInt s.heap.objs.size) (i+1) (i+1) h'->IsPair h' s.heap.objs.size x y->(∀ c o,c ≠ z->c ≠ TO->c ≠ i1->c ≠ i2->s.heap.get? c=some o->h'.get? c=some o)->
   h'.objs.size=s.heap.objs.size+1->Q (some (.ref s.heap.objs.size)) { s with heap:=h',toks:=tk }):wpAny (model prog w) A (pyNext (.ref z)) Q E s:=by
 obtain ⟨hz,hti,⟨a,b,hto⟩,h1,h2⟩:=st
 have T:s.TypeIs (.ref z) "zip":=⟨_,hz,rfl⟩
 have slot:=PySem.F.slot_zip_next
 unfold pyNext
 apply bb7
 apply wpAny_attempt
 apply bi4 (name:=Str.ofString "__next__") T slot
 apply bi6 slot T PySem.F.entry_zip_next _ (PySem.F.args_zip_next_1 _)
 change wpAny _ _ (field (.ref z) 2 >>= _) _ _ _
 apply bb7
 refine bi3 hz rfl (x:=.bool false) rfl ?_
 change wpAny _ _ (field (.ref z) 3 >>= _) _ _ _
 apply bb7
 refine bi3 hz rfl (x:=.ref TI) rfl ?_
 apply bb7
 apply bp0 hti rfl
 change wpAny _ _ (Builtin.SmallTypes.ownedTupleIsFree (.ref z) >>= _) _ _ _
 apply bb7
 unfold Builtin.SmallTypes.ownedTupleIsFree
 apply bb7
 refine bi3 hz rfl (x:=.none) rfl (bc3 ?_)
 simp only [if_true]
 apply bb7
 apply wpAny_rule
 apply bb7
 refine bi3 hz rfl (x:=.ref TO) rfl ?_
 apply bb7
 refine bj3 hz (by simp) fun g1 hz1 sb1=>?_
 have k1:∀ c o,c ≠ z->s.heap.get? c=some o->g1.get? c=some o:=fun c o c1 e=>sb1.extBut c o c1 e
 apply bb7
 simp only [List.zipIdx_cons,List.zipIdx_nil,List.forIn_cons,List.forIn_nil]
 apply bb7
 apply bb7
 apply wpAny_onRaise
 change wpAny _ _ (Builtin.SmallTypes.nextOf (.ref i1) >>= _) _ _ _
 apply bb7
 refine D1.item i { s with heap:=g1 } _ _ l1 (D1.frame _ _ _ h1 fun c hc o e=>k1 c o (fun y=>ap.z1 (y ▸ hc)) e) fun x g2 tk2 px st1 sb2=>bc3 ?_
 have k2:∀ c o,c ≠ z->c ≠ i1->s.heap.get? c=some o->g2.get? c=some o:=fun c o c1 c2 e=>sb2.extBut c o c2 (k1 c o c1 e)
 have to2:IsPair g2 TO a b:=k2 _ _ ap.TOz (mD ap ap.o1) hto
 apply bb7
 apply bp0 to2 rfl
 apply bb7
 refine wpAny_updateSeq_pair to2 fun g3 to3 sb3=>?_
 have to3:IsPair g3 TO x b:=to3
 apply bb7
 apply wpAny_letGo
 apply bc3
 apply bb7
 apply bb7
 apply wpAny_onRaise
 change wpAny _ _ (Builtin.SmallTypes.nextOf (.ref i2) >>= _) _ _ _
 apply bb7
 have k3:∀ c o,c ≠ z->c ≠ i1->c ≠ TO->s.heap.get? c=some o->g3.get? c=some o:=fun c o c1 c2 c3 e=>sb3.extBut c o c3 (k2 c o c1 c2 e)
 refine D2.item i { s with heap:=g3,toks:=tk2 } _ _ l2 (D2.frame _ _ _ h2 fun c hc o e=>k3 c o (fun y=>ap.z2 (y ▸ hc)) (fun y=>ap.n1 (y ▸ hc)) (fun y=>ap.o2 (y ▸ hc)) e) fun y g4 tk4 py st2 sb4=>bc3 ?_
 have to4:IsPair g4 TO x b:=sb4.extBut _ _ (qS ap ap.o2) to3
 apply bb7
 apply bp0 to4 rfl
 apply bb7
 refine wpAny_updateSeq_pair to4 fun g5 to5 sb5=>?_
 have to5:IsPair g5 TO x y:=to5
 apply bb7
 apply wpAny_letGo
 apply bc3
 apply bc3
 apply bb7
 apply bp0 to5 rfl
 apply bb7
 refine wpAny_newTuple ?_ (by show 2<=sizeLine; decide)
 have size:g5.objs.size=s.heap.objs.size:=by rw [sb5.1,sb4.1,sb3.1,sb2.1,sb1.1]
 have k5:∀ c o,c ≠ z->c ≠ TO->c ≠ i1->c ≠ i2->s.heap.get? c=some o->g5.get? c=some o:=fun c o c1 c2 c3 c4 e=>sb5.extBut c o c2 (sb4.extBut c o c4 (k3 c o c1 c3 c2 e))
 have z5:IsZip g5 z TI TO .ellipsis:=sb5.extBut _ _ (Ne.symm ap.TOz) (sb4.extBut _ _ (qS ap ap.z2) (sb3.extBut _ _ (Ne.symm ap.TOz) (sb2.extBut _ _ (mD ap ap.z1) hz1)))
 change wpAny _ _ (Builtin.SmallTypes.ownedTupleHandOut (.ref z) (.ref g5.objs.size) >>= _) _ _ _
 apply bb7
 unfold Builtin.SmallTypes.ownedTupleHandOut
 apply bb7
 have z6:IsZip (g5.push { cls:=.type "tuple",data:=.seq #[x,y] }) z TI TO .ellipsis:=bb8 _ z5
 refine bj3 z6 (by simp) fun g7 z7 sb7=>?_
 have z7:IsZip g7 z TI TO (rawInt g5.objs.size):=z7
 refine bj3 z7 (by simp) fun g8 z8 sb8=>?_
 have z8:IsZip g8 z TI TO (rawInt g5.objs.size):=z8
 have zlt:z < g5.objs.size:=bd3 z5
 have up:∀ c o,c ≠ z->g5.get? c=some o->g8.get? c=some o:=fun c o c1 e=>sb8.extBut c o c1 (sb7.extBut c o c1 (bb8 _ e))
 have p8:IsPair g8 g5.objs.size x y:=sb8.extBut _ _ (bk2 zlt) (sb7.extBut _ _ (bk2 zlt) (bd2 _ rfl))
 have s8:g8.objs.size=g5.objs.size+1:=by rw [sb8.1,sb7.1,bm6]
 have f1:St1 (i+1) g8:=D1.frame _ _ _ st1 fun c hc o e=>up c o (fun y=>ap.z1 (y ▸ hc)) (sb5.extBut c o (fun y=>ap.o1 (y ▸ hc)) (sb4.extBut c o (fun y=>ap.n2 (y ▸ hc)) (sb3.extBut c o (fun y=>ap.o1 (y ▸ hc)) e)))
 have f2:St2 (i+1) g8:=D2.frame _ _ _ st2 fun c hc o e=>up c o (fun y=>ap.z2 (y ▸ hc)) (sb5.extBut c o (fun y=>ap.o2 (y ▸ hc)) e)
 have ti8:IsPair g8 TI (.ref i1) (.ref i2):=up _ _ ap.TIz (k5 _ _ ap.TIz ap.TITO (mD ap ap.t1) (qS ap ap.t2) hti)
 rw [size] at z8 p8 s8
 apply bc3
 refine⟨_,rfl,bc3 ?_⟩
 change Q (some (.ref g5.objs.size)) _
 rw [size]
 exact q x y g8 tk4 px py ⟨z8,ti8,⟨x,y,up _ _ ap.TOz to5⟩,f1,f2⟩ p8 (fun c o c1 c2 c3 c4 e=>up c o c1 (k5 c o c1 c2 c3 c4 e)) s8
theorem fin (D1:Draws prog w A.in1 i1 fp1 n1 P1 St1) (D2:Draws prog w A.in1 i2 fp2 n2 P2 St2) (ap:Ap z TI TO i1 i2 fp1 fp2) {i:Nat} (le:i=n1 ∨ (i < n1/\i=n2)) (st:v8 z TI TO i1 i2 St1 St2 .none i i s.heap) {Q:Option Value->Shared->Prop}
  (q:∀ h' tk,(∀ c o,c ≠ z->c ≠ TO->c ≠ i1->c ≠ i2->s.heap.get? c=some o->h'.get? c=some o)->Q none { s with heap:=h',toks:=tk }):wpAny (model prog w) A (pyNext (.ref z)) Q E s:=by
 obtain ⟨hz,hti,⟨a,b,hto⟩,h1,h2⟩:=st
 have T:s.TypeIs (.ref z) "zip":=⟨_,hz,rfl⟩
 have slot:=PySem.F.slot_zip_next
 unfold pyNext
 apply bb7
 apply wpAny_attempt
 apply bi4 (name:=Str.ofString "__next__") T slot
 apply bi6 slot T PySem.F.entry_zip_next _ (PySem.F.args_zip_next_1 _)
 change wpAny _ _ (field (.ref z) 2 >>= _) _ _ _
 apply bb7
 refine bi3 hz rfl (x:=.bool false) rfl ?_
 change wpAny _ _ (field (.ref z) 3 >>= _) _ _ _
 apply bb7
 refine bi3 hz rfl (x:=.ref TI) rfl ?_
 apply bb7
 apply bp0 hti rfl
 change wpAny _ _ (Builtin.SmallTypes.ownedTupleIsFree (.ref z) >>= _) _ _ _
 apply bb7
 unfold Builtin.SmallTypes.ownedTupleIsFree
 apply bb7
 refine bi3 hz rfl (x:=.none) rfl (bc3 ?_)
 simp only [if_true]
 apply bb7
 apply wpAny_rule
 apply bb7
 refine bi3 hz rfl (x:=.ref TO) rfl ?_
 apply bb7
 refine bj3 hz (by simp) fun g1 hz1 sb1=>?_
 have k1:∀ c o,c ≠ z->s.heap.get? c=some o->g1.get? c=some o:=fun c o c1 e=>sb1.extBut c o c1 e
 apply bb7
 simp only [List.zipIdx_cons,List.zipIdx_nil,List.forIn_cons,List.forIn_nil]
 apply bb7
 apply bb7
 apply wpAny_onRaise
 change wpAny _ _ (Builtin.SmallTypes.nextOf (.ref i1) >>= _) _ _ _
 apply bb7
 have z1:IsZip g1 z TI TO .ellipsis:=hz1
 rcases le with rfl | ⟨lt,rfl⟩
 ·refine D1.done { s with heap:=g1 } _ _ (D1.frame _ _ _ h1 fun c hc o e=>k1 c o (fun y=>ap.z1 (y ▸ hc)) e) fun g2 e eb ex=>?_
  have z2:IsZip g2 z TI TO .ellipsis:=eb _ _ (mD ap ap.z1) z1
  refine bj3 z2 (by simp) fun g3 z3 sb3=>?_
  obtain ⟨oe,eo,co⟩:=ex
  have ne:e ≠ z:=fun y=>by
   rw [y,z2] at eo
   have:=be8 eo
   rw [<- this] at co; exact absurd (show Value.type "zip" = Value.type "StopIteration" from co) (by decide)
  apply bb7
  refine wpAny_isInstance (T:="StopIteration") (b:=true) ⟨oe,sb3.extBut _ _ ne eo,co⟩ isSubtype_stop ?_
  exact bc3 (q g3 s.toks fun c o c1 _ c3 _ e=>sb3.extBut c o c1 (eb c o c3 (k1 c o c1 e)))
 ·refine D1.item i { s with heap:=g1 } _ _ lt (D1.frame _ _ _ h1 fun c hc o e=>k1 c o (fun y=>ap.z1 (y ▸ hc)) e) fun x g2 tk2 px st1 sb2=>bc3 ?_
  have k2:∀ c o,c ≠ z->c ≠ i1->s.heap.get? c=some o->g2.get? c=some o:=fun c o c1 c2 e=>sb2.extBut c o c2 (k1 c o c1 e)
  have to2:IsPair g2 TO a b:=k2 _ _ ap.TOz (mD ap ap.o1) hto
  apply bb7
  apply bp0 to2 rfl
  apply bb7
  refine wpAny_updateSeq_pair to2 fun g3 to3 sb3=>?_
  apply bb7
  apply wpAny_letGo
  apply bc3
  apply bb7
  apply bb7
  apply wpAny_onRaise
  change wpAny _ _ (Builtin.SmallTypes.nextOf (.ref i2) >>= _) _ _ _
  apply bb7
  have k3:∀ c o,c ≠ z->c ≠ i1->c ≠ TO->s.heap.get? c=some o->g3.get? c=some o:=fun c o c1 c2 c3 e=>sb3.extBut c o c3 (k2 c o c1 c2 e)
  refine D2.done { s with heap:=g3,toks:=tk2 } _ _ (D2.frame _ _ _ h2 fun c hc o e=>k3 c o (fun y=>ap.z2 (y ▸ hc)) (fun y=>ap.n1 (y ▸ hc)) (fun y=>ap.o2 (y ▸ hc)) e) fun g4 e eb ex=>?_
  have z4:IsZip g4 z TI TO .ellipsis:=eb _ _ (qS ap ap.z2) (sb3.extBut _ _ (Ne.symm ap.TOz) (sb2.extBut _ _ (mD ap ap.z1) z1))
  refine bj3 z4 (by simp) fun g5 z5 sb5=>?_
  obtain ⟨oe,eo,co⟩:=ex
  have ne:e ≠ z:=fun y=>by
   rw [y,z4] at eo
   have:=be8 eo
   rw [<- this] at co; exact absurd (show Value.type "zip" = Value.type "StopIteration" from co) (by decide)
  apply bb7
  refine wpAny_isInstance (T:="StopIteration") (b:=true) ⟨oe,sb5.extBut _ _ ne eo,co⟩ isSubtype_stop ?_
  exact bc3 (q g5 tk2 fun c o c1 c2 c3 c4 e=>sb5.extBut c o c1 (eb c o c4 (k3 c o c1 c3 c2 e)))
end
def fT (h:Heap) (t u:Addr):Heap:=
 ((((h.push { cls:=.type "tuple_iterator",data:=.fields #[.ref t,.int 0 0] }).push { cls:=.type "tuple_iterator",data:=.fields #[.ref u,.int 0 0] }).push { cls:=.type "tuple",data:=.seq #[.ref h.objs.size,.ref (h.objs.size+1)] }).push
  { cls:=.type "tuple",data:=.seq #[.none,.none] }).push { cls:=.type "zip",data:=.fields #[.none,.bool false,.bool false,.ref (h.objs.size+2),.ref (h.objs.size+3)] }
theorem ar5 (t u:Addr) (xs ys:Array Value):Meets (Builtin.«zip.__new__» ⟨[.type "zip",.ref t,.ref u],[]⟩) (fun _ R s=>s.heap.IsTuple t xs/\s.heap.IsTuple u ys/\R (.ok (.ret (.ref (s.heap.objs.size+4)))) { s with heap:=fT s.heap t u }):=
 .of_wp fun prog w A R s h=>by
  obtain ⟨hp,g,d,tk,os⟩:=s
  obtain ⟨ht,hu,h⟩:=h
  have sub:=sub_zip
  have a1:Heap.IsTuple (Shared.heap ⟨hp,g,d,tk,os⟩) t xs:=ht
  have a2:Heap.IsTuple (Shared.heap ⟨hp.push { cls:=.type "tuple_iterator",data:=.fields #[.ref t,.int 0 0] },g,d,tk,os⟩) u ys:=hu.elim fun o y=>⟨o,bb8 _ y.1,y.2⟩
  wp_walk using bn6 a1,bn6 a2
  have e:∀ (o:Obj) (k:Heap),(k.push o).objs.size=k.objs.size+1:=fun o k=>bm6 ..
  refine⟨_,rfl,?_⟩
  simp only [fT,e] at h ⊢
  exact h
section
variable {prog : Program} {w : World} {A : Around} {E : Value → Shared → Prop} {s : Shared}
theorem ar6 {t u:Addr}{xs ys:Array Value}{Q:Value->Shared->Prop} (ht:s.heap.IsTuple t xs) (hu:s.heap.IsTuple u ys)
  (q:∀ h',IsZip h' (s.heap.objs.size+4) (s.heap.objs.size+2) (s.heap.objs.size+3) .none->IsPair h' (s.heap.objs.size+2) (.ref s.heap.objs.size) (.ref (s.heap.objs.size+1))->
   IsPair h' (s.heap.objs.size+3) .none .none->h'.IsTupleIter s.heap.objs.size t 0->h'.IsTupleIter (s.heap.objs.size+1) u 0->(∀ c o,s.heap.get? c=some o->h'.get? c=some o)->Q (.ref (s.heap.objs.size+4)) { s with heap:=h' }) :
  wpAny (model prog w) A (call (.type "zip") [.ref t,.ref u]) Q E s:=by
 refine callType_new PySem.F.called_zip (by decide) (PySem.F.typeCall_zip_2 _ _) (PySem.F.newCall_zip_2 _ _) (fun obj=>PySem.F.args_object_init_3 obj _ _) PySem.F.entry_zip_new (ar5 t u xs ys) ⟨ht,hu,?_⟩
 have e:∀ (o:Obj) (k:Heap),(k.push o).objs.size=k.objs.size+1:=fun o k=>bm6 ..
 have p0:∀ (k:Heap) (o:Obj) (m:Nat),o.isFreed=false->m=k.objs.size->(k.push o).get? m=some o:=fun k o m f z=>by rw [z]; exact bd2 _ f
 have g0:(fT s.heap t u).get? s.heap.objs.size=some { cls:=.type "tuple_iterator",data:=.fields #[.ref t,.int 0 0] }:=by
  unfold fT
  exact bb8 _ (bb8 _ (bb8 _ (bb8 _ (p0 _ _ _ rfl rfl))))
 have g1:(fT s.heap t u).get? (s.heap.objs.size+1)=some { cls:=.type "tuple_iterator",data:=.fields #[.ref u,.int 0 0] }:=by
  unfold fT
  exact bb8 _ (bb8 _ (bb8 _ (p0 _ _ _ rfl (by simp only [e]))))
 have g2:(fT s.heap t u).get? (s.heap.objs.size+2)=some { cls:=.type "tuple",data:=.seq #[.ref s.heap.objs.size,.ref (s.heap.objs.size+1)] }:=by
  unfold fT
  exact bb8 _ (bb8 _ (p0 _ _ _ rfl (by simp only [e])))
 have g3:(fT s.heap t u).get? (s.heap.objs.size+3)=some { cls:=.type "tuple",data:=.seq #[.none,.none] }:=by
  unfold fT
  exact bb8 _ (p0 _ _ _ rfl (by simp only [e]))
 have g4:(fT s.heap t u).get? (s.heap.objs.size+4)=some { cls:=.type "zip",data:=.fields #[.none,.bool false,.bool false,.ref (s.heap.objs.size+2),.ref (s.heap.objs.size+3)] }:=by
  unfold fT
  exact p0 _ _ _ rfl (by simp only [e])
 refine⟨⟨_,g4,rfl⟩,q _ g4 g2 g3 ⟨_,g0,rfl,rfl⟩ ⟨_,g1,rfl,rfl⟩ fun c o z=>?_⟩
 unfold fT
 exact bb8 _ (bb8 _ (bb8 _ (bb8 _ (bb8 _ z))))
end
end Zp
namespace L2
open PySem PySem.Spec PyProof.Rows
def v9 (K:PySem.W.Frag) (a b:Addr):It:=
  ⟨fun i H=>∃ xs ys x y,aO K H a xs/\aO K H b ys/\xs[i]? = some x/\ys[i]? = some y,
   fun i H v H'=>∃ T x y,H T=none/\v = .ref T/\H'=upd H T (.tup [x,y])/\∀ xs ys,aO K H a xs->aO K H b ys->xs[i]? = some x/\ys[i]? = some y,
   fun i H=>∃ xs ys,aO K H a xs/\aO K H b ys/\(i=xs.length ∨ (i < xs.length/\i=ys.length))⟩
def Sq (t:Bool) (K:PySem.W.Frag) (H:Hp) (a:Addr) (xs:List V):Prop:=match t with
 | true=>aO K H a xs
 | false=>aN K H a xs
def fU (t:Bool) (h:Heap) (i a:Addr) (n:Nat):Prop:=match t with
 | true=>h.IsTupleIter i a n
 | false=>h.IsListIter i a n
def J1 (t:Bool) (h:Heap) (a:Addr) (xs:Array Value):Prop:=match t with
 | true=>h.IsTuple a xs
 | false=>h.IsList a xs
theorem fU.at {h h':Heap}{i a:Addr}{n:Nat}:∀ {t:Bool},fU t h i a n->(∀ o,h.get? i=some o->h'.get? i=some o)->fU t h' i a n
 | true,x,k=>Heap.IsTupleIter.at x k
 | false,x,k=>Heap.IsListIter.at x k
theorem fU.ob {h:Heap}{i a:Addr}{n:Nat}:∀ {t:Bool},fU t h i a n->∃ o,h.get? i=some o/\∀ v,o.data ≠ .cell v
 | true,⟨o,f,_,d⟩=>⟨o,f,fun v q=>by rw [d] at q; cases q⟩
 | false,⟨o,f,_,d⟩=>⟨o,f,fun v q=>by rw [d] at q; cases q⟩
theorem fU.draws {prog:Program}{w:World}{A:Around}:∀ (t:Bool) (hh:A.handled=none) (it a:Addr) (ne:a ≠ it) (items:Array Value),Draws prog w A it [it,a] items.size (fun i v=>items[i]? = some v) (fun i h=>fU t h it a i/\J1 t h a items)
 | true,hh,it,a,ne,items=>Zp.ar4 hh it a ne items
 | false,hh,it,a,ne,items=>Draws.list hh it a ne items
section
variable {X : Cx} {pins : List (Addr × Obj)} {σ : St} {H : Hp} {s : Shared} {a : Addr} {xs ys : List V}
theorem Sq.get (I:a8 X pins σ H s):∀ {t:Bool},Sq t X.K H a xs->∃ us,aK xs us/\J1 t s.heap a us.toArray
 | true,h=>by obtain ⟨us,r,p,_⟩:=I.tuple h; exact⟨us,r,p⟩
 | false,h=>by obtain ⟨us,r,p,_⟩:=I.list h; exact⟨us,r,p.isList⟩
theorem Sq.inj (I:a8 X pins σ H s):∀ {t:Bool},Sq t X.K H a xs->Sq t X.K H a ys->xs=ys
 | true,h,g=>I.tuple_inj h g
 | false,h,g=>I.list_inj h g
theorem Sq.off (I:a8 X pins σ H s) (he:H a=none) (hb:X.base.get? a=none):∀ {t:Bool},Sq t X.K H a xs->False
 | true,h=>by
  rcases h with (h | ⟨_,h⟩) | ⟨o,_,_,h,_⟩
  ·rw [he] at h; cases h
  ·rw [he] at h; cases h
  ·have:=I.ok.mod.kin a o h
   rw [hb] at this; cases this
 | false,h=>by
  rcases h with (h | ⟨_,h⟩) | ⟨o,_,_,h,_⟩
  ·rw [he] at h; cases h
  ·rw [he] at h; cases h
  ·have:=I.ok.mod.kin a o h
   rw [hb] at this; cases this
end
def ar7 (t1 t2:Bool) (K:PySem.W.Frag) (a b:Addr):It:=
  ⟨fun i H=>∃ xs ys x y,Sq t1 K H a xs/\Sq t2 K H b ys/\xs[i]? = some x/\ys[i]? = some y,
   fun i H v H'=>∃ T x y,H T=none/\v = .ref T/\H'=upd H T (.tup [x,y])/\∀ xs ys,Sq t1 K H a xs->Sq t2 K H b ys->xs[i]? = some x/\ys[i]? = some y,
   fun i H=>∃ xs ys,Sq t1 K H a xs/\Sq t2 K H b ys/\(i=xs.length ∨ (i < xs.length/\i=ys.length))⟩
structure vA (t1 t2:Bool) (z TI TO i1 i2 a b:Addr) (i:Nat) (h:Heap):Prop where
 zz:IsZip h z TI TO .none
 ti:IsPair h TI (.ref i1) (.ref i2)
 to_:∃ x y,IsPair h TO x y
 s1:fU t1 h i1 a i
 s2:fU t2 h i2 b i
theorem J2 (t1 t2:Bool) {P:Program}{w:World}{K:PySem.W.Frag}{elts:List Expr}{k:Nat}{pos:Pos} (a b z TI TO i1 i2:Addr) (d : [z,TI,TO,i1,i2].Nodup) :
  gB P w K (.Tuple elts k pos) (ar7 t1 t2 K a b) [z,TI,TO,i1,i2] z (vA t1 t2 z TI TO i1 i2 a b):=by
 have nd:z ≠ TI/\z ≠ TO/\z ≠ i1/\z ≠ i2/\TI ≠ TO/\TI ≠ i1/\TI ≠ i2/\TO ≠ i1/\TO ≠ i2/\i1 ≠ i2:=by
  simp only [List.nodup_cons,bc5,bc7,bg5,not_or] at d
  obtain ⟨⟨a1,a2,a3,a4⟩,⟨b1,b2,b3⟩,⟨c1,c2⟩,e1,_⟩:=d
  exact⟨a1,a2,a3,a4,b1,b2,b3,c1,c2,e1⟩
 obtain ⟨n1,n2,n3,n4,n5,n6,n7,n8,n9,n10⟩:=nd
 have offBase:∀ {X:Cx}{pins:List (Addr × Obj)}{σ:St}{H:Hp}{s:Shared},a8 X pins σ H s->(∀ c ∈ [z,TI,TO,i1,i2],gA X pins H c)->∀ c ∈ [z,TI,TO,i1,i2],X.base.get? c=none:=by
  intro X pins σ H s I hf c hc
  cases q:X.base.get? c with
  | none=>rfl
  | some o=>
   rcases (hf c hc).2.2.2.1 with h | h
   ·exact absurd h (I.ok.noex c o q)
   ·exact absurd (bd5 (bd3 q) (bg0 I.ok.bsz h)) (bh7 _)
 have off:∀ {t:Bool}{X:Cx}{pins:List (Addr × Obj)}{σ:St}{H:Hp}{s:Shared}{c:Addr}{zs:List V},a8 X pins σ H s->(∀ c ∈ [z,TI,TO,i1,i2],gA X pins H c)->Sq t X.K H c zs->c ∉ [z,TI,TO,i1,i2]:=by
  intro t X pins σ H s c zs I hf hc hm
  exact Sq.off I (hf c hm).1 (offBase I hf c hm) hc
 have ap:∀ {c e:Addr},c ∉ [z,TI,TO,i1,i2]->e ∉ [z,TI,TO,i1,i2]->Zp.Ap z TI TO i1 i2 [i1,c] [i2,e]:=fun {c e} hc he=>by
  simp only [bc5,bc7,bg5,not_or] at hc he
  obtain ⟨c1,c2,c3,c4,c5⟩:=hc
  obtain ⟨e1,e2,e3,e4,e5⟩:=he
  have two:∀ {q u v:Addr},q ≠ u->q ≠ v->q ∉ [u,v]:=fun {q u v} h1 h2 hm=>by
   simp only [bc5,bc7,bg5] at hm
   exact hm.elim h1 h2
  exact⟨n1.symm,n2.symm,n5,two n3 (Ne.symm c1),two n4 (Ne.symm e1),two n8 (Ne.symm c3),two n9 (Ne.symm e3),two n6 (Ne.symm c2),two n7 (Ne.symm e2),bd0,bd0,two n10 (Ne.symm e4),two n10.symm (Ne.symm c5)⟩
 refine⟨by simp,fun i h st c hc=>?_,fun i h h' st kp=>?_,?_,?_,fun A i s Q E st q=>wpAny_pyIter_zip st.zz q⟩
 ·simp only [bc5,bc7,bg5] at hc
  obtain ⟨x,y,to⟩:=st.to_
  rcases hc with rfl | rfl | rfl | rfl | rfl
  ·exact⟨_,st.zz,fun v q=>by cases q⟩
  ·exact⟨_,st.ti,fun v q=>by cases q⟩
  ·exact⟨_,to,fun v q=>by cases q⟩
  ·exact st.s1.ob
  ·exact st.s2.ob
 ·obtain ⟨x,y,to⟩:=st.to_
  exact⟨kp z (by simp) _ st.zz,kp TI (by simp) _ st.ti,⟨x,y,kp TO (by simp) _ to⟩,st.s1.at fun o e=>kp i1 (by simp) o e,st.s2.at fun o e=>kp i2 (by simp) o e⟩
 ·
  intro X hP hw hK hc i pins s σ H E I hf st hg
  subst hP hw hK
  obtain ⟨xs,ys,x,y,ha,hb,hx,hy⟩:=hg
  obtain ⟨us,ru,pu⟩:=Sq.get I ha
  obtain ⟨vs,rv,pv'⟩:=Sq.get I hb
  obtain ⟨ux,eux,rux⟩:=ru.get hx
  obtain ⟨vy,evy,rvy⟩:=rv.get hy
  have fa:=off I hf ha
  have fb:=off I hf hb
  have hh:X.A.in1.handled=none:=I.ok.hd hc
  have l1:i < us.toArray.size:=by simpa using (bc6.mp eux).1
  have l2:i < vs.toArray.size:=by simpa using (bc6.mp evy).1
  have fa':a ≠ i1:=fun q=>fa (by rw [q]; simp)
  have fb':b ≠ i2:=fun q=>fb (by rw [q]; simp)
  have D1:=fU.draws t1 (prog:=X.prog) (w:=X.w) hh i1 a fa' us.toArray
  have D2:=fU.draws t2 (prog:=X.prog) (w:=X.w) hh i2 b fb' vs.toArray
  refine Zp.item D1 D2 (ap fa fb) l1 l2 ⟨st.zz,st.ti,st.to_,⟨st.s1,pu⟩,⟨st.s2,pv'⟩⟩ fun p q h' tk hp hq st' pr kp sz=>⟨_,rfl,?_⟩
  obtain rfl:p=ux:=by
   have:us.toArray[i]? = some ux:=by simpa using eux
   rw [this] at hp; exact (be8 hp).symm
  obtain rfl:q=vy:=by
   have:vs.toArray[i]? = some vy:=by simpa using evy
   rw [this] at hq; exact (be8 hq).symm
  refine wpAny_letOwnedTupleGo_zip (s:={ s with heap:=h',toks:=tk }) st'.zz fun g zz sb=>?_
  have hzl:z < s.heap.objs.size:=bd3 st.zz
  have up:∀ c o,c ≠ z->c ≠ TO->c ≠ i1->c ≠ i2->s.heap.get? c=some o->g.get? c=some o:=fun c o c1 c2 c3 c4 e=>sb.extBut c o c1 (kp c o c1 c2 c3 c4 e)
  have hT:H s.heap.objs.size=none:=I.hok.fresh (bc1 _)
  have prG:IsPair g s.heap.objs.size p q:=sb.extBut _ _ (bk2 hzl) pr
  have fpn:∀ c u,H c=some u->c ∉ [z,TI,TO,i1,i2]:=fun c u e hm=>by rw [(hf c hm).1] at e; cases e
  have upH:∀ c o u,H c=some u->s.heap.get? c=some o->g.get? c=some o:=fun c o u e z=>by
   have:=fpn c u e
   simp only [bc5,bc7,bg5,not_or] at this
   exact up c o this.1 this.2.2.1 this.2.2.2.1 this.2.2.2.2 z
  have ns:∀ m,s.heap.Ns X.env.locals m->g.Ns X.env.locals m:=fun m hm=>by
   obtain ⟨o,es,ep,e1,e2⟩:=hm
   exact⟨o,es,ep,up _ o (Ne.symm (hf z (by simp)).2.1) (Ne.symm (hf TO (by simp)).2.1) (Ne.symm (hf i1 (by simp)).2.1) (Ne.symm (hf i2 (by simp)).2.1) e1,e2⟩
  have I2:a8 X pins σ (upd H s.heap.objs.size (.tup [x,y])) { s with heap:=g,toks:=tk }:=by
   refine I.step (g':=s.gens) (d':=s.drawn) (ch:=[z,TO,i1,i2]) (fun c hc'=>?_) (fun c o _ _ hc' e _=>?_) (fun c o _ _ hc' e _=>⟨o.slots,?_⟩) (fun c o _ e n=>?_) (fun c o hc' e=>⟨o,?_⟩)
    (fun c zs e=>by rw [aL (cE e hT)]; exact e) (fun c u zs e=>by rw [aL (cE e hT)]; exact e) (fun c ps e=>⟨#[],by rw [aL (cE e hT),e]; simp⟩) ns (fun c u e=>?_) I.bare
   ·have hm:c ∈ [z,TI,TO,i1,i2]:=by
     simp only [bc5,bc7,bg5] at hc' ⊢
     rcases hc' with h | h | h | h <;> simp [h]
    exact⟨(hf c hm).2.2.2.1,(hf c hm).2.1,(hf c hm).2.2.2.2.1,(hf c hm).2.2.2.2.2⟩
   ·simp only [bc5,bc7,bg5,not_or] at hc'
    exact up c o hc'.1 hc'.2.1 hc'.2.2.1 hc'.2.2.2 e
   ·simp only [bc5,bc7,bg5,not_or] at hc'
    exact up c o hc'.1 hc'.2.1 hc'.2.2.1 hc'.2.2.2 e
   ·rw [aL (bf4 (bd3 e))]; exact n
   ·simp only [bc5,bc7,bg5,not_or] at hc'
    exact up c o hc'.1 hc'.2.1 hc'.2.2.1 hc'.2.2.2 e
   ·by_cases hcT:c=s.heap.objs.size
    ·subst hcT
     rw [b8] at e; cases e
     exact⟨by show 2<=sizeLine; decide,[p,q],.cons rux (.cons rvy .nil),⟨_,prG,rfl,_,rfl⟩⟩
    ·rw [aL hcT] at e
     refine (I.hok c u e).stay (fun c' o' hc2 q'=>?_) (fun c' q'=>by rw [aL (cE q' hT)]; exact q') fun c' zs q'=>by rw [aL (cE q' hT)]; exact q'
     rcases hc2 with rfl | hc2
     ·exact upH _ _ _ e q'
     ·exact upH _ _ _ hc2 q'
  obtain ⟨x',y',to'⟩:=st'.to_
  refine⟨.ref s.heap.objs.size,_,I2,rfl,⟨_,x,y,hT,rfl,rfl,fun xs' ys' ha' hb'=>?_⟩,⟨zz,sb.extBut _ _ n1.symm st'.ti,⟨x',y',sb.extBut _ _ n2.symm to'⟩,st'.s1.1.at fun o e=>sb.extBut _ o n3.symm e,st'.s2.1.at fun o e=>sb.extBut _ o n4.symm e⟩,fun c hc'=>?_⟩
  ·rw [Sq.inj I ha' ha,Sq.inj I hb' hb]; exact⟨hx,hy⟩
  ·obtain ⟨o,e,_⟩:∃ o,s.heap.get? c=some o/\True:=by
    simp only [bc5,bc7,bg5] at hc'
    obtain ⟨x2,y2,to2⟩:=st.to_
    obtain ⟨o1,f1,_⟩:=st.s1.ob
    obtain ⟨o2,f2,_⟩:=st.s2.ob
    rcases hc' with rfl | rfl | rfl | rfl | rfl
    ·exact⟨_,st.zz,trivial⟩
    ·exact⟨_,st.ti,trivial⟩
    ·exact⟨_,to2,trivial⟩
    ·exact⟨_,f1,trivial⟩
    ·exact⟨_,f2,trivial⟩
   rw [aL (bf4 (bd3 e))]; exact (hf c hc').1
 ·
  intro X hP hw hK hc i pins s σ H E I hf st hg
  subst hP hw hK
  obtain ⟨xs,ys,ha,hb,hi⟩:=hg
  obtain ⟨us,ru,pu⟩:=Sq.get I ha
  obtain ⟨vs,rv,pv'⟩:=Sq.get I hb
  have fa:=off I hf ha
  have fb:=off I hf hb
  have hh:X.A.in1.handled=none:=I.ok.hd hc
  have fa':a ≠ i1:=fun q=>fa (by rw [q]; simp)
  have fb':b ≠ i2:=fun q=>fb (by rw [q]; simp)
  have D1:=fU.draws t1 (prog:=X.prog) (w:=X.w) hh i1 a fa' us.toArray
  have D2:=fU.draws t2 (prog:=X.prog) (w:=X.w) hh i2 b fb' vs.toArray
  have e1:=ru.length
  have e2:=rv.length
  refine Zp.fin D1 D2 (ap fa fb) (by simp only [bb9]; omega) ⟨st.zz,st.ti,st.to_,⟨st.s1,pu⟩,⟨st.s2,pv'⟩⟩ fun g tk kp=>⟨rfl,?_⟩
  have fpn:∀ c u,H c=some u->c ∉ [z,TI,TO,i1,i2]:=fun c u e hm=>by rw [(hf c hm).1] at e; cases e
  have upH:∀ c o u,H c=some u->s.heap.get? c=some o->g.get? c=some o:=fun c o u e z=>by
   have:=fpn c u e
   simp only [bc5,bc7,bg5,not_or] at this
   exact kp c o this.1 this.2.2.1 this.2.2.2.1 this.2.2.2.2 z
  have ns:∀ m,s.heap.Ns X.env.locals m->g.Ns X.env.locals m:=fun m hm=>by
   obtain ⟨o,es,ep,e1,e2⟩:=hm
   exact⟨o,es,ep,kp _ o (Ne.symm (hf z (by simp)).2.1) (Ne.symm (hf TO (by simp)).2.1) (Ne.symm (hf i1 (by simp)).2.1) (Ne.symm (hf i2 (by simp)).2.1) e1,e2⟩
  refine I.step (g':=s.gens) (d':=s.drawn) (ch:=[z,TO,i1,i2]) (fun c hc'=>?_) (fun c o _ _ hc' e _=>?_) (fun c o _ _ hc' e _=>⟨o.slots,?_⟩) (fun c o _ e n=>n) (fun c o hc' e=>⟨o,?_⟩)
   (fun c zs e=>e) (fun c u zs e=>e) (fun c ps e=>⟨#[],by rw [e]; simp⟩) ns (fun c u e=>?_) I.bare
  ·have hm:c ∈ [z,TI,TO,i1,i2]:=by
    simp only [bc5,bc7,bg5] at hc' ⊢
    rcases hc' with h | h | h | h <;> simp [h]
   exact⟨(hf c hm).2.2.2.1,(hf c hm).2.1,(hf c hm).2.2.2.2.1,(hf c hm).2.2.2.2.2⟩
  ·simp only [bc5,bc7,bg5,not_or] at hc'
   exact kp c o hc'.1 hc'.2.1 hc'.2.2.1 hc'.2.2.2 e
  ·simp only [bc5,bc7,bg5,not_or] at hc'
   exact kp c o hc'.1 hc'.2.1 hc'.2.2.1 hc'.2.2.2 e
  ·simp only [bc5,bc7,bg5,not_or] at hc'
   exact kp c o hc'.1 hc'.2.1 hc'.2.2.1 hc'.2.2.2 e
  ·refine (I.hok c u e).stay (fun c' o' hc2 q'=>?_) (fun _ q'=>q') fun _ _ q'=>q'
   rcases hc2 with rfl | hc2
   ·exact upH _ _ _ e q'
   ·exact upH _ _ _ hc2 q'
abbrev ar8:=vA true true
theorem ar9 {P:Program}{w:World}{K:PySem.W.Frag}{elts:List Expr}{k:Nat}{pos:Pos} (a b z TI TO i1 i2:Addr) (d : [z,TI,TO,i1,i2].Nodup) :
  gB P w K (.Tuple elts k pos) (v9 K a b) [z,TI,TO,i1,i2] z (ar8 z TI TO i1 i2 a b):=J2 true true a b z TI TO i1 i2 d
section
variable {X : Cx}
def as0 (K:PySem.W.Frag) (ta:TA):TI:=fun σ H R=>ta σ H fun vs H1=>∃ a b xs ys,vs = [.ref a,.ref b]/\aO K H1 a xs/\aO K H1 b ys/\R (v9 K a b) H1
theorem as1 {elts:List Expr}{kt:Nat}{pt:Pos}{a b:Expr}{ta:TA}{p pos:Pos} (hg:Gl X "zip") (hm:X.mg "zip" = none) (ha:PA X [a,b] ta) (hs:starEach [a,b] X.env = [(false,eval a X.env),(false,eval b X.env)]:=by rfl) (hs2:starEach [b] X.env = [(false,eval b X.env)]:=by rfl) :
  PI X (.Tuple elts kt pt) (.Call (.Name "zip" p) [a,b] [] pos) (as0 X.K ta):=by
 intro pins s σ H R I h
 refine Call_ (iI I hg hm PyProof.Rows.boot_zip (bh6 (aQ (ha pos pins s σ H _ I h) fun us s1 ⟨vs,H1,I1,r1,q1⟩=>?_) (by rw [hs,hs2]) (by rw [hs2]; rfl)))
 obtain ⟨a',b',xs,ys,e,h1,h2,q⟩:=q1
 subst e
 cases r1 with
 | cons r rr=>
  cases rr with
  | cons r' rr=>
   cases rr
   cases r
   cases r'
   obtain ⟨us,_,p1,_⟩:=I1.tuple h1
   obtain ⟨ws,_,p2,_⟩:=I1.tuple h2
   refine Zp.ar6 p1 p2 fun h' z ti to s1' s2' kp=>wpAny_pyIter_zip z ?_
   have fresh:∀ k,H1 (s1.heap.objs.size+k)=none:=fun k=>I1.hok.fresh (bi8 _ _)
   refine⟨s1.heap.objs.size+4,[s1.heap.objs.size+4,s1.heap.objs.size+2,s1.heap.objs.size+3,s1.heap.objs.size,s1.heap.objs.size+1],_,_,H1,rfl,I1.kept (t':=s1.toks) kp,
    ar9 a' b' _ _ _ _ _ (by simp),⟨z,ti,⟨_,_,to⟩,s1',s2'⟩,fun c hc=>?_,q⟩
   simp only [bc5,bc7,bg5] at hc
   rcases hc with rfl | rfl | rfl | rfl | rfl
   ·exact I1.fpOk (bi8 _ _) (fresh 4)
   ·exact I1.fpOk (bi8 _ _) (fresh 2)
   ·exact I1.fpOk (bi8 _ _) (fresh 3)
   ·exact I1.fpOk (bc1 _) (fresh 0)
   ·exact I1.fpOk (bi8 _ _) (fresh 1)
theorem vB (hc:X.calm=true):cZ X (.builtin "all") (fun xs H Q=>∃ (a:Addr) (bs:List Bool),xs = [.ref a]/\aN X.K H a (bs.map V.bl)/\Q (.bl (bs.all id)) H):=by
 intro pins s σ H xs us Q I r h
 obtain ⟨a,bs,rfl,hq,q⟩:=h
 obtain ⟨u,rfl,ru⟩:=gC r
 cases ru
 obtain ⟨its,rv,p,hz⟩:=I.list hq
 have hl:=rv.length
 rw [bc4] at hl
 have hlt:a < s.heap.objs.size:=by obtain ⟨o,e,_⟩:=p.isList; exact bd3 e
 refine call_all_walk (wpAny_pyIter_list p.isList ?_)
 have hh:X.A.in1.handled=none:=I.ok.hd hc
 refine⟨s.heap.objs.size,_,_,_,_,_,fun i=>bs.getD i false,rfl,Walks.list hh s.heap.objs.size a (bf4 hlt) its.toArray,⟨⟨_,bd2 _ rfl,rfl,rfl⟩,p.isList.push _⟩,?_,fun h' tk kp=>?_⟩
 ·intro i v s' Q' E' hP hQ'
  have hi:its[i]? = some v:=by simpa using hP
  have hil:i < bs.length:=by rw [hl]; exact (bc6.mp hi).1
  obtain ⟨u,e1,e2⟩:=rv.get (i:=i) (x:=.bl bs[i]) (by simp [hil])
  rw [hi] at e1; cases e1
  cases e2
  have:bs.getD i false=bs[i]:=by rw [bd6,bc2 hil]; rfl
  have hQ2:Q' (bs.getD i false) s':=hQ'
  rw [this] at hQ2
  exact bp6 hQ2
 ·have all_eq:(List.range its.toArray.size).all (fun i=>bs.getD i false)=bs.all id:=by
   rw [bb9,<- hl]
   clear q rv hz hl hq hlt p hh kp
   induction bs with
   | nil=>rfl
   | cons b r ih=>
    rw [bh9,List.range_succ_eq_map,bo7,List.all_map,bo7,<- ih]
    rfl
  rw [all_eq]
  refine⟨.bl (bs.all id),H,I.kept (t':=tk) (h':=h') fun b o e=>kp b o (fun z=>?_) (bb8 _ e),rfl,q⟩
  rw [bd1.mp z] at e
  exact absurd (bd3 e) (bh7 _)
end
structure vC (H:Hp) (J:It) (n:Nat) (R:Nat->V->Hp->Prop):Prop where
 go:∀ i H',aD H H'->i < n->J.go i H'
 yld:∀ i H' x H2,aD H H'->J.yld i H' x H2->i < n->aD H' H2/\R i x H2
 stop:∀ H',aD H H'->J.stop n H'
theorem vD {H1:Hp}{J:It}{n:Nat}{R:Nat->V->Hp->Prop}{g:TG}{tc:TT}{te:TE}{σ0:St}{Q:VK} (O:vC H1 J n R) (Pv:Nat->List V->Hp->Prop) (hn:n<=sizeLine)
  (h0:∀ D,H1 D=none->Pv 0 [] (upd H1 D (.lst [])))
  (mono:∀ i acc H' H2,aD H' H2->Pv i acc H'->Pv i acc H2)
  (hs:∀ i x acc D H',i < n->R i x H'->qK H1 D n i acc H'->Pv i acc H'->g x σ0 H' fun σ2 H3=>Wk σ0 σ2/\tc σ2 H3 fun b H4=>
   if b=true then te σ2 H4 fun v H5=>uX H1 D n Pv i acc v H5 else F0 H1 D n Pv i acc H4)
  (hd:∀ D acc H',H1 D=none->aD H1 H'->H' D=some (.lst acc)->acc.length<=n->Pv n acc H'->Q (.ref D) H') :
  ∀ D,H1 D=none->∃ W:Nat->Nat->List V->Hp->Prop,(∃ m,W 0 m [] (upd H1 D (.lst [])))/\oC g tc te σ0 J D Q W:=by
 intro D hD
 refine⟨CW H1 D n Pv,⟨n,rfl,bh2 _,bc1 _,bB hD _,b8,h0 D hD⟩,?_⟩
 rintro i m acc H' ⟨rfl,hi,ha,sm,hDa,p⟩
 refine⟨hDa,?_⟩
 by_cases hlt:i < n
 ·refine .inr ⟨O.go i H' sm hlt,fun x H2 y=>?_⟩
  obtain ⟨s2,r2⟩:=O.yld i H' x H2 sm y hlt
  exact hs i x acc D H2 hlt r2 ⟨hlt,ha,hn,sm.trans s2,hD,s2 _ _ hDa⟩ (mono i acc H' H2 s2 p)
 ·have e:i=n:=by omega
  subst e
  exact .inl ⟨O.stop H' sm,hd D acc H' hD sm hDa ha p⟩
theorem J3 {K:PySem.W.Frag}{H:Hp}{a b:Addr}{xs ys:List V} (ha:aO K H a xs) (hb:aO K H b ys) (hl:ys.length<=xs.length) :
  vC H (v9 K a b) ys.length (fun i v H2=>∃ T x y,v = .ref T/\H2 T=some (.tup [x,y])/\xs[i]? = some x/\ys[i]? = some y):=by
 refine⟨fun i H' sm hi=>⟨xs,ys,xs[i]'(by omega),ys[i],sm.tup ha,sm.tup hb,by simp,by simp⟩,fun i H' v H2 sm y hi=>?_,fun H' sm=>⟨xs,ys,sm.tup ha,sm.tup hb,by omega⟩⟩
 obtain ⟨T,x,y',hT,hv,e,hxy⟩:=y
 subst e
 obtain ⟨h1,h2⟩:=hxy xs ys (sm.tup ha) (sm.tup hb)
 exact⟨bB hT _,T,x,y',hv,b8,h1,h2⟩
end L2
namespace HT
open PySem PyProof.Rows
section
variable {prog : Program} {w : World} {A : Around} {E : Value → Shared → Prop} {s : Shared}
theorem as2 {t sl:Addr}{items:Array Value}{vl vu:Value}{lo hi:Option Int}{Q:Value->Shared->Prop} (ht:IsTup s.heap t items) (hs:s.heap.IsSliceOf sl vl vu .none) (pl:IsPart vl lo) (pu:IsPart vu hi)
  (h1:aY items.size 0 lo=0) (h2:aY items.size items.size hi=items.size) (h:Q (.ref t) s):wpAny (model prog w) A (getItem (.ref t) (.ref sl)) Q E s:=by
 obtain ⟨o,e1,e2,e3⟩:=id hs
 have T:s.TypeIs (.ref sl) "slice":=⟨o,e1,e2⟩
 unfold getItem
 try with_reducible refine bk9 ?_
 first | refine bb7 (bc3 ?_) | skip
 apply bb7
 apply wpAny_sequenceKey ht.typeIs (by decide)
 apply bb7
 apply bi4 (name:=Str.ofString "__getitem__") ht.typeIs bn3
 apply bi6 bn3 ht.typeIs entry_tuple_getitem _ (args_tuple_getitem _ _)
 change wpAny _ _ (Builtin.Tuple.tupleItemsOf (.ref t) >>= _) _ _ s
 apply bb7
 apply tupleItemsOf_ ht
 apply bb7
 apply wpAny_typeOf T
 rw [if_pos (by decide)]
 apply bb7
 apply zY hs pl pu
 rw [h1,h2]
 have yes:((((0:Nat):Int) == 0 && (1:Int) == 1 && (items.size - 0) == items.size)=true):=by simp
 change wpAny _ _ (if ((((0:Nat):Int) == 0 && (1:Int) == 1 && (items.size - 0) == items.size)=true) then _ else _) _ _ s
 rw [if_pos yes]
 apply bb7
 unfold Builtin.Tuple.tupleIsExact
 apply bb7
 apply wpAny_typeOf ht.typeIs
 apply bc3
 change wpAny _ _ (rule "tuple.getitem.whole" >>= fun _=>ret (Value.ref t)) _ _ s
 apply bb7
 apply wpAny_rule
 exact bc3 ⟨_,rfl,bc3 h⟩
end
end HT
namespace L2
open PySem PySem.Spec PyProof.Rows
section
variable {X : Cx}
def as3 (K:PySem.W.Frag):V->Option Int->Option Int->Hp->VK->Prop:=fun x lo hi H Q=>∃ a xs,x = .ref a/\aO K H a xs/\(∀ p,H p=none->Q (.ref p) (upd H p (.tup (eG xs lo hi))))/\(eG xs lo hi=xs->Q (.ref a) H)
theorem J4:jU X (as3 X.K):=by
 intro pins s σ H x v vl vu lo hi sl Q I rx hs pl pu h
 obtain ⟨a,xs,ex,hx,q1,q2⟩:=h
 by_cases hw:HT.aY xs.length 0 lo=0/\HT.aY xs.length xs.length hi=xs.length
 ·subst ex
  cases rx
  obtain ⟨its,r,ht,hz⟩:=I.tuple hx
  have hlen:its.toArray.size=xs.length:=by rw [bb9]; exact r.length.symm
  refine⟨"tuple",_,PyProof.Rows.slot_tuple_getitem.lookup,ht.typeIs,?_⟩
  refine HT.as2 ht hs pl pu (by rw [hlen]; exact hw.1) (by rw [hlen]; exact hw.2) ⟨.ref a,H,I,rfl,q2 ?_⟩
  unfold eG
  rw [hw.1,hw.2]
  simp
 ·exact ak8 pins s σ H x v vl vu lo hi sl Q I rx hs pl pu ⟨a,xs,ex,hx,hw,q1⟩
end
theorem vE (xs:List V):eG xs (some 1) none=xs.drop 1:=by
 unfold eG
 have e1:HT.aY xs.length 0 (some 1)=min 1 xs.length:=HT.zV xs.length 0 1
 have e2:HT.aY xs.length xs.length none=xs.length:=rfl
 rw [e1,e2]
 cases xs with
 | nil=>rfl
 | cons x r=>
  have:min 1 (x :: r).length=1:=by simp
  rw [this]
  simp
def vF (K:PySem.W.Frag) (a b:Addr):It:=
  ⟨fun i H=>∃ xs ys x y,aN K H a xs/\aN K H b ys/\xs[i]? = some x/\ys[i]? = some y,
   fun i H v H'=>∃ T x y,H T=none/\v = .ref T/\H'=upd H T (.tup [x,y])/\∀ xs ys,aN K H a xs->aN K H b ys->xs[i]? = some x/\ys[i]? = some y,
   fun i H=>∃ xs ys,aN K H a xs/\aN K H b ys/\(i=xs.length ∨ (i < xs.length/\i=ys.length))⟩
abbrev as4:=vA false false
theorem as5 {P:Program}{w:World}{K:PySem.W.Frag}{elts:List Expr}{k:Nat}{pos:Pos} (a b z TI TO i1 i2:Addr) (d : [z,TI,TO,i1,i2].Nodup) :
  gB P w K (.Tuple elts k pos) (vF K a b) [z,TI,TO,i1,i2] z (as4 z TI TO i1 i2 a b):=J2 false false a b z TI TO i1 i2 d
section
variable {X : Cx}
def as6 (K:PySem.W.Frag) (ta:TA):TI:=fun σ H R=>ta σ H fun vs H1=>∃ a b xs ys,vs = [.ref a,.ref b]/\aN K H1 a xs/\aN K H1 b ys/\R (vF K a b) H1
theorem as7 {elts:List Expr}{kt:Nat}{pt:Pos}{a b:Expr}{ta:TA}{p pos:Pos} (hg:Gl X "zip") (hm:X.mg "zip" = none) (ha:PA X [a,b] ta) (hs:starEach [a,b] X.env = [(false,eval a X.env),(false,eval b X.env)]:=by rfl) (hs2:starEach [b] X.env = [(false,eval b X.env)]:=by rfl) :
  PI X (.Tuple elts kt pt) (.Call (.Name "zip" p) [a,b] [] pos) (as6 X.K ta):=by
 intro pins s σ H R I h
 refine Call_ (iI I hg hm PyProof.Rows.boot_zip (bh6 (aQ (ha pos pins s σ H _ I h) fun us s1 ⟨vs,H1,I1,r1,q1⟩=>?_) (by rw [hs,hs2]) (by rw [hs2]; rfl)))
 obtain ⟨a',b',xs,ys,e,h1,h2,q⟩:=q1
 subst e
 cases r1 with
 | cons r rr=>
  cases rr with
  | cons r' rr=>
   cases rr
   cases r
   cases r'
   obtain ⟨us,_,p1,_⟩:=I1.list h1
   obtain ⟨ws,_,p2,_⟩:=I1.list h2
   refine call_zip_2 p1.isList p2.isList fun h' z ti to s1' s2' _ kp=>wpAny_pyIter_zip z ?_
   have fresh:∀ k,H1 (s1.heap.objs.size+k)=none:=fun k=>I1.hok.fresh (bi8 _ _)
   refine⟨s1.heap.objs.size+4,[s1.heap.objs.size+4,s1.heap.objs.size+2,s1.heap.objs.size+3,s1.heap.objs.size,s1.heap.objs.size+1],_,_,H1,rfl,I1.kept (t':=s1.toks) kp,
    as5 a' b' _ _ _ _ _ (by simp),⟨z,ti,⟨_,_,to⟩,s1',s2'⟩,fun c hc=>?_,q⟩
   simp only [bc5,bc7,bg5] at hc
   rcases hc with rfl | rfl | rfl | rfl | rfl
   ·exact I1.fpOk (bi8 _ _) (fresh 4)
   ·exact I1.fpOk (bi8 _ _) (fresh 2)
   ·exact I1.fpOk (bi8 _ _) (fresh 3)
   ·exact I1.fpOk (bc1 _) (fresh 0)
   ·exact I1.fpOk (bi8 _ _) (fresh 1)
end
theorem as8 {K:PySem.W.Frag}{H:Hp}{a b:Addr}{xs ys:List V} (ha:aN K H a xs) (hb:aN K H b ys) (hl:ys.length<=xs.length) :
  vC H (vF K a b) ys.length (fun i v H2=>∃ T x y,v = .ref T/\H2 T=some (.tup [x,y])/\xs[i]? = some x/\ys[i]? = some y):=by
 refine⟨fun i H' sm hi=>⟨xs,ys,xs[i]'(by omega),ys[i],sm.seq ha,sm.seq hb,by simp,by simp⟩,fun i H' v H2 sm y hi=>?_,fun H' sm=>⟨xs,ys,sm.seq ha,sm.seq hb,by omega⟩⟩
 obtain ⟨T,x,y',hT,hv,e,hxy⟩:=y
 subst e
 obtain ⟨h1,h2⟩:=hxy xs ys (sm.seq ha) (sm.seq hb)
 exact⟨bB hT _,T,x,y',hv,b8,h1,h2⟩
section
variable {X : Cx} {pins : List (Addr × Obj)} {σ : St} {H : Hp} {s : Shared} {a b : Addr} {A : Around} {E : Value → Shared → Prop}
theorem as9 {kvs more:List (aC × V)}{Q:Value->Shared->Prop} (I:a8 X pins σ H s) (ea:H a=some (.dK kvs)) (eb:H b=some (.dK more)) (hne:a ≠ b) (hl:kvs.length+more.length<=sizeLine)
  (h:∀ s',a8 X pins σ (upd H a (.dK (kS kvs more))) s'->Q .none s'):wpAny (model X.prog X.w) A (call (.builtin "dict.update") [.ref a,.ref b]) Q E s:=by
 obtain ⟨z,hd,vs,rel,dd⟩:=uM I.hok ea
 obtain ⟨z2,hd2,rs,rel2,dd2⟩:=uM I.hok eb
 have l1:=rel.length
 have l2:=rel2.length
 refine call_meetsIn PySem.F.slot_dict_update dd.typeIs PySem.F.entry_dict_update (PySem.F.args_dict_update_2 _ _) (meets_dict_update (eQ X.prog X.w) a b hne hd2) ⟨vs,rs,dd,dd2,by omega,fun h' dd' _ hs=>h _ ?_⟩
 have he:∃ q,h'.get? a=some q:=let ⟨q,_,_,hq,_⟩:=dd'; ⟨q,hq⟩
 refine pX I (by rw [ea]; exact True.intro) hs he (C3 ?_ hd (rel2.merge rel) dd')
 have:=E1 more kvs
 omega
end
def J5 (td ty:TE):TE:=fun σ H Q=>td σ H fun x H1=>∃ a,x = .ref a/\uP H1 a/\ty σ H1 fun y H2=>∃ (b:Addr) (kvs more:List (aC × V)),y = .ref b/\a ≠ b/\H2 a=some (.dK kvs)/\H2 b=some (.dK more)/\kvs.length+more.length<=sizeLine/\Q .non (upd H2 a (.dK (kS kvs more)))
section
variable {X : Cx} {o e : Expr} {apos cpos : Pos} {td ty : TE}
theorem at0 (ho:PE X o td) (he:PE X e ty) (m:M1 X o "update" apos e cpos):PE X (.Call (.Attribute o "update" apos) [e] [] cpos) (J5 td ty):=by
 intro pins s σ H Q I h
 refine wpAny_Call_method m.base m.few m.line PySem.F.plainAttrs_dict PySem.F.slot_dict_update PySem.F.type_dict_update (aQ (ho pins s σ H _ I h) fun u s1 ⟨x,H1,I1,rx,a,ex,d,q1⟩=>?_)
 subst ex
 obtain rfl:u=Value.ref a:=rx
 obtain ⟨t1,t2,_⟩:=E2 I1 d
 refine⟨t1,t2,?_⟩
 rw [m.trees]
 refine Calls.callWith_builtin rfl (Calls.evalArgs_plain (Calls.spliced_cons (aQ (he pins s1 σ H1 _ I1 q1) fun iv s2 ⟨y,H2,I2,ry,b,kvs,more,ey,ne,ea,eb,l,q2⟩=>Calls.spliced_nil ?_)))
 subst ey
 obtain rfl:iv=Value.ref b:=ry
 exact as9 I2 ea eb ne l fun s3 I3=>⟨.non,_,I3,rfl,q2⟩
end
end L2
namespace PP
open PySem L2
inductive PV where
 | non | bl (b:Bool) | int (i:Int) | str (x:Str) | tup (xs:List PV) | lst (xs:List PV)
 | dK (kvs:List (aC × PV)) | dT (kvs:List (List aC × PV)) | scr (ns:List Int) | kt (xs:List PV) | exc (c:Str)
mutual
def flat:PV->Bool
 | .tup xs=>flats xs
 | .lst _=>false
 | .dK _=>false
 | .dT _=>false
 | .non=>true
 | .bl _=>true
 | .int _=>true
 | .str _=>true
 | .scr _=>true
 | .kt xs=>flats xs
 | .exc _=>true
def flats:List PV->Bool
 | []=>true
 | x :: r=>flat x && flats r
end
def jD (K:PySem.W.Frag) (H:Hp) (a:Addr) (ns:List Int):Prop:=(∃ o,H a=some (.frz o (.lst (ns.map V.int)))) ∨
  ∃ (o:Obj) (its:Array Value) (n:Nat),K.lookup a=some o/\o.cls = .type "list"/\o.dict=none/\o.data = .seq its n/\its.size<=sizeLine/\aK (ns.map V.int) its.toList
def mE (K:PySem.W.Frag) (a:Addr) (us:List V):Prop:=∃ (o:Obj) (its:Array Value) (n:Nat),K.lookup a=some o/\o.cls = .type "tuple"/\o.data = .seq its n/\its.size<=sizeLine/\aK us its.toList
mutual
inductive aJ (K:PySem.W.Frag) (M:Addr->Prop) (H:Hp):V->PV->Prop
 | non:aJ K M H .non .non
 | bl (b:Bool):aJ K M H (.bl b) (.bl b)
 | int (i:Int):aJ K M H (.int i) (.int i)
 | str (x:Str):aJ K M H (.str x) (.str x)
 | tup {a:Addr}{us:List V}{xs:List PV}:H a=some (.tup us)->Reps K M H us xs->aJ K M H (.ref a) (.tup xs)
 | lst {a:Addr}{us:List V}{xs:List PV}:M a->H a=some (.lst us)->Reps K M H us xs->aJ K M H (.ref a) (.lst xs)
 | dK {a:Addr}{kvs:List (aC × V)}{ps:List (aC × PV)}:M a->H a=some (.dK kvs)->kvs.map (·.1)=ps.map (·.1)->Reps K M H (kvs.map (·.2)) (ps.map (·.2))->aJ K M H (.ref a) (.dK ps)
 | dT {a:Addr}{kvs:List (List aC × V)}{ps:List (List aC × PV)}:M a->H a=some (.dT kvs)->kvs.map (·.1)=ps.map (·.1)->Reps K M H (kvs.map (·.2)) (ps.map (·.2))->aJ K M H (.ref a) (.dT ps)
 | scr {a:Addr}{ns:List Int}:jD K H a ns->aJ K M H (.ref a) (.scr ns)
 | kt {a:Addr}{us:List V}{xs:List PV}:mE K a us->Reps K M H us xs->aJ K M H (.ref a) (.kt xs)
 | exc {a C:Addr}{o:Obj}{c:Str}:H a=some (.frz o (.own a))->PySem.W.nsIn K mainGlobals c=some (some (.ref C))->o.cls = .ref C->aJ K M H (.ref a) (.exc c)
inductive Reps (K:PySem.W.Frag) (M:Addr->Prop) (H:Hp):List V->List PV->Prop
 | nil:Reps K M H [] []
 | cons {v:V}{x:PV}{vs:List V}{xs:List PV}:aJ K M H v x->Reps K M H vs xs->Reps K M H (v :: vs) (x :: xs)
end
structure hV (M M':Addr->Prop) (H H':Hp):Prop where
 lst:∀ a us,M a->H a=some (.lst us)->M' a/\H' a=some (.lst us)
 dK:∀ a kvs,M a->H a=some (.dK kvs)->M' a/\H' a=some (.dK kvs)
 dT:∀ a kvs,M a->H a=some (.dT kvs)->M' a/\H' a=some (.dT kvs)
 tup:∀ a us,H a=some (.tup us)->H' a=some (.tup us)
 frz:∀ a o u,H a=some (.frz o u)->H' a=some (.frz o u)
theorem jD.keep {K:PySem.W.Frag}{H H':Hp}{a:Addr}{ns:List Int} (k:∀ a o u,H a=some (.frz o u)->H' a=some (.frz o u)) (h:jD K H a ns):jD K H' a ns:=
 h.elim (fun ⟨o,e⟩=>.inl ⟨o,k _ _ _ e⟩) .inr
mutual
theorem aJ.keep {K:PySem.W.Frag}{M M':Addr->Prop}{H H':Hp} (k:hV M M' H H'):∀ {v:V}{x:PV},aJ K M H v x->aJ K M' H' v x
 | _,_,.non=>.non
 | _,_,.bl b=>.bl b
 | _,_,.int i=>.int i
 | _,_,.str x=>.str x
 | _,_,.tup h r=>.tup (k.tup _ _ h) (Reps.keep k r)
 | _,_,.lst m h r=>.lst (k.lst _ _ m h).1 (k.lst _ _ m h).2 (Reps.keep k r)
 | _,_,.dK m h e r=>.dK (k.dK _ _ m h).1 (k.dK _ _ m h).2 e (Reps.keep k r)
 | _,_,.dT m h e r=>.dT (k.dT _ _ m h).1 (k.dT _ _ m h).2 e (Reps.keep k r)
 | _,_,.scr h=>.scr (h.keep k.frz)
 | _,_,.kt h r=>.kt h (Reps.keep k r)
 | _,_,.exc h e c=>.exc (k.frz _ _ _ h) e c
theorem Reps.keep {K:PySem.W.Frag}{M M':Addr->Prop}{H H':Hp} (k:hV M M' H H'):∀ {vs:List V}{xs:List PV},Reps K M H vs xs->Reps K M' H' vs xs
 | _,_,.nil=>.nil
 | _,_,.cons r t=>.cons (aJ.keep k r) (Reps.keep k t)
end
mutual
theorem aJ.flat {K:PySem.W.Frag}{M M':Addr->Prop}{H:Hp}{v:V}{x:PV} (f:flat x=true) (r:aJ K M H v x):aJ K M' H v x:=by
 cases r with
 | non=>exact .non
 | bl b=>exact .bl b
 | int i=>exact .int i
 | str x=>exact .str x
 | tup h r=>exact .tup h (Reps.flat (by unfold PP.flat at f; exact f) r)
 | lst m h r=>unfold PP.flat at f; cases f
 | dK m h e r=>unfold PP.flat at f; cases f
 | dT m h e r=>unfold PP.flat at f; cases f
 | scr h=>exact .scr h
 | kt h r=>exact .kt h (Reps.flat (by unfold PP.flat at f; exact f) r)
 | exc h e c=>exact .exc h e c
theorem Reps.flat {K:PySem.W.Frag}{M M':Addr->Prop}{H:Hp}{vs:List V}{xs:List PV} (f:flats xs=true) (r:Reps K M H vs xs):Reps K M' H vs xs:=by
 cases r with
 | nil=>exact .nil
 | cons r t=>
  unfold PP.flats at f
  rw [bd8] at f
  exact .cons (aJ.flat f.1 r) (Reps.flat f.2 t)
end
theorem hV.same {M M':Addr->Prop}{H H':Hp} (s:aD H H') (m:∀ a,M a->M' a):hV M M' H H':=
 ⟨fun a _ h e=>⟨m a h,s _ _ e⟩,fun a _ h e=>⟨m a h,s _ _ e⟩,fun a _ h e=>⟨m a h,s _ _ e⟩,fun _ _ e=>s _ _ e,fun _ _ _ e=>s _ _ e⟩
theorem aJ.same {K:PySem.W.Frag}{M M':Addr->Prop}{H H':Hp}{v:V}{x:PV} (r:aJ K M H v x) (s:aD H H') (m:∀ a,M a->M' a):aJ K M' H' v x:=r.keep (.same s m)
theorem Reps.same {K:PySem.W.Frag}{M M':Addr->Prop}{H H':Hp}{v:List V}{x:List PV} (r:Reps K M H v x) (s:aD H H') (m:∀ a,M a->M' a):Reps K M' H' v x:=r.keep (.same s m)
def fV:HO->Bool
 | .lst _=>true
 | .dK _=>true
 | .dT _=>true
 | _=>false
theorem hV.upd {M M':Addr->Prop}{H:Hp}{a:Addr}{o o':HO} (h:H a=some o') (mu:fV o'=true) (m:∀ b,M b->b ≠ a/\M' b):hV M M' H (upd H a o):=
 ⟨fun b _ hb e=>⟨(m b hb).2,by rw [aL (m b hb).1]; exact e⟩,fun b _ hb e=>⟨(m b hb).2,by rw [aL (m b hb).1]; exact e⟩,fun b _ hb e=>⟨(m b hb).2,by rw [aL (m b hb).1]; exact e⟩,
  fun b _ e=>by rw [aL (fun z=>by rw [z,h] at e; cases e; cases mu)]; exact e,
  fun b _ _ e=>by rw [aL (fun z=>by rw [z,h] at e; cases e; cases mu)]; exact e⟩
theorem Reps.length {K:PySem.W.Frag}{M:Addr->Prop}{H:Hp}:∀ {vs:List V}{xs:List PV},Reps K M H vs xs->vs.length=xs.length
 | _,_,.nil=>rfl
 | _,_,.cons _ t=>congrArg (· + 1) t.length
theorem Reps.get {K:PySem.W.Frag}{M:Addr->Prop}{H:Hp}:∀ {vs:List V}{xs:List PV}{i:Nat}{v:V},Reps K M H vs xs->vs[i]? = some v->∃ x,xs[i]? = some x/\aJ K M H v x
 | _,_,_,_,.nil,e=>by simp at e
 | _,_,0,_,.cons r _,e=>by simp at e; subst e; exact⟨_,rfl,r⟩
 | _,_,i+1,v,.cons _ t,e=>by
  rw [bf3] at e
  obtain ⟨x,h1,h2⟩:=t.get e
  exact⟨x,by rw [bf3]; exact h1,h2⟩
theorem Reps.at {K:PySem.W.Frag}{M:Addr->Prop}{H:Hp}:∀ {vs:List V}{xs:List PV}{i:Nat}{x:PV},Reps K M H vs xs->xs[i]? = some x->∃ v,vs[i]? = some v/\aJ K M H v x
 | _,_,_,_,.nil,e=>by simp at e
 | _,_,0,_,.cons r _,e=>by simp at e; subst e; exact⟨_,rfl,r⟩
 | _,_,i+1,v,.cons _ t,e=>by
  rw [bf3] at e
  obtain ⟨x,h1,h2⟩:=t.at e
  exact⟨x,by rw [bf3]; exact h1,h2⟩
theorem Reps.append {K:PySem.W.Frag}{M:Addr->Prop}{H:Hp}:∀ {vs:List V}{xs:List PV}{us:List V}{ys:List PV},Reps K M H vs xs->Reps K M H us ys->Reps K M H (vs ++ us) (xs ++ ys)
 | _,_,_,_,.nil,s=>s
 | _,_,_,_,.cons r t,s=>.cons r (t.append s)
theorem Reps.set {K:PySem.W.Frag}{M:Addr->Prop}{H:Hp}{v:V}{x:PV} (q:aJ K M H v x):∀ (i:Nat) {vs:List V}{xs:List PV},Reps K M H vs xs->Reps K M H (vs.set i v) (xs.set i x)
 | _,_,_,.nil=>.nil
 | 0,_,_,.cons r t=>.cons q t
 | i+1,_,_,.cons r t=>.cons r (Reps.set q i t)
theorem Reps.take {K:PySem.W.Frag}{M:Addr->Prop}{H:Hp}:∀ (n:Nat) {vs:List V}{xs:List PV},Reps K M H vs xs->Reps K M H (vs.take n) (xs.take n)
 | 0,_,_,_=>by simp; exact .nil
 | _+1,_,_,.nil=>.nil
 | n+1,_,_,.cons r t=>.cons r (Reps.take n t)
theorem Reps.drop {K:PySem.W.Frag}{M:Addr->Prop}{H:Hp}:∀ (n:Nat) {vs:List V}{xs:List PV},Reps K M H vs xs->Reps K M H (vs.drop n) (xs.drop n)
 | 0,_,_,r=>r
 | _+1,_,_,.nil=>.nil
 | n+1,_,_,.cons _ t=>Reps.drop n t
theorem Reps.eraseIdx {K:PySem.W.Frag}{M:Addr->Prop}{H:Hp}:∀ (n:Nat) {vs:List V}{xs:List PV},Reps K M H vs xs->Reps K M H (vs.eraseIdx n) (xs.eraseIdx n)
 | _,_,_,.nil=>.nil
 | 0,_,_,.cons _ t=>t
 | n+1,_,_,.cons r t=>.cons r (Reps.eraseIdx n t)
abbrev intz (ns:List Int):List PV:=ns.map PV.int
theorem Reps.intz {K:PySem.W.Frag}{M:Addr->Prop}{H:Hp}:∀ (ns:List Int),Reps K M H (ns.map V.int) (intz ns)
 | []=>.nil
 | n :: r=>.cons (.int n) (Reps.intz r)
theorem Reps.ofInts {K:PySem.W.Frag}{M:Addr->Prop}{H:Hp}:∀ {ns:List Int}{us:List V},Reps K M H us (PP.intz ns)->us=ns.map V.int
 | [],_,.nil=>rfl
 | n :: r,_,.cons q t=>by
  cases q
  rw [Reps.ofInts t]; rfl
theorem bP:∀ (ns:List Int),flats (intz ns)=true
 | []=>rfl
 | n :: r=>by show (flat (.int n) && flats (intz r))=true; rw [bP r]; rfl
inductive Tg | rd | sh | nw | fr
inductive Slot | sh (g:Bool) (x:PV) | own (x:PV)
def Slot.val:Slot->PV
 | .sh _ x=>x
 | .own x=>x
def Slot.tag:Slot->Tg
 | .sh true _=>.nw
 | .sh false _=>.sh
 | .own _=>.rd
abbrev bG:=List (Option Slot)
def Ms (H0:Hp) (W:Addr->Prop):Bool->Addr->Prop
 | false,a=>¬ W a
 | true,a=>¬ W a/\H0 a=none
def Mg (H0:Hp) (W:Addr->Prop) (Hs:Hp):Tg->Addr->Prop
 | .rd,_=>True
 | .sh,a=>¬ W a
 | .nw,a=>¬ W a/\H0 a=none
 | .fr,a=>Hs a=none
def gJ (K:PySem.W.Frag) (M:Addr->Prop) (H:Hp) (a:Addr):PV->Prop
 | .lst xs=>∃ us,H a=some (.lst us)/\Reps K M H us xs
 | .dK ps=>∃ kvs,H a=some (.dK kvs)/\kvs.map (·.1)=ps.map (·.1)/\Reps K M H (kvs.map (·.2)) (ps.map (·.2))
 | .dT ps=>∃ kvs,H a=some (.dT kvs)/\kvs.map (·.1)=ps.map (·.1)/\Reps K M H (kvs.map (·.2)) (ps.map (·.2))
 | _=>False
def J6 (K:PySem.W.Frag) (H0:Hp) (W:Addr->Prop) (H:Hp) (v:V):Slot->Prop
 | .sh g x=>aJ K (Ms H0 W g) H v x
 | .own x=>∃ a,v = .ref a/\W a/\gJ K (Ms H0 W true) H a x
structure PX (K:PySem.W.Frag) (H0:Hp) (W:Addr->Prop) (σ:St) (ρ:bG) (H:Hp):Prop where
 len:ρ.length=σ.length
 same:aD H0 H
 wm:∀ a,W a->H0 a=none/\∃ o,H a=some o/\fV o=true
 sl:∀ (i:Nat) (m:Slot),ρ[i]? = some (some m)->∃ v,σ[i]? = some (some v)/\J6 K H0 W H v m
 dis:∀ (i j:Nat) (x y:PV) (a:Addr),ρ[i]? = some (some (.own x))->ρ[j]? = some (some (.own y))->σ[i]? = some (some (.ref a))->σ[j]? = some (some (.ref a))->i=j
theorem gJ.keep {K:PySem.W.Frag}{M M':Addr->Prop}{H H':Hp}{a:Addr} (k:hV M M' H H') (ha:∀ o,H a=some o->H' a=some o):∀ {x:PV},gJ K M H a x->gJ K M' H' a x
 | .lst _,⟨us,e,r⟩=>⟨us,ha _ e,r.keep k⟩
 | .dK _,⟨us,e,q,r⟩=>⟨us,ha _ e,q,r.keep k⟩
 | .dT _,⟨us,e,q,r⟩=>⟨us,ha _ e,q,r.keep k⟩
theorem gJ.at {K:PySem.W.Frag}{M:Addr->Prop}{H:Hp}{a:Addr}:∀ {x:PV},gJ K M H a x->∃ o,H a=some o/\fV o=true
 | .lst _,⟨us,e,r⟩=>⟨_,e,rfl⟩
 | .dK _,⟨us,e,q,r⟩=>⟨_,e,rfl⟩
 | .dT _,⟨us,e,q,r⟩=>⟨_,e,rfl⟩
theorem gJ.rep {K:PySem.W.Frag}{M M':Addr->Prop}{H:Hp}{a:Addr} (m:∀ b,M b->M' b) (ha:M' a):∀ {x:PV},gJ K M H a x->aJ K M' H (.ref a) x
 | .lst _,⟨us,e,r⟩=>.lst ha e (r.same (aD.refl _) m)
 | .dK _,⟨us,e,q,r⟩=>.dK ha e q (r.same (aD.refl _) m)
 | .dT _,⟨us,e,q,r⟩=>.dT ha e q (r.same (aD.refl _) m)
section
variable {K : PySem.W.Frag} {H0 : Hp} {W W' : Addr → Prop} {σ : St} {ρ : bG} {H H' : Hp}
theorem PX.mono (p:PX K H0 W σ ρ H) (s:aD H H'):PX K H0 W σ ρ H':=by
 refine⟨p.len,p.same.trans s,fun a h=>⟨(p.wm a h).1,let ⟨o,e,m⟩:=(p.wm a h).2; ⟨o,s _ _ e,m⟩⟩,fun i m h=>?_,p.dis⟩
 obtain ⟨v,e,r⟩:=p.sl i m h
 refine⟨v,e,?_⟩
 cases m with
 | sh g x=>exact aJ.same r s fun _ z=>z
 | own x=>
  obtain ⟨a,e1,e2,r⟩:=r
  exact⟨a,e1,e2,r.keep (.same s fun _ z=>z) fun _ z=>s _ _ z⟩
theorem PX.new (p:PX K H0 W σ ρ H) {a:Addr} (h:H a=none) : ¬ W a/\H0 a=none:=
 ⟨fun z=>(by obtain ⟨_,o,e,_⟩:=p.wm a z; rw [h] at e; cases e),p.same.free h⟩
theorem Mg.back {g:Tg}{H1:Hp} (s:aD H H1) {a:Addr} (h:Mg H0 W H1 g a):Mg H0 W H g a:=by
 cases g with
 | fr=>exact s.free h
 | rd=>exact h
 | sh=>exact h
 | nw=>exact h
end
abbrev PK:=PV->Tg->Prop
abbrev aE:=bG->PK->Prop
abbrev bT:=bG->(Bool->Prop)->Prop
abbrev cI:=bG->(List (PV × Tg)->Prop)->Prop
inductive gK (K:PySem.W.Frag) (H0:Hp) (W:Addr->Prop) (Hs H:Hp):List V->List (PV × Tg)->Prop
 | nil:gK K H0 W Hs H [] []
 | cons {v:V}{x:PV}{g:Tg}{vs:List V}{xs:List (PV × Tg)}:aJ K (Mg H0 W Hs g) H v x->gK K H0 W Hs H vs xs->gK K H0 W Hs H (v :: vs) ((x,g) :: xs)
def qT (K:PySem.W.Frag) (H0:Hp) (W:Addr->Prop) (H:Hp) (Q:PK) (Q':VK):Prop:=∀ v H' x g,aD H H'->aJ K (Mg H0 W H g) H' v x->Q x g->Q' v H'
def LE (X:Cx) (t:aE):TE:=fun σ H Q'=>∃ (W:Addr->Prop) (ρ:bG) (Q:PK),PX X.K X.H₀ W σ ρ H/\t ρ Q/\qT X.K X.H₀ W H Q Q'
def LT (X:Cx) (t:bT):TT:=fun σ H Q'=>∃ (W:Addr->Prop) (ρ:bG) (Q:Bool->Prop),PX X.K X.H₀ W σ ρ H/\t ρ Q/\∀ b H',aD H H'->Q b->Q' b H'
def LA (X:Cx) (t:cI):TA:=fun σ H Q'=>∃ (W:Addr->Prop) (ρ:bG) (Q:List (PV × Tg)->Prop),PX X.K X.H₀ W σ ρ H/\t ρ Q/\∀ vs H' xs,aD H H'->gK X.K X.H₀ W H H' vs xs->Q xs->Q' vs H'
theorem gK.same {K:PySem.W.Frag}{H0:Hp}{W:Addr->Prop}{Hs Hs' H H':Hp} (s:aD H H') (b:aD Hs' Hs):∀ {vs:List V}{xs:List (PV × Tg)},gK K H0 W Hs H vs xs->gK K H0 W Hs' H' vs xs
 | _,_,.nil=>.nil
 | _,_,.cons r t=>.cons (r.same s fun _ z=>Mg.back b z) (t.same s b)
theorem gK.any {K:PySem.W.Frag}{H0:Hp}{W:Addr->Prop}{Hs H:Hp}:∀ {vs:List V}{xs:List (PV × Tg)},gK K H0 W Hs H vs xs->Reps K (fun _=>True) H vs (xs.map (·.1))
 | _,_,.nil=>.nil
 | _,_,.cons r t=>.cons (r.same (aD.refl _) fun _ _=>trivial) t.any
def Nw:Tg->PV->Prop
 | .fr,_=>True
 | .nw,_=>True
 | _,x=>flat x=true
def kY (xs:List (PV × Tg)):Prop:=∀ p ∈ xs,Nw p.2 p.1
section
variable {K : PySem.W.Frag} {H0 Hs H : Hp} {W : Addr → Prop} {σ : St} {ρ : bG}
theorem Nw.rep {g:Tg}{x:PV}{v:V} (px:PX K H0 W σ ρ Hs) (n:Nw g x) (r:aJ K (Mg H0 W Hs g) H v x):aJ K (Ms H0 W true) H v x:=by
 cases g with
 | fr=>exact r.same (aD.refl _) fun a z=>px.new z
 | nw=>exact r.same (aD.refl _) fun a z=>z
 | sh=>exact r.flat n
 | rd=>exact r.flat n
theorem kY.reps {vs:List V}:∀ {xs:List (PV × Tg)}{vs:List V},PX K H0 W σ ρ Hs->kY xs->gK K H0 W Hs H vs xs->Reps K (Ms H0 W true) H vs (xs.map (·.1))
 | _,_,px,n,.nil=>.nil
 | _,_,px,n,.cons r t=>.cons (Nw.rep px (n _ bd0) r) (kY.reps (vs:=vs) px (fun p hp=>n p (be4 _ hp)) t)
theorem qU {v:V}{m:Slot} (r:J6 K H0 W H v m):aJ K (Mg H0 W Hs m.tag) H v m.val:=by
 cases m with
 | sh g x=>
  cases g with
  | true=>exact aJ.same r (aD.refl _) fun _ z=>z
  | false=>exact aJ.same r (aD.refl _) fun _ z=>z
 | own x=>
  obtain ⟨a,rfl,_,r⟩:=r
  exact r.rep (fun _ _=>trivial) trivial
end
section
variable {X : Cx} {σ : St} {H : Hp} {Q' : VK} {ta tb : aE}
def a5 (i:Nat):aE:=fun ρ Q=>∃ m,ρ[i]? = some (some m)/\Q m.val m.tag
def qC (x:PV):aE:=fun _ Q=>Q x .fr
theorem at2 {i:Nat} (h:LE X (a5 i) σ H Q'):eF i σ H Q':=by
 obtain ⟨W,ρ,Q,px,⟨m,e,q⟩,k⟩:=h
 obtain ⟨v,ev,r⟩:=px.sl i m e
 exact⟨v,ev,k v H _ _ (aD.refl _) (qU r) q⟩
theorem oH {x:PV}{v:V} (hr:∀ M,aJ X.K M H v x) (h:LE X (qC x) σ H Q'):tC v σ H Q':=by
 obtain ⟨W,ρ,Q,px,q,k⟩:=h
 exact k v H _ _ (aD.refl _) (hr _) q
def eU (X:Cx) (R:PV->Tg->PV->Tg->PK->Prop) (r:R2):Prop:=∀ (W:Addr->Prop) (Hs H:Hp) (u v:V) (x y:PV) (g g':Tg) (Q:PK) (Q':VK),aD Hs H->
 (∀ a,Hs a=none->¬ W a/\X.H₀ a=none)->aJ X.K (Mg X.H₀ W Hs g) H u x->aJ X.K (Mg X.H₀ W Hs g') H v y->R x g y g' Q->(∀ w H' z gz,aD H H'->aJ X.K (Mg X.H₀ W Hs gz) H' w z->Q z gz->Q' w H')->r u v H Q'
def q2 (R:PV->Tg->PV->Tg->PK->Prop) (ta tb:aE):aE:=fun ρ Q=>ta ρ fun x g=>tb ρ fun y g'=>R x g y g' Q
theorem qV {R:PV->Tg->PV->Tg->PK->Prop}{r:R2} (c:eU X R r) (h:LE X (q2 R ta tb) σ H Q'):nU r (LE X ta) (LE X tb) σ H Q':=by
 obtain ⟨W,ρ,Q,px,q,k⟩:=h
 refine⟨W,ρ,_,px,q,fun u H1 x g s1 r1 q1=>⟨W,ρ,_,px.mono s1,q1,fun v H2 y g' s2 r2 q2=>?_⟩⟩
 exact c W H H2 u v x y g g' Q Q' (s1.trans s2) (fun a z=>px.new z) (r1.same s2 fun _ z=>z) (r2.same (aD.refl _) fun _ z=>Mg.back s1 z) q2 fun w H' z gz s3 r3 q3=>k w H' z gz ((s1.trans s2).trans s3) r3 q3
def RI (C:Int->Int->Prop) (f:Int->Int->PV):PV->Tg->PV->Tg->PK->Prop:=fun x _ y _ Q=>∃ i j,x = .int i/\y = .int j/\C i j/\Q (f i j) .fr
def fL (f:Int->Int->PV):PV->Tg->PV->Tg->PK->Prop:=fun x _ y _ Q=>∃ i j,x = .int i/\y = .int j/\Q (f i j) .fr
theorem oI {C:Int->Int->Prop}{f:Int->Int->Int}:eU X (RI C fun i j=>.int (f i j)) (rI C fun i j=>.int (f i j)):=by
 rintro W Hs H u v x y g g' Q Q' s n r1 r2 ⟨i,j,rfl,rfl,c,q⟩ k
 cases r1; cases r2
 exact⟨i,j,rfl,rfl,c,k _ _ _ _ (aD.refl _) (.int _) q⟩
theorem J7 {f:Int->Int->Int}:eU X (fL fun i j=>.int (f i j)) (j4 fun i j=>.int (f i j)):=by
 rintro W Hs H u v x y g g' Q Q' s n r1 r2 ⟨i,j,rfl,rfl,q⟩ k
 cases r1; cases r2
 exact⟨i,j,rfl,rfl,k _ _ _ _ (aD.refl _) (.int _) q⟩
theorem oJ {f:Int->Int->Bool}:eU X (fL fun i j=>.bl (f i j)) (j4 fun i j=>.bl (f i j)):=by
 rintro W Hs H u v x y g g' Q Q' s n r1 r2 ⟨i,j,rfl,rfl,q⟩ k
 cases r1; cases r2
 exact⟨i,j,rfl,rfl,k _ _ _ _ (aD.refl _) (.bl _) q⟩
def kZ (neg:Bool):PV->Tg->PV->Tg->PK->Prop:=fun x _ y _ Q=>(∃ i j,x = .int i/\y = .int j/\Q (.bl (if neg=true then !decide (i=j) else decide (i=j))) .fr) ∨ (∃ i j,x = .bl i/\y = .bl j/\Q (.bl (if neg=true then !decide (i=j) else decide (i=j))) .fr)
theorem J8 (i j:Int):decide (V.int i=V.int j)=decide (i=j):=by
 rw [bl7,bj0,bj0]; exact⟨fun z=>V.int.inj z,fun z=>congrArg V.int z⟩
theorem K0 (i j:Bool):decide (V.bl i=V.bl j)=decide (i=j):=by
 rw [bl7,bj0,bj0]; exact⟨fun z=>V.bl.inj z,fun z=>congrArg V.bl z⟩
theorem K1:eU X (kZ false) zE:=by
 rintro W Hs H u v x y g g' Q Q' s n r1 r2 (⟨i,j,rfl,rfl,q⟩ | ⟨i,j,rfl,rfl,q⟩) k
 ·cases r1; cases r2
  exact⟨rfl,by rw [J8]; exact k _ _ _ _ (aD.refl _) (.bl _) q⟩
 ·cases r1; cases r2
  exact⟨rfl,by rw [K0]; exact k _ _ _ _ (aD.refl _) (.bl _) q⟩
theorem at3:eU X (kZ true) zF:=by
 rintro W Hs H u v x y g g' Q Q' s n r1 r2 (⟨i,j,rfl,rfl,q⟩ | ⟨i,j,rfl,rfl,q⟩) k
 ·cases r1; cases r2
  exact⟨rfl,by rw [J8]; exact k _ _ _ _ (aD.refl _) (.bl _) q⟩
 ·cases r1; cases r2
  exact⟨rfl,by rw [K0]; exact k _ _ _ _ (aD.refl _) (.bl _) q⟩
def aU (t:aE):bT:=fun ρ Q=>t ρ fun x _=>∃ b,x = .bl b/\Q b
theorem vG {t:aE}{Q':Bool->Hp->Prop} (h:LT X (aU t) σ H Q'):LE X t σ H fun x H'=>∃ k,x = .bl k/\Q' k H':=by
 obtain ⟨W,ρ,Q,px,q,k⟩:=h
 refine⟨W,ρ,_,px,q,?_⟩
 rintro v H1 x g s r ⟨b,rfl,q⟩
 cases r
 exact⟨b,rfl,k _ _ s q⟩
def i3 (t u:bT):bT:=fun ρ Q=>t ρ fun c=>if c=true then u ρ Q else Q false
def mF (t u:bT):bT:=fun ρ Q=>t ρ fun c=>if c=true then Q true else u ρ Q
def jE (t:bT):bT:=fun ρ Q=>t ρ fun c=>Q (!c)
variable {t u : bT} {Qb : Bool → Hp → Prop}
theorem at5 (h:LT X (i3 t u) σ H Qb):yK (LT X t) (LT X u) σ H Qb:=by
 obtain ⟨W,ρ,Q,px,q,k⟩:=h
 refine⟨W,ρ,_,px,q,fun b H1 s1 q1=>?_⟩
 cases b with
 | true=>exact aV ⟨W,ρ,Q,px.mono s1,by simpa using q1,fun b H2 s2 q2=>k _ _ (s1.trans s2) q2⟩
 | false=>exact aR (k _ _ s1 (by simpa using q1))
theorem at6 (h:LT X (mF t u) σ H Qb):yL (LT X t) (LT X u) σ H Qb:=by
 obtain ⟨W,ρ,Q,px,q,k⟩:=h
 refine⟨W,ρ,_,px,q,fun b H1 s1 q1=>?_⟩
 cases b with
 | false=>exact aR ⟨W,ρ,Q,px.mono s1,by simpa using q1,fun b H2 s2 q2=>k _ _ (s1.trans s2) q2⟩
 | true=>exact aV (k _ _ s1 (by simpa using q1))
theorem at7 (h:LT X (jE t) σ H Qb):yM (LT X t) σ H Qb:=by
 obtain ⟨W,ρ,Q,px,q,k⟩:=h
 exact⟨W,ρ,_,px,q,fun b H1 s1 q1=>k _ _ s1 q1⟩
def mG (ta tb:aE):aE:=fun ρ Q=>ta ρ fun x _=>∃ c,x = .bl c/\if c=true then tb ρ Q else Q (.bl false) .fr
theorem qT.back {K:PySem.W.Frag}{H0:Hp}{W:Addr->Prop}{H H1:Hp}{Q:PK} (k:qT K H0 W H Q Q') (s:aD H H1):qT K H0 W H1 Q Q':=fun v H' x g s' r q=>k v H' x g (s.trans s') (r.same (aD.refl _) fun _ z=>Mg.back s z) q
theorem at8 (h:LE X (mG ta tb) σ H Q'):yN (LE X ta) (LE X tb) σ H Q':=by
 obtain ⟨W,ρ,Q,px,q,k⟩:=h
 refine⟨W,ρ,_,px,q,?_⟩
 rintro v H1 x g s1 r ⟨c,rfl,q⟩
 cases r
 refine⟨c,rfl,?_⟩
 cases c with
 | true=>exact aV ⟨W,ρ,Q,px.mono s1,by simpa using q,k.back s1⟩
 | false=>exact aR (k _ _ _ _ s1 (.bl _) (by simpa using q))
def a9:cI:=fun _ Q=>Q []
def a6 (te:aE) (tr:cI):cI:=fun ρ Q=>te ρ fun x g=>tr ρ fun xs=>Q ((x,g) :: xs)
variable {Qa : List V → Hp → Prop} {tr : cI}
theorem at9 (h:LA X a9 σ H Qa):j5 σ H Qa:=by
 obtain ⟨W,ρ,Q,px,q,k⟩:=h
 exact k _ _ _ (aD.refl _) .nil q
theorem au0 (h:LA X (a6 ta tr) σ H Qa):gZ (LE X ta) (LA X tr) σ H Qa:=by
 obtain ⟨W,ρ,Q,px,q,k⟩:=h
 refine⟨W,ρ,_,px,q,fun v H1 x g s1 r1 q1=>⟨W,ρ,_,px.mono s1,q1,fun vs H2 xs s2 r2 q2=>?_⟩⟩
 exact k _ _ _ (s1.trans s2) (.cons (r1.same s2 fun _ z=>z) (r2.same (aD.refl _) s1)) q2
def vH (t:cI):aE:=fun ρ Q=>t ρ fun xs=>xs.length<=1000/\kY xs/\Q (.tup (xs.map (·.1))) .nw
def dB (t:cI):aE:=fun ρ Q=>t ρ fun xs=>xs.length<=1000/\flats (xs.map (·.1))=true/\Q (.tup (xs.map (·.1))) .fr
def eV (t:cI):aE:=fun ρ Q=>t ρ fun xs=>xs.length<=1000/\flats (xs.map (·.1))=true/\Q (.lst (xs.map (·.1))) .fr
theorem gK.length {K:PySem.W.Frag}{H0:Hp}{W:Addr->Prop}{Hs H:Hp}:∀ {vs:List V}{xs:List (PV × Tg)},gK K H0 W Hs H vs xs->vs.length=xs.length
 | _,_,.nil=>rfl
 | _,_,.cons _ t=>congrArg (· + 1) t.length
theorem oK {n:Nat} (h:n<=1000):n<=sizeLine:=bi2 (oA h)
theorem au1 (h:LE X (vH tr) σ H Q'):u4 (LA X tr) σ H Q':=by
 obtain ⟨W,ρ,Q,px,q,k⟩:=h
 refine⟨W,ρ,_,px,q,?_⟩
 rintro vs H1 xs s1 r ⟨hl,n,q⟩
 refine⟨by rw [r.length]; exact oK hl,fun p hp=>k _ _ _ .nw (s1.trans (bB hp _)) (.tup b8 ?_) q⟩
 exact (kY.reps (vs:=vs) px n r).same (bB hp _) fun _ z=>z
theorem au2 (h:LE X (dB tr) σ H Q'):u4 (LA X tr) σ H Q':=by
 obtain ⟨W,ρ,Q,px,q,k⟩:=h
 refine⟨W,ρ,_,px,q,?_⟩
 rintro vs H1 xs s1 r ⟨hl,n,q⟩
 refine⟨by rw [r.length]; exact oK hl,fun p hp=>k _ _ _ .fr (s1.trans (bB hp _)) (.tup b8 ?_) q⟩
 exact (r.any.flat n).same (bB hp _) fun _ z=>z
theorem au3 (h:LE X (eV tr) σ H Q'):u5 (LA X tr) σ H Q':=by
 obtain ⟨W,ρ,Q,px,q,k⟩:=h
 refine⟨W,ρ,_,px,q,?_⟩
 rintro vs H1 xs s1 r ⟨hl,n,q⟩
 refine⟨by rw [r.length]; exact oK hl,fun p hp=>k _ _ _ .fr (s1.trans (bB hp _)) (.lst (s1.free hp) b8 ?_) q⟩
 exact (r.any.flat n).same (bB hp _) fun _ z=>z
def fM (X:Cx) (R:List PV->(PV->Prop)->Prop) (r:List V->Hp->VK->Prop):Prop:=∀ (H:Hp) (vs:List V) (xs:List PV) (Q:PV->Prop) (Q':VK),Reps X.K (fun _=>True) H vs xs->R xs Q->
 (∀ w H' z,aD H H'->aJ X.K (fun a=>H a=none) H' w z->Q z->Q' w H')->r vs H Q'
def aB (R:List PV->(PV->Prop)->Prop) (t:cI):aE:=fun ρ Q=>t ρ fun xs=>R (xs.map (·.1)) fun z=>Q z .fr
theorem K2 {R:List PV->(PV->Prop)->Prop}{r:List V->Hp->VK->Prop} (c:fM X R r) (h:LE X (aB R tr) σ H Q'):u8 r (LA X tr) σ H Q':=by
 obtain ⟨W,ρ,Q,px,q,k⟩:=h
 refine⟨W,ρ,_,px,q,fun vs H1 xs s1 r1 q1=>c H1 vs _ _ Q' r1.any q1 fun w H' z s2 r2 q2=>k w H' z .fr (s1.trans s2) (r2.same (aD.refl _) fun _ z=>s1.free z) q2⟩
end
structure jF where
 nx:bG->Prop
 rt:PV->Prop
 bk:bG->Prop:=fun _=>False
 ct:bG->Prop:=fun _=>False
abbrev aH:=jF->bG->Prop
def Ev (W:Addr->Prop) (H:Hp) (W':Addr->Prop) (H':Hp):Prop:=∀ b o,H b=some o->¬ W b->H' b=some o/\¬ W' b
theorem Ev.trans {W W1 W2:Addr->Prop}{H H1 H2:Hp} (a:Ev W H W1 H1) (b:Ev W1 H1 W2 H2):Ev W H W2 H2:=fun c o h n=>let ⟨h1,n1⟩:=a c o h n; b c o h1 n1
theorem Ev.same {W:Addr->Prop}{H H':Hp} (s:aD H H'):Ev W H W H':=fun c o h n=>⟨s _ _ h,n⟩
theorem Ev.refl (W:Addr->Prop) (H:Hp):Ev W H W H:=Ev.same (aD.refl _)
structure mH (X:Cx) (W:Addr->Prop) (H:Hp) (D':jF) (D:c7):Prop where
 nx:∀ W' σ' H' ρ',Ev W H W' H'->PX X.K X.H₀ W' σ' ρ' H'->D'.nx ρ'->D.nx σ' H'
 rt:∀ v H' x,aD X.H₀ H'->aJ X.K (fun a=>X.H₀ a=none) H' v x->D'.rt x->D.rt v H'
 bk:∀ W' σ' H' ρ',Ev W H W' H'->PX X.K X.H₀ W' σ' ρ' H'->D'.bk ρ'->D.bk σ' H'
 ct:∀ W' σ' H' ρ',Ev W H W' H'->PX X.K X.H₀ W' σ' ρ' H'->D'.ct ρ'->D.ct σ' H'
theorem mH.step {X:Cx}{W W1:Addr->Prop}{H H1:Hp}{D':jF}{D:c7} (k:mH X W H D' D) (e:Ev W H W1 H1):mH X W1 H1 D' D:=
 ⟨fun W' σ' H' ρ' e'=>k.nx W' σ' H' ρ' (e.trans e'),k.rt,fun W' σ' H' ρ' e'=>k.bk W' σ' H' ρ' (e.trans e'),fun W' σ' H' ρ' e'=>k.ct W' σ' H' ρ' (e.trans e')⟩
def LS (X:Cx) (t:aH):TS:=fun D σ H=>∃ (W:Addr->Prop) (ρ:bG) (D':jF),PX X.K X.H₀ W σ ρ H/\t D' ρ/\mH X W H D' D
theorem dH {α:Type}{l:List α}{i j:Nat}{a b:α} (h:(l.set i a)[j]? = some b):(j=i/\i < l.length/\b=a) ∨ (j ≠ i/\l[j]? = some b):=by
 by_cases e:j=i
 ·subst e
  have hl:j < (l.set j a).length:=(bc6.mp h).1
  rw [bg1] at hl
  rw [bg6 hl] at h
  exact .inl ⟨rfl,hl,(be8 h).symm⟩
 ·rw [bd7 (Ne.symm e)] at h
  exact .inr ⟨e,h⟩
section
variable {K : PySem.W.Frag} {H0 : Hp} {W W' : Addr → Prop} {σ : St} {ρ : bG} {H H' Hs : Hp}
theorem PX.setSh {i:Nat}{v:V}{g:Bool}{x:PV} (p:PX K H0 W σ ρ H) (r:aJ K (Ms H0 W g) H v x):PX K H0 W (σ.set i (some v)) (ρ.set i (some (.sh g x))) H:=by
 refine⟨by rw [bg1,bg1]; exact p.len,p.same,p.wm,fun j m h=>?_,fun j k y z a h1 h2 h3 h4=>?_⟩
 ·rcases dH h with ⟨rfl,hl,e⟩ | ⟨hne,h⟩
  ·cases e
   rw [p.len] at hl
   exact⟨v,bg6 hl,r⟩
  ·obtain ⟨u,e,q⟩:=p.sl j m h
   exact⟨u,by rw [bd7 (Ne.symm hne)]; exact e,q⟩
 ·rcases dH h1 with ⟨_,_,e⟩ | ⟨n1,h1⟩
  ·cases e
  ·rcases dH h2 with ⟨_,_,e⟩ | ⟨n2,h2⟩
   ·cases e
   ·rw [bd7 (Ne.symm n1)] at h3
    rw [bd7 (Ne.symm n2)] at h4
    exact p.dis j k y z a h1 h2 h3 h4
theorem PX.setNone {i:Nat}{o:Option V} (p:PX K H0 W σ ρ H):PX K H0 W (σ.set i o) (ρ.set i none) H:=by
 refine⟨by rw [bg1,bg1]; exact p.len,p.same,p.wm,fun j m h=>?_,fun j k y z a h1 h2 h3 h4=>?_⟩
 ·rcases dH h with ⟨rfl,hl,e⟩ | ⟨hne,h⟩
  ·cases e
  ·obtain ⟨u,e,q⟩:=p.sl j m h
   exact⟨u,by rw [bd7 (Ne.symm hne)]; exact e,q⟩
 ·rcases dH h1 with ⟨_,_,e⟩ | ⟨n1,h1⟩
  ·cases e
  ·rcases dH h2 with ⟨_,_,e⟩ | ⟨n2,h2⟩
   ·cases e
   ·rw [bd7 (Ne.symm n1)] at h3
    rw [bd7 (Ne.symm n2)] at h4
    exact p.dis j k y z a h1 h2 h3 h4
def mI (W:Addr->Prop) (a:Addr):Addr->Prop:=fun b=>W b ∨ b=a
theorem vI {g:Bool}{a b:Addr} (n:b ≠ a) (h:Ms H0 W g b):Ms H0 (mI W a) g b:=by
 cases g with
 | true=>exact⟨fun z=>z.elim h.1 n,h.2⟩
 | false=>exact fun z=>z.elim h n
theorem PX.setOwn {i:Nat}{a:Addr}{x:PV} (p:PX K H0 W σ ρ Hs) (s:aD Hs H) (ha:Hs a=none) (r:gJ K (Ms H0 (mI W a) true) H a x):PX K H0 (mI W a) (σ.set i (some (.ref a))) (ρ.set i (some (.own x))) H:=by
 have old:∀ b o,Hs b=some o->b ≠ a:=fun b o e z=>by rw [z,ha] at e; cases e
 have kp:∀ g,hV (Ms H0 W g) (Ms H0 (mI W a) g) Hs H:=fun g=>⟨fun b _ m e=>⟨vI (old _ _ e) m,s _ _ e⟩,fun b _ m e=>⟨vI (old _ _ e) m,s _ _ e⟩,fun b _ m e=>⟨vI (old _ _ e) m,s _ _ e⟩,fun _ _ e=>s _ _ e,fun _ _ _ e=>s _ _ e⟩
 have wa : ¬ W a:=(p.new ha).1
 refine⟨by rw [bg1,bg1]; exact p.len,p.same.trans s,fun b z=>?_,fun j m h=>?_,fun j k y z b h1 h2 h3 h4=>?_⟩
 ·rcases z with z | rfl
  ·obtain ⟨h1,o,h2,h3⟩:=p.wm b z
   exact⟨h1,o,s _ _ h2,h3⟩
  ·exact⟨(p.new ha).2,r.at⟩
 ·rcases dH h with ⟨rfl,hl,e⟩ | ⟨hne,h⟩
  ·cases e
   rw [p.len] at hl
   exact⟨_,bg6 hl,a,rfl,.inr rfl,r⟩
  ·obtain ⟨u,e,q⟩:=p.sl j m h
   refine⟨u,by rw [bd7 (Ne.symm hne)]; exact e,?_⟩
   cases m with
   | sh g y=>exact aJ.keep (kp g) q
   | own y=>
    obtain ⟨b,e1,e2,q⟩:=q
    exact⟨b,e1,.inl e2,q.keep (kp true) fun o z=>s _ _ z⟩
 ·have ne:∀ {j:Nat}{y:PV},ρ[j]? = some (some (.own y))->σ[j]? ≠ some (some (.ref a)):=fun {j y} h1 h2=>by
   obtain ⟨u,e,c,e1,e2,_⟩:=p.sl j _ h1
   rw [h2] at e
   cases e
   cases e1
   exact wa e2
  rcases dH h1 with ⟨e1,l1,_⟩ | ⟨n1,h1⟩
  ·rcases dH h2 with ⟨e2,_,_⟩ | ⟨n2,h2⟩
   ·rw [e1,e2]
   ·rw [e1,bg6 (by rw [<- p.len]; exact l1)] at h3
    rw [bd7 (Ne.symm n2)] at h4
    cases h3
    exact absurd h4 (ne h2)
  ·rw [bd7 (Ne.symm n1)] at h3
   rcases dH h2 with ⟨e2,l2,_⟩ | ⟨n2,h2⟩
   ·rw [e2,bg6 (by rw [<- p.len]; exact l2)] at h4
    cases h4
    exact absurd h3 (ne h1)
   ·rw [bd7 (Ne.symm n2)] at h4
    exact p.dis j k y z b h1 h2 h3 h4
theorem Ev.own {a:Addr} (s:aD Hs H) (ha:Hs a=none):Ev W Hs (mI W a) H:=fun b o e n=>⟨s _ _ e,fun z=>z.elim n fun z=>by rw [z,ha] at e; cases e⟩
theorem i4 {g:Bool}{a b:Addr} (wa:W a) (h:Ms H0 W g b):b ≠ a:=by
 cases g with
 | true=>exact fun z=>h.1 (by rw [z]; exact wa)
 | false=>exact fun z=>h (by rw [z]; exact wa)
theorem PX.updOwn {i:Nat}{a:Addr}{x y:PV}{o:HO} (p:PX K H0 W σ ρ H) (hi:ρ[i]? = some (some (.own x))) (ha:σ[i]? = some (some (.ref a))) (wa:W a) (mu:fV o=true) (r:gJ K (Ms H0 W true) (upd H a o) a y) :
  PX K H0 W σ (ρ.set i (some (.own y))) (upd H a o):=by
 obtain ⟨w0,o',e',mu'⟩:=p.wm a wa
 have kp:∀ g,hV (Ms H0 W g) (Ms H0 W g) H (upd H a o):=fun g=>.upd e' mu' fun b m=>⟨i4 wa m,m⟩
 refine⟨by rw [bg1]; exact p.len,fun b u e=>by rw [aL (fun z=>by rw [z,w0] at e; cases e)]; exact p.same _ _ e,fun b z=>?_,fun j m h=>?_,fun j k y' z b h1 h2 h3 h4=>?_⟩
 ·by_cases e:b=a
  ·subst e; exact⟨w0,o,b8,mu⟩
  ·obtain ⟨h1,o2,h2,h3⟩:=p.wm b z
   exact⟨h1,o2,by rw [aL e]; exact h2,h3⟩
 ·rcases dH h with ⟨rfl,hl,e⟩ | ⟨hne,h⟩
  ·cases e
   exact⟨_,ha,a,rfl,wa,r⟩
  ·obtain ⟨u,e,q⟩:=p.sl j m h
   refine⟨u,e,?_⟩
   cases m with
   | sh g y=>exact aJ.keep (kp g) q
   | own y=>
    obtain ⟨b,e1,e2,q⟩:=q
    have hb:b ≠ a:=fun z=>by
     subst e1
     rw [z] at e
     exact hne (p.dis j i _ _ a h hi e ha)
    exact⟨b,e1,e2,q.keep (kp true) fun o z=>by rw [aL hb]; exact z⟩
 ·have g1:∃ y,ρ[j]? = some (some (.own y)):=by
   rcases dH h1 with ⟨e,_,_⟩ | ⟨_,h⟩
   ·exact⟨x,by rw [e]; exact hi⟩
   ·exact⟨_,h⟩
  have g2:∃ y,ρ[k]? = some (some (.own y)):=by
   rcases dH h2 with ⟨e,_,_⟩ | ⟨_,h⟩
   ·exact⟨x,by rw [e]; exact hi⟩
   ·exact⟨_,h⟩
  obtain ⟨y1,g1⟩:=g1
  obtain ⟨y2,g2⟩:=g2
  exact p.dis j k y1 y2 b g1 g2 h3 h4
theorem Ev.upd {a:Addr}{o:HO} (wa:W a):Ev W H W (upd H a o):=fun b u e n=>⟨by rw [aL (fun z=>n (by rw [z]; exact wa))]; exact e,n⟩
def oM (W:Addr->Prop) (a:Addr):Addr->Prop:=fun b=>W b/\b ≠ a
theorem vJ {g:Bool}{a b:Addr} (h:Ms H0 W g b):Ms H0 (oM W a) g b:=by
 cases g with
 | true=>exact⟨fun z=>h.1 z.1,h.2⟩
 | false=>exact fun z=>h z.1
theorem PX.freeze {i:Nat}{a:Addr}{x:PV} (p:PX K H0 W σ ρ H) (hi:ρ[i]? = some (some (.own x))) (ha:σ[i]? = some (some (.ref a))):PX K H0 (oM W a) σ (ρ.set i (some (.sh true x))) H:=by
 obtain ⟨v,ev,a',e1,wa,r⟩:=p.sl i _ hi
 rw [ha] at ev
 cases ev
 cases e1
 refine⟨by rw [bg1]; exact p.len,p.same,fun b z=>p.wm b z.1,fun j m h=>?_,fun j k y' z b h1 h2 h3 h4=>?_⟩
 ·rcases dH h with ⟨rfl,hl,e⟩ | ⟨hne,h⟩
  ·cases e
   exact⟨_,ha,r.rep (M':=Ms H0 (oM W a) true) (fun b m=>vJ (g:=true) m) (show Ms H0 (oM W a) true a from ⟨fun z=>z.2 rfl,(p.wm a wa).1⟩)⟩
  ·obtain ⟨u,e,q⟩:=p.sl j m h
   refine⟨u,e,?_⟩
   cases m with
   | sh g y=>exact aJ.same q (aD.refl _) fun _ m=>vJ m
   | own y=>
    obtain ⟨b,e1,e2,q⟩:=q
    have hb:b ≠ a:=fun z=>by
     subst e1
     rw [z] at e
     exact hne (p.dis j i _ _ a h hi e ha)
    exact⟨b,e1,⟨e2,hb⟩,q.keep (.same (aD.refl _) fun _ m=>vJ m) fun _ z=>z⟩
 ·rcases dH h1 with ⟨_,_,e⟩ | ⟨_,h1⟩
  ·cases e
  ·rcases dH h2 with ⟨_,_,e⟩ | ⟨_,h2⟩
   ·cases e
   ·exact p.dis j k _ _ b h1 h2 h3 h4
theorem Ev.off {a:Addr}:Ev W H (oM W a) H:=fun b u e n=>⟨e,fun z=>n z.1⟩
end
section
variable {X : Cx} {σ : St} {H : Hp} {D : c7} {te : aE} {t u : aH}
def cC:aH:=fun D ρ=>D.nx ρ
def aG (t u:aH):aH:=fun D ρ=>t { D with nx:=u D } ρ
theorem au4 (h:LS X cC D σ H):yO D σ H:=by
 obtain ⟨W,ρ,D',px,q,k⟩:=h
 exact k.nx W σ H ρ (Ev.refl _ _) px q
theorem au5 (h:LS X (aG t u) D σ H):tP (LS X t) (LS X u) D σ H:=by
 obtain ⟨W,ρ,D',px,q,k⟩:=h
 exact⟨W,ρ,_,px,q,fun W' σ' H' ρ' e px' q'=>⟨W',ρ',D',px',q',k.step e⟩,k.rt,k.bk,k.ct⟩
def vK:aH:=fun D ρ=>D.bk ρ
theorem au6 (h:LS X vK D σ H):yP D σ H:=by
 obtain ⟨W,ρ,D',px,q,k⟩:=h
 exact k.bk W σ H ρ (Ev.refl _ _) px q
def K3:Tg->PV->Bool
 | .fr,_=>true
 | .nw,_=>true
 | _,x=>flat x
def vL:Tg->PV->Prop
 | .rd,x=>flat x=true
 | _,_=>True
theorem au7 {K:PySem.W.Frag}{H0 Hs H:Hp}{W:Addr->Prop}{σ:St}{ρ:bG}{g:Tg}{x:PV}{v:V} (px:PX K H0 W σ ρ Hs) (n:vL g x) (r:aJ K (Mg H0 W Hs g) H v x):aJ K (Ms H0 W (K3 g x)) H v x:=by
 cases g with
 | fr=>exact Nw.rep (g:=.fr) px trivial r
 | nw=>exact Nw.rep (g:=.nw) px trivial r
 | sh=>
  show aJ K (Ms H0 W (flat x)) H v x
  cases e:flat x with
  | true=>exact r.flat e
  | false=>exact r.same (aD.refl _) fun _ z=>z
 | rd=>exact r.flat n
def b5 (i:Nat) (te:aE):aH:=fun D ρ=>te ρ fun x g=>vL g x/\D.nx (ρ.set i (some (.sh (K3 g x) x)))
theorem qW {i:Nat} (h:LS X (b5 i te) D σ H):jS (LE X te) (bX i) D σ H:=by
 obtain ⟨W,ρ,D',px,q,k⟩:=h
 refine⟨W,ρ,_,px,q,?_⟩
 rintro v H1 x g s r ⟨n,q⟩
 exact k.nx W _ H1 _ (Ev.same s) ((px.mono s).setSh (au7 px n r)) q
def K4:PV->Bool
 | .lst xs=>flats xs
 | .dK ps=>flats (ps.map (·.2))
 | .dT ps=>flats (ps.map (·.2))
 | _=>false
theorem au8 {K:PySem.W.Frag}{M:Addr->Prop}{H:Hp}{v:V}{x:PV} (r:aJ K M H v x) (o:K4 x=true):∃ a,v = .ref a/\M a/\∀ M',gJ K M' H a x:=by
 cases r with
 | lst m e r=>exact⟨_,rfl,m,fun _=>⟨_,e,r.flat o⟩⟩
 | dK m e q r=>exact⟨_,rfl,m,fun _=>⟨_,e,q,r.flat o⟩⟩
 | dT m e q r=>exact⟨_,rfl,m,fun _=>⟨_,e,q,r.flat o⟩⟩
 | _=>cases o
def dI (i:Nat) (te:aE):aH:=fun D ρ=>te ρ fun x g=>g = .fr/\K4 x=true/\D.nx (ρ.set i (some (.own x)))
theorem K5 {i:Nat} (h:LS X (dI i te) D σ H):jS (LE X te) (bX i) D σ H:=by
 obtain ⟨W,ρ,D',px,q,k⟩:=h
 refine⟨W,ρ,_,px,q,?_⟩
 rintro v H1 x g s r ⟨rfl,o,q⟩
 obtain ⟨a,rfl,m,w⟩:=au8 r o
 exact k.nx _ _ H1 _ (Ev.own s m) (px.setOwn s m (w _)) q
def qX (i:Nat) (t:aH):aH:=fun D ρ=>∃ x,ρ[i]? = some (some (.own x))/\t D (ρ.set i (some (.sh true x)))
theorem au9 {i:Nat} (h:LS X (qX i t) D σ H):LS X t D σ H:=by
 obtain ⟨W,ρ,D',px,⟨x,hi,q⟩,k⟩:=h
 obtain ⟨v,ev,a,rfl,wa,r⟩:=px.sl i _ hi
 exact⟨_,_,D',px.freeze hi ev,q,k.step Ev.off⟩
def bC (te:aE):aH:=fun D ρ=>te ρ fun x g=>Nw g x/\D.rt x
theorem av0 (h:LS X (bC te) D σ H):lY (LE X te) D σ H:=by
 obtain ⟨W,ρ,D',px,q,k⟩:=h
 refine⟨W,ρ,_,px,q,?_⟩
 rintro v H1 x g s r ⟨n,q⟩
 exact k.rt v H1 x (px.same.trans s) ((Nw.rep px n r).same (aD.refl _) fun _ z=>z.2) q
def Slot.nw:Slot->Prop
 | .own _=>True
 | .sh true _=>True
 | .sh false x=>flat x=true
def dJ (i:Nat):aH:=fun D ρ=>∃ m,ρ[i]? = some (some m)/\m.nw/\D.rt m.val
theorem av1 {i:Nat} (h:LS X (dJ i) D σ H):lY (eF i) D σ H:=by
 obtain ⟨W,ρ,D',px,⟨m,hi,n,q⟩,k⟩:=h
 obtain ⟨v,ev,r⟩:=px.sl i _ hi
 refine⟨v,ev,k.rt v H _ px.same ?_ q⟩
 cases m with
 | own x=>
  obtain ⟨a,rfl,wa,r⟩:=r
  exact r.rep (fun _ z=>z.2) (px.wm a wa).1
 | sh g x=>
  cases g with
  | true=>exact aJ.same r (aD.refl _) fun _ z=>z.2
  | false=>exact aJ.flat n r
def bL (c:bT) (t u:aH):aH:=fun D ρ=>c ρ fun b=>if b=true then t D ρ else u D ρ
theorem av2 {c:bT} (h:LS X (bL c t u) D σ H):yQ (LT X c) (LS X t) (LS X u) D σ H:=by
 obtain ⟨W,ρ,D',px,q,k⟩:=h
 refine⟨W,ρ,_,px,q,fun b H1 s q1=>?_⟩
 cases b with
 | true=>exact aV ⟨W,ρ,D',px.mono s,by simpa using q1,k.step (Ev.same s)⟩
 | false=>exact aR ⟨W,ρ,D',px.mono s,by simpa using q1,k.step (Ev.same s)⟩
def mJ (c:bT) (tb:aH):aH:=fun D ρ=>∃ I:Nat->bG->Prop,(∃ m,I m ρ)/\∀ m ρ',I m ρ'->c ρ' fun b=>if b=true then tb { D with nx:=fun ρ2=>∃ m',m' < m/\I m' ρ2,ct:=fun ρ2=>∃ m',m' < m/\I m' ρ2,bk:=D.nx } ρ' else D.nx ρ'
theorem av3 {c:bT}{tb:aH} (h:LS X (mJ c tb) D σ H):yU (LT X c) (LS X tb) D σ H:=by
 obtain ⟨W,ρ,D',px,⟨I,⟨m0,i0⟩,turn⟩,k⟩:=h
 refine⟨fun m σ2 H2=>∃ W2 ρ2,PX X.K X.H₀ W2 σ2 ρ2 H2/\Ev W H W2 H2/\I m ρ2,⟨m0,W,ρ,px,Ev.refl _ _,i0⟩,?_⟩
 rintro m σ2 H2 ⟨W2,ρ2,px2,e2,i2⟩
 refine⟨W2,ρ2,_,px2,turn m ρ2 i2,fun b H3 s3 q3=>?_⟩
 cases b with
 | true=>
  refine aV ⟨fun σ4 H4=>∃ W4 ρ4,PX X.K X.H₀ W4 σ4 ρ4 H4/\Ev W H W4 H4/\∃ m',m' < m/\I m' ρ4,fun σ4 H4 ⟨W4,ρ4,a,b,m',c,d⟩=>⟨m',c,W4,ρ4,a,b,d⟩,W2,ρ2,_,px2.mono s3,by simpa using q3,?_⟩
  have e3:Ev W H W2 H3:=e2.trans (Ev.same s3)
  exact⟨fun W' σ' H' ρ' e p q=>⟨W',ρ',p,e3.trans e,q⟩,k.rt,fun W' σ' H' ρ' e p q=>k.nx W' σ' H' ρ' (e3.trans e) p q,fun W' σ' H' ρ' e p q=>⟨W',ρ',p,e3.trans e,q⟩⟩
 | false=>exact aR (k.nx W2 σ2 H3 ρ2 (e2.trans (Ev.same s3)) (px2.mono s3) (by simpa using q3))
end
theorem lim {n:Nat} (h:n<=16000000):n<=sizeLine:=bi2 (hU h)
theorem aJ.sqT {K:PySem.W.Frag}{M:Addr->Prop}{H:Hp}{v:V}{xs:List PV} (r:aJ K M H v (.tup xs)):∃ a us,v = .ref a/\H a=some (.tup us)/\Reps K M H us xs:=by
 cases r with
 | tup e r=>exact⟨_,_,rfl,e,r⟩
theorem aJ.sqL {K:PySem.W.Frag}{M:Addr->Prop}{H:Hp}{v:V}{xs:List PV} (r:aJ K M H v (.lst xs)):∃ a us,v = .ref a/\M a/\H a=some (.lst us)/\Reps K M H us xs:=by
 cases r with
 | lst m e r=>exact⟨_,_,rfl,m,e,r⟩
theorem jD.sqL {K:PySem.W.Frag}{H:Hp}{a:Addr}{ns:List Int} (h:jD K H a ns):aN K H a (ns.map V.int):=h.elim (fun z=>.inl (.inr z)) .inr
def iM:PV->Option (List PV)
 | .tup xs=>some xs
 | .lst xs=>some xs
 | .scr ns=>some (intz ns)
 | .kt xs=>some xs
 | _=>none
theorem aJ.seq {K:PySem.W.Frag}{M:Addr->Prop}{H:Hp}{v:V}{x:PV}{xs:List PV} (r:aJ K M H v x) (e:iM x=some xs):∃ a us,v = .ref a/\(aN K H a us ∨ aO K H a us)/\Reps K M H us xs:=by
 cases r with
 | tup h r=>cases e; exact⟨_,_,rfl,.inr (aO.of h),r⟩
 | lst m h r=>cases e; exact⟨_,_,rfl,.inl (aN.of h),r⟩
 | scr h=>cases e; exact⟨_,_,rfl,.inl h.sqL,Reps.intz _⟩
 | kt h r=>cases e; exact⟨_,_,rfl,.inr (.inr h),r⟩
 | _=>cases e
section
variable {X : Cx} {σ : St} {H : Hp} {D : c7} {te ti to : aE} {t u : aH} {Q' : VK}
theorem _root_.PP.PX.updL {K:PySem.W.Frag}{H0:Hp}{W:Addr->Prop}{σ:St}{ρ:bG}{H:Hp}{i:Nat}{a:Addr}{x:PV}{us:List V}{ys:List PV} (p:PX K H0 W σ ρ H) (hi:ρ[i]? = some (some (.own x))) (ha:σ[i]? = some (some (.ref a))) (wa:W a) (r:Reps K (Ms H0 W true) (upd H a (.lst us)) us ys) :
  PX K H0 W σ (ρ.set i (some (.own (.lst ys)))) (upd H a (.lst us)):=p.updOwn hi ha wa rfl (y:=.lst ys) ⟨us,b8,r⟩
def jX (i:Nat) (te:aE):aH:=fun D ρ=>∃ xs,ρ[i]? = some (some (.own (.lst xs)))/\te ρ fun x g=>Nw g x/\xs.length < 16000000/\D.nx (ρ.set i (some (.own (.lst (xs ++ [x])))))
theorem av4 {i:Nat} (h:LS X (jX i te) D σ H):jR (pV X.K "list" B4 (eF i) (gZ (LE X te) j5)) D σ H:=by
 obtain ⟨W,ρ,D',px,⟨xs,hi,q⟩,k⟩:=h
 obtain ⟨v,ev,a,rfl,wa,us,ea,r⟩:=px.sl i _ hi
 refine⟨_,ev,kX (aN.of ea),W,ρ,_,px,q,?_⟩
 rintro w H1 x g s rx ⟨n,hl,q⟩
 have ea1:=s _ _ ea
 refine⟨a,us,w,rfl,rfl,ea1,hU (by rw [r.length]; omega),?_⟩
 refine k.nx W σ _ _ ((Ev.same s).trans (Ev.upd wa)) ((px.mono s).updL hi ev wa ?_) q
 exact ((r.same s fun _ z=>z).append (.cons (Nw.rep px n rx) .nil)).keep (.upd ea1 rfl fun b m=>⟨i4 wa m,m⟩)
def oN (i:Nat) (tk te:aE):aH:=fun D ρ=>te ρ fun x g=>∃ xs,ρ[i]? = some (some (.own (.lst xs)))/\tk ρ fun y _=>∃ n j,y = .int n/\gF xs.length n=some j/\Nw g x/\D.nx (ρ.set i (some (.own (.lst (xs.set j x)))))
theorem av5 {i:Nat}{tk:aE} (h:LS X (oN i tk te) D σ H):jS (LE X te) (tR (eF i) (LE X tk) uF) D σ H:=by
 obtain ⟨W,ρ,D',px,q,k⟩:=h
 refine⟨W,ρ,_,px,q,?_⟩
 rintro w H1 x g s rx ⟨xs,hi,q1⟩
 obtain ⟨v,ev,a,rfl,wa,us,ea,r⟩:=(px.mono s).sl i _ hi
 refine⟨_,ev,W,ρ,_,px.mono s,q1,?_⟩
 rintro kv H2 y gy s2 ry ⟨n,j,rfl,hj,nw,q2⟩
 cases ry
 have ea2:=s2 _ _ ea
 refine⟨a,us,n,j,rfl,rfl,ea2,by rw [r.length]; exact hj,?_⟩
 refine k.nx W σ _ _ ((Ev.same (s.trans s2)).trans (Ev.upd wa)) ((px.mono (s.trans s2)).updL hi ev wa ?_) q2
 exact (Reps.set ((Nw.rep px nw rx).same s2 fun _ z=>z) j (r.same s2 fun _ z=>z)).keep (.upd ea2 rfl fun b m=>⟨i4 wa m,m⟩)
theorem Reps.snoc_inv {K:PySem.W.Frag}{M:Addr->Prop}{H:Hp}{us:List V}{xs:List PV}{y:PV} (r:Reps K M H us (xs ++ [y])):∃ vs v,us=vs ++ [v]/\Reps K M H vs xs/\aJ K M H v y:=by
 have l:=r.length
 have h1:=r.take xs.length
 have h2:=r.drop xs.length
 rw [List.take_left] at h1
 rw [List.drop_left] at h2
 generalize hd:us.drop xs.length=ds at h2
 cases h2 with
 | cons q t=>
  cases t
  exact⟨_,_,by rw [<- hd,bn4],h1,q⟩
theorem av6 {m n:Nat} (h:m < n):seqIndex? (m:Int) n=some m:=by
 have:=seqIndex_of (k:=(m:Int)) (n:=n) (by omega) (by omega)
 rw [this]; rfl
end
theorem Reps.atI {K:PySem.W.Frag}{M:Addr->Prop}{H:Hp}{us:List V}{xs:List PV}{i:Int}{z:PV} (r:Reps K M H us xs) (h:L2.atI xs i=some z):∃ v,L2.atI us i=some v/\aJ K M H v z:=by
 unfold L2.atI at h ⊢
 rw [r.length]
 cases e:gF xs.length i with
 | none=>rw [e] at h; cases h
 | some j=>rw [e] at h; exact r.at h
section
variable {X : Cx} {σ : St} {H : Hp} {Q' : VK} {ta tb te : aE} {tr : cI}
def vM:PV->Tg->PV->Tg->PK->Prop:=fun x g y _ Q=>∃ xs i z,iM x=some xs/\y = .int i/\L2.atI xs i=some z/\Q z g
theorem av7:eU X vM (A6 X.K):=by
 rintro W Hs H u v x y g g' Q Q' s n r1 r2 ⟨xs,i,z,e,rfl,hz,q⟩ k
 cases r2
 obtain ⟨a,us,rfl,hs,r⟩:=r1.seq e
 obtain ⟨v,hv,rv⟩:=r.atI hz
 rcases hs with hs | hs
 ·exact .inl ⟨a,us,i,v,rfl,rfl,hs,hv,k v H z g (aD.refl _) rv q⟩
 ·exact .inr (.inl ⟨a,us,i,v,rfl,rfl,hs,hv,k v H z g (aD.refl _) rv q⟩)
def vN:PV->Option Nat
 | .tup xs=>some xs.length
 | .lst xs=>some xs.length
 | .scr ns=>some ns.length
 | .dK ps=>some ps.length
 | .kt xs=>some xs.length
 | _=>none
def bU:List PV->(PV->Prop)->Prop:=fun xs Q=>∃ x n,xs = [x]/\vN x=some n/\Q (.int n)
theorem Reps.one {K:PySem.W.Frag}{M:Addr->Prop}{H:Hp}{vs:List V}{x:PV} (r:Reps K M H vs [x]):∃ v,vs = [v]/\aJ K M H v x:=by
 cases r with
 | cons r t=>cases t; exact⟨_,rfl,r⟩
theorem Reps.two {K:PySem.W.Frag}{M:Addr->Prop}{H:Hp}{vs:List V}{x y:PV} (r:Reps K M H vs [x,y]):∃ v w,vs = [v,w]/\aJ K M H v x/\aJ K M H w y:=by
 cases r with
 | cons r t=>
  obtain ⟨w,rfl,q⟩:=t.one
  exact⟨_,_,rfl,r,q⟩
theorem av8:fM X bU (fun xs H Q=>(∃ p ys,xs = [.ref p]/\(aN X.K H p ys ∨ aO X.K H p ys)/\Q (.int ys.length) H) ∨ ∃ a kvs,xs = [V.ref a]/\H a=some (.dK kvs)/\Q (.int kvs.length) H):=by
 rintro H vs xs Q Q' r ⟨x,n,rfl,e,q⟩ k
 obtain ⟨v,rfl,r1⟩:=r.one
 have fin:∀ {m:Nat},m=n->Q' (.int m) H:=fun {m} z=>by rw [z]; exact k _ _ _ (aD.refl _) (.int _) q
 cases r1 with
 | tup h r2=>cases e; exact .inl ⟨_,_,rfl,.inr (aO.of h),fin r2.length⟩
 | lst m h r2=>cases e; exact .inl ⟨_,_,rfl,.inl (aN.of h),fin r2.length⟩
 | scr h=>cases e; exact .inl ⟨_,_,rfl,.inl h.sqL,fin (by rw [bc4])⟩
 | kt h r2=>cases e; exact .inl ⟨_,_,rfl,.inr (.inr h),fin r2.length⟩
 | dK m h e' r=>
  cases e
  refine .inr ⟨_,_,rfl,h,fin ?_⟩
  have:=congrArg List.length e'
  rw [bc4,bc4] at this
  exact this
 | _=>cases e
def seqT:PV->Option (List PV)
 | .kt _=>none
 | x=>iM x
def K6:List PV->(PV->Prop)->Prop:=fun xs Q=>∃ x ys,xs = [x]/\seqT x=some ys/\flats ys=true/\Q (.tup ys)
def jY:List PV->(PV->Prop)->Prop:=fun xs Q=>∃ x ys,xs = [x]/\iM x=some ys/\flats ys=true/\Q (.lst ys)
theorem av9:fM X (fun xs Q=>K6 xs Q/\∀ ns,xs ≠ [.scr ns]) (fun xs H Q=>∃ p ys,xs = [.ref p]/\((aN X.K H p ys/\∀ l,H l=none->Q (.ref l) (upd H l (.tup ys))) ∨ (aO X.K H p ys/\Q (.ref p) H))):=by
 rintro H vs xs Q Q' r ⟨⟨x,ys,rfl,e,f,q⟩,nsc⟩ k
 obtain ⟨v,rfl,r1⟩:=r.one
 cases r1 with
 | tup h r2=>cases e; exact⟨_,_,rfl,.inr ⟨aO.of h,k _ _ _ (aD.refl _) (.tup h (r2.flat f)) q⟩⟩
 | lst m h r2=>cases e; exact⟨_,_,rfl,.inl ⟨aN.of h,fun l hl=>k _ _ _ (bB hl _) (.tup b8 ((r2.flat f).same (bB hl _) fun _ z=>z)) q⟩⟩
 | scr h=>exact absurd rfl (nsc _)
 | _=>cases e
theorem aw0:fM X jY (fun xs H Q=>∃ p ys,xs = [.ref p]/\(aN X.K H p ys ∨ aO X.K H p ys)/\∀ l,H l=none->Q (.ref l) (upd H l (.lst ys))):=by
 rintro H vs xs Q Q' r ⟨x,ys,rfl,e,f,q⟩ k
 obtain ⟨v,rfl,r1⟩:=r.one
 obtain ⟨a,us,rfl,hs,r2⟩:=r1.seq e
 exact⟨_,_,rfl,hs,fun l hl=>k _ _ _ (bB hl _) (.lst hl b8 ((r2.flat f).same (bB hl _) fun _ z=>z)) q⟩
def vO:List PV->(PV->Prop)->Prop:=fun xs Q=>∃ bs:List Bool,xs = [.lst (bs.map PV.bl)]/\Q (.bl (bs.all id))
theorem Reps.ofBls {K:PySem.W.Frag}{M:Addr->Prop}{H:Hp}:∀ {ns:List Bool}{us:List V},Reps K M H us (ns.map PV.bl)->us=ns.map V.bl
 | [],_,.nil=>rfl
 | n :: r,_,.cons q t=>by
  cases q
  rw [Reps.ofBls t]; rfl
theorem aw1:fM X vO (fun xs H Q=>∃ (a:Addr) (bs:List Bool),xs = [.ref a]/\aN X.K H a (bs.map V.bl)/\Q (.bl (bs.all id)) H):=by
 rintro H vs xs Q Q' r ⟨bs,rfl,q⟩ k
 obtain ⟨v,rfl,r1⟩:=r.one
 obtain ⟨a,us,rfl,_,h,r2⟩:=r1.sqL
 obtain rfl:=r2.ofBls
 exact⟨a,bs,rfl,aN.of h,k _ _ _ (aD.refl _) (.bl _) q⟩
def mK:List PV->(PV->Prop)->Prop:=fun xs Q=>∃ i j,xs = [.int i,.int j]/\Q (.int (if j < i then j else i))
def l8:List PV->(PV->Prop)->Prop:=fun xs Q=>∃ i j,xs = [.int i,.int j]/\Q (.int (if j > i then j else i))
theorem aw2:fM X mK (fun xs H Q=>∃ i j,xs = [.int i,.int j]/\Q (.int (if j < i then j else i)) H):=by
 rintro H vs xs Q Q' r ⟨i,j,rfl,q⟩ k
 obtain ⟨v,w,rfl,r1,r2⟩:=r.two
 cases r1; cases r2
 exact⟨i,j,rfl,k _ _ _ (aD.refl _) (.int _) q⟩
theorem aw3:fM X l8 (fun xs H Q=>∃ i j,xs = [.int i,.int j]/\Q (.int (if j > i then j else i)) H):=by
 rintro H vs xs Q Q' r ⟨i,j,rfl,q⟩ k
 obtain ⟨v,w,rfl,r1,r2⟩:=r.two
 cases r1; cases r2
 exact⟨i,j,rfl,k _ _ _ (aD.refl _) (.int _) q⟩
abbrev bF:=List PV->(PV->Prop)->Prop
def oO (K:PySem.W.Frag) (p:bF):Sp:=fun vs H Q _=>∃ xs Qp,Reps K (fun _=>True) H vs xs/\p xs Qp/\∀ v H' x,aD H H'->aJ K (fun a=>H a=none) H' v x->Qp x->Q v H'
theorem aw4 {p:bF}{E:XK} (h:LE X (aB p tr) σ H Q'):u7 (oO X.K p) [] E (LA X tr) σ H Q':=by
 obtain ⟨W,ρ,Q,px,q,k⟩:=h
 refine⟨W,ρ,_,px,q,fun vs H1 xs s1 r1 q1=>⟨_,_,by rw [be6]; exact r1.any,q1,fun v H' x s2 r2 q2=>k v H' x .fr (s1.trans s2) (r2.same (aD.refl _) fun _ z=>s1.free z) q2⟩⟩
def aw5:PV->Option Bool
 | .non=>some false
 | .bl b=>some b
 | .int i=>some (i != 0)
 | .tup xs=>some (!xs.isEmpty)
 | .lst xs=>some (!xs.isEmpty)
 | .dK ps=>some (!ps.isEmpty)
 | _=>none
def oP (t:aE):bT:=fun ρ Q=>t ρ fun x _=>∃ b,aw5 x=some b/\Q b
theorem vP {α β:Type}:∀ {l:List α}{m:List β},l.length=m.length->l.isEmpty=m.isEmpty
 | [],[],_=>rfl
 | _ :: _,_ :: _,_=>rfl
theorem aw6 {t:aE}{Qb:Bool->Hp->Prop} (h:LT X (oP t) σ H Qb):LE X t σ H fun x H'=>∃ k,tY X.K x H' k/\Qb k H':=by
 obtain ⟨W,ρ,Q,px,q,k⟩:=h
 refine⟨W,ρ,_,px,q,?_⟩
 rintro v H1 x g s r ⟨b,e,q⟩
 refine⟨b,?_,k _ _ s q⟩
 cases r with
 | non=>cases e; rfl
 | bl b=>cases e; rfl
 | int i=>cases e; rfl
 | str x=>cases e
 | tup h r=>cases e; exact .inr (.inl ⟨_,aO.of h,by rw [vP r.length]⟩)
 | lst m h r=>cases e; exact .inl ⟨_,aN.of h,by rw [vP r.length]⟩
 | dK m h e' r=>
  cases e
  refine .inr (.inr ⟨_,h,?_⟩)
  have:=congrArg List.length e'
  rw [bc4,bc4] at this
  rw [vP this]
 | dT m h e' r=>cases e
 | scr h=>cases e
 | kt h r=>cases e
 | exc h e' c=>cases e
def vQ:PV->Bool
 | .non=>true
 | _=>false
def vR (neg:Bool):PV->Tg->PV->Tg->PK->Prop:=fun x _ y _ Q=>y = .non/\Q (.bl (if neg=true then !vQ x else vQ x)) .fr
theorem aw7 {K:PySem.W.Frag}{M:Addr->Prop}{H:Hp}{v:V}{x:PV} (r:aJ K M H v x):decide (v = .non)=vQ x:=by
 cases r <;> rfl
theorem aw8:eU X (vR true) (fun x y H Q=>y = .non/\Q (.bl (!decide (x = .non))) H):=by
 rintro W Hs H u v x y g g' Q Q' s n r1 r2 ⟨rfl,q⟩ k
 cases r2
 exact⟨rfl,by rw [aw7 r1]; exact k _ _ _ _ (aD.refl _) (.bl _) q⟩
end
structure mL (K:PySem.W.Frag) (H0:Hp) (W:Addr->Prop) (g:Bool) (H1:Hp) (J:It) (xs:List PV):Prop where
 go:∀ W' H' i,Ev W H1 W' H'->i < xs.length->J.go i H'
 yld:∀ W' H' i v H2,Ev W H1 W' H'->J.yld i H' v H2->i < xs.length->aD H' H2/\∃ x,xs[i]? = some x/\aJ K (Ms H0 W' g) H2 v x
 stop:∀ W' H',Ev W H1 W' H'->J.stop xs.length H'
abbrev eJ:=bG->(List PV->Bool->Prop)->Prop
def LI (X:Cx) (t:eJ):TI:=fun σ H R=>∃ (W:Addr->Prop) (ρ:bG) (Q:List PV->Bool->Prop),PX X.K X.H₀ W σ ρ H/\t ρ Q/\∀ J H1 xs g,aD H H1->mL X.K X.H₀ W g H1 J xs->Q xs g->R J H1
theorem Ev.keep {H0:Hp}{W W':Addr->Prop}{H H':Hp}{g:Bool} (e:Ev W H W' H') (tw:∀ a,W a->∃ o,H a=some o/\fV o=true):hV (Ms H0 W g) (Ms H0 W' g) H H':=by
 have m:∀ {a:Addr}{o:HO},Ms H0 W g a->H a=some o->Ms H0 W' g a/\H' a=some o:=fun {a o} z h=>by
  cases g with
  | true=>
   obtain ⟨h1,h2⟩:=e a _ h z.1
   exact⟨⟨h2,z.2⟩,h1⟩
  | false=>
   obtain ⟨h1,h2⟩:=e a _ h z
   exact⟨h2,h1⟩
 refine⟨fun a _ z h=>m z h,fun a _ z h=>m z h,fun a _ z h=>m z h,fun a _ h=>(e a _ h fun z=>?_).1,fun a _ _ h=>(e a _ h fun z=>?_).1⟩
 ·obtain ⟨o,h',mu⟩:=tw a z; rw [h] at h'; cases h'; cases mu
 ·obtain ⟨o,h',mu⟩:=tw a z; rw [h] at h'; cases h'; cases mu
section
variable {X : Cx} {σ : St} {H : Hp} {te : aE} {tr : cI} {R : It → Hp → Prop}
def K7 (K:PySem.W.Frag) (tl:TE):TI:=fun σ H R=>tl σ H fun x H1=>∃ a,x = .ref a/\((∃ xs,aN K H1 a xs/\R (m6 K a) H1) ∨ (∃ xs,aO K H1 a xs/\R (jT K a) H1))
def l9:Tg->List PV->Bool
 | .fr,_=>true
 | .nw,_=>true
 | _,xs=>flats xs
def dE (te:aE):eJ:=fun ρ Q=>te ρ fun x g=>∃ xs,iM x=some xs/\(g = .rd->flat x=true)/\Q xs (l9 g xs)
theorem K8 {K:PySem.W.Frag}{H0:Hp}{W:Addr->Prop}{g:Bool}{H1:Hp}{a:Addr}{us:List V}{xs:List PV} (tw:∀ a,W a->∃ o,H1 a=some o/\fV o=true) (ha:∀ W' H',Ev W H1 W' H'->aN K H' a us) (r:Reps K (Ms H0 W g) H1 us xs):mL K H0 W g H1 (m6 K a) xs:=by
 have lr:=r.length
 refine⟨fun W' H' i e hi=>⟨us,us[i]'(by omega),ha W' H' e,by simp⟩,fun W' H' i v H2 e y hi=>?_,fun W' H' e=>⟨us,ha W' H' e,by omega⟩⟩
 obtain ⟨rfl,y⟩:=y
 obtain ⟨x,hx,rx⟩:=r.get (y us (ha W' _ e))
 exact⟨aD.refl _,x,hx,rx.keep (e.keep tw)⟩
theorem K9 {K:PySem.W.Frag}{H0:Hp}{W:Addr->Prop}{g:Bool}{H1:Hp}{a:Addr}{us:List V}{xs:List PV} (tw:∀ a,W a->∃ o,H1 a=some o/\fV o=true) (ha:∀ W' H',Ev W H1 W' H'->aO K H' a us) (r:Reps K (Ms H0 W g) H1 us xs):mL K H0 W g H1 (jT K a) xs:=by
 have lr:=r.length
 refine⟨fun W' H' i e hi=>⟨us,us[i]'(by omega),ha W' H' e,by simp⟩,fun W' H' i v H2 e y hi=>?_,fun W' H' e=>⟨us,ha W' H' e,by omega⟩⟩
 obtain ⟨rfl,y⟩:=y
 obtain ⟨x,hx,rx⟩:=r.get (y us (ha W' _ e))
 exact⟨aD.refl _,x,hx,rx.keep (e.keep tw)⟩
theorem lA {K:PySem.W.Frag}{H0 Hs H:Hp}{W:Addr->Prop}{σ:St}{ρ:bG}{g:Tg}{us:List V}{xs:List PV} (px:PX K H0 W σ ρ Hs) (hg:g = .rd->flats xs=true) (r:Reps K (Mg H0 W Hs g) H us xs):Reps K (Ms H0 W (l9 g xs)) H us xs:=by
 cases g with
 | fr=>exact r.same (aD.refl _) fun _ z=>px.new z
 | nw=>exact r.same (aD.refl _) fun _ z=>z
 | sh=>
  show Reps K (Ms H0 W (flats xs)) H us xs
  cases e:flats xs with
  | true=>exact r.flat e
  | false=>exact r.same (aD.refl _) fun _ z=>z
 | rd=>exact r.flat (hg rfl)
theorem aw9 (h:LI X (dE te) σ H R):K7 X.K (LE X te) σ H R:=by
 obtain ⟨W,ρ,Q,px,q,k⟩:=h
 refine⟨W,ρ,_,px,q,?_⟩
 rintro v H1 x g s r ⟨xs,e,hg,q⟩
 have px1:=px.mono s
 have tw:∀ a,W a->∃ o,H1 a=some o/\fV o=true:=fun a z=>(px1.wm a z).2
 cases r with
 | tup h r=>
  cases e
  refine⟨_,rfl,.inr ⟨_,aO.of h,k _ _ _ _ s (K9 tw (fun W' H' e=>aO.of (e _ _ h fun z=>?_).1) (lA px (fun z=>by have:=hg z; unfold flat at this; exact this) r)) q⟩⟩
  obtain ⟨o,h',mu⟩:=tw _ z; rw [h] at h'; cases h'; cases mu
 | @lst a us xs' m h r=>
  cases e
  have wa : ¬ W a:=by
   cases g with
   | fr=>exact (px.new m).1
   | nw=>exact m.1
   | sh=>exact m
   | rd=>have:=hg rfl; unfold flat at this; cases this
  exact⟨_,rfl,.inl ⟨_,aN.of h,k _ _ _ _ s (K8 tw (fun W' H' e=>aN.of (e _ _ h wa).1) (lA px (fun z=>by have:=hg z; unfold flat at this; cases this) r)) q⟩⟩
 | scr h=>
  cases e
  refine⟨_,rfl,.inl ⟨_,h.sqL,k _ _ _ _ s (K8 tw (fun W' H' e=>(jD.keep (fun a o u hz=>(e _ _ hz fun z=>?_).1) h).sqL) (lA (g:=g) px (fun z=>bP _) (Reps.intz _))) q⟩⟩
  obtain ⟨o,h',mu⟩:=tw _ z; rw [hz] at h'; cases h'; cases mu
 | kt h r=>
  cases e
  exact⟨_,rfl,.inr ⟨_,.inr h,k _ _ _ _ s (K9 tw (fun W' H' e=>.inr h) (lA px (fun z=>by have:=hg z; unfold flat at this; exact this) r)) q⟩⟩
 | _=>cases e
def fN (lo:Int) (n:Nat):List PV:=(List.range n).map fun (i:Nat)=>PV.int (lo+(i:Int))
theorem dN (lo:Int) (n:Nat):(fN lo n).length=n:=by unfold fN; rw [bc4,bm7]
theorem L4 {lo:Int}{n i:Nat} (h:i < n):(fN lo n)[i]? = some (.int (lo+i)):=by unfold fN; rw [bc9,List.getElem?_range h]; rfl
def fW (te:aE):eJ:=fun ρ Q=>te ρ fun x _=>∃ j:Int,x = .int j/\-1000000<=j/\j<=1000000/\Q (fN 0 j.toNat) true
def vS (ta tb:aE):eJ:=fun ρ Q=>ta ρ fun x _=>tb ρ fun y _=>∃ i j:Int,x = .int i/\y = .int j/\(-1000000<=i/\i<=1000000/\-1000000<=j/\j<=1000000)/\Q (fN i (j - i).toNat) true
theorem L5 {K:PySem.W.Frag}{H0:Hp}{W:Addr->Prop}{H1:Hp} (lo:Int) (n:Nat):mL K H0 W true H1 (nS lo n) (fN lo n):=by
 refine⟨fun W' H' i e hi=>by rw [dN] at hi; exact hi,fun W' H' i v H2 e y hi=>?_,fun W' H' e=>by show n<=(fN lo n).length; rw [dN]; exact bc1 _⟩
 rw [dN] at hi
 obtain ⟨rfl,rfl⟩:=y
 exact⟨aD.refl _,_,L4 hi,.int _⟩
theorem ax0 (h:LI X (fW te) σ H R):yZ (gZ (LE X te) j5) σ H R:=by
 obtain ⟨W,ρ,Q,px,q,k⟩:=h
 refine⟨W,ρ,_,px,q,?_⟩
 rintro v H1 x g s r ⟨j,rfl,h1,h2,q⟩
 cases r
 exact⟨j,rfl,by omega,by omega,k _ _ _ _ s (L5 0 j.toNat) q⟩
theorem ax1 {ta tb:aE} (h:LI X (vS ta tb) σ H R):z9 (gZ (LE X ta) (gZ (LE X tb) j5)) σ H R:=by
 obtain ⟨W,ρ,Q,px,q,k⟩:=h
 refine⟨W,ρ,_,px,q,fun v H1 x g s r q=>⟨W,ρ,_,px.mono s,q,?_⟩⟩
 rintro w H2 y g' s2 r2 ⟨i,j,rfl,rfl,h,q⟩
 cases r; cases r2
 exact⟨i,j,rfl,by omega,k _ _ _ _ (s.trans s2) (L5 i (j - i).toNat) q⟩
end
abbrev iN:=PV->Bool->bG->(bG->Prop)->Prop
def mM (K:PySem.W.Frag) (own:Nat->Prop) (p:iN) (t:TG):Prop:=∀ (H0:Hp) (W:Addr->Prop) (σ:St) (ρ:bG) (H:Hp) (v:V) (x:PV) (g:Bool) (Q:bG->Prop) (Q':St->Hp->Prop),
 PX K H0 W σ ρ H->aJ K (Ms H0 W g) H v x->p x g ρ Q->(∀ σ' ρ',PX K H0 W σ' ρ' H->(∀ i,¬ own i->σ'[i]? = σ[i]?)->σ'.length=σ.length->Q ρ'->Q' σ' H)->t v σ H Q'
def bK (i:Nat):iN:=fun x g ρ Q=>Q (ρ.set i (some (.sh (g || flat x) x)))
theorem qY {K:PySem.W.Frag}{H0 H:Hp}{W:Addr->Prop}{v:V}{x:PV}{g:Bool} (r:aJ K (Ms H0 W g) H v x):aJ K (Ms H0 W (g || flat x)) H v x:=by
 cases g with
 | true=>exact r
 | false=>
  show aJ K (Ms H0 W (flat x)) H v x
  cases e:flat x with
  | true=>exact r.flat e
  | false=>exact r
theorem lB (K:PySem.W.Frag) (i:Nat):mM K (· = i) (bK i) (bX i):=by
 intro H0 W σ ρ H v x g Q Q' px r q k
 exact k _ _ (px.setSh (qY r)) (fun j hj=>by rw [bd7 (Ne.symm hj)]) (bg1 ..) q
def i5 (i j:Nat):iN:=fun x g ρ Q=>∃ y z,x = .tup [y,z]/\Q ((ρ.set i (some (.sh (g || flat y) y))).set j (some (.sh (g || flat z) z)))
theorem qZ (K:PySem.W.Frag) (i j:Nat):mM K (fun k=>k=i ∨ k=j) (i5 i j) (iK K 2 (dR (bX i) (dR (bX j) iJ))):=by
 intro H0 W σ ρ H v x g Q Q' px r q k
 obtain ⟨y,z,rfl,q⟩:=q
 obtain ⟨a,us,rfl,h,r⟩:=r.sqT
 obtain ⟨u1,u2,rfl,r1,r2⟩:=r.two
 refine⟨a,_,rfl,aO.of h,rfl,u1,_,rfl,u2,_,rfl,rfl,k _ _ ((px.setSh (qY r1)).setSh (qY r2)) (fun k hk=>?_) (by rw [bg1,bg1]) q⟩
 rw [bd7 (fun e=>hk (.inr e.symm)),bd7 (fun e=>hk (.inl e.symm))]
section
variable {X : Cx} {σ : St} {H : Hp} {D : c7}
def dU (ti:eJ) (p:iN) (tb:aH):aH:=fun D ρ=>ti ρ fun xs g=>∃ I:Nat->bG->Prop,I 0 ρ/\(∀ i x ρ',xs[i]? = some x->I i ρ'->p x g ρ' fun ρ2=>tb { D with nx:=I (i+1),ct:=I (i+1),bk:=D.nx } ρ2)/\∀ ρ',I xs.length ρ'->D.nx ρ'
theorem ax2 {ti:eJ}{p:iN}{g:TG}{tb:aH}{own:Nat->Prop} (hg:mM X.K own p g) (h:LS X (dU ti p tb) D σ H):zA (LI X ti) g (LS X tb) D σ H:=by
 obtain ⟨W,ρ,D',px,q,k⟩:=h
 refine⟨W,ρ,_,px,q,?_⟩
 rintro J H1 xs gb s it ⟨I,i0,turn,fin⟩
 refine⟨fun i m σ2 H2=>m=xs.length - i/\i<=xs.length/\∃ W2 ρ2,PX X.K X.H₀ W2 σ2 ρ2 H2/\Ev W H1 W2 H2/\I i ρ2,⟨xs.length,by omega,bh2 _,W,ρ,px.mono s,Ev.refl _ _,i0⟩,?_⟩
 rintro i m σ2 H2 ⟨rfl,hi,W2,ρ2,px2,e2,i2⟩
 have e0:Ev W H W2 H2:=(Ev.same s).trans e2
 by_cases hlt:i < xs.length
 ·refine .inr ⟨it.go W2 H2 i e2 hlt,fun σ3 H3=>∃ W3 ρ3,PX X.K X.H₀ W3 σ3 ρ3 H3/\Ev W H1 W3 H3/\I (i+1) ρ3,fun σ3 H3 ⟨W3,ρ3,a,b,c⟩=>⟨xs.length - (i+1),by omega,rfl,hlt,W3,ρ3,a,b,c⟩,fun v H3 y=>?_⟩
  obtain ⟨s3,x,hx,rx⟩:=it.yld W2 H2 i v H3 e2 y hlt
  refine hg X.H₀ W2 σ2 ρ2 H3 v x gb _ _ (px2.mono s3) rx (turn i x ρ2 hx i2) fun σ4 ρ4 px4 _ _ q4=>?_
  have e3:Ev W H1 W2 H3:=e2.trans (Ev.same s3)
  have e3':Ev W H W2 H3:=e0.trans (Ev.same s3)
  exact⟨W2,ρ4,_,px4,q4,fun W' σ' H' ρ' e p q=>⟨W',ρ',p,e3.trans e,q⟩,k.rt,fun W' σ' H' ρ' e p q=>k.nx W' σ' H' ρ' (e3'.trans e) p q,fun W' σ' H' ρ' e p q=>⟨W',ρ',p,e3.trans e,q⟩⟩
 ·have e:i=xs.length:=by omega
  subst e
  exact .inl ⟨it.stop W2 H2 e2,k.nx W2 σ2 H2 ρ2 e0 px2 (fin ρ2 i2)⟩
end
def fX (fr:List (Option Nat)) (ρ:bG):bG:=fr.map fun o=>o.bind fun j=>(ρ[j]?).join.map fun m=>Slot.sh false m.val
def gL (D:Addr):Addr->Prop:=fun a=>a=D
theorem ax3 {K:PySem.W.Frag}{H0:Hp}{W:Addr->Prop}{σ:St}{ρ:bG}{H1 H':Hp}{D:Addr}{acc:List V}{fr:List (Option Nat)} (px:PX K H0 W σ ρ H1) (hD:H1 D=none) (s:aD H1 H') (ha:H' D=some (.lst acc)) :
  PX K H1 (gL D) (e8 fr σ) (fX fr ρ) H':=by
 have old:∀ {a:Addr}{o:HO},H1 a=some o->a ≠ D:=fun {a o} e z=>by rw [z,hD] at e; cases e
 refine⟨by unfold e8 fX; rw [bc4,bc4],s,fun a z=>by cases z; exact⟨hD,_,ha,rfl⟩,fun i m h=>?_,fun i j x y a h1=>?_⟩
 ·unfold fX at h
  rw [bc9] at h
  cases ef:fr[i]? with
  | none=>rw [ef] at h; cases h
  | some o=>
   rw [ef] at h
   cases o with
   | none=>cases h
   | some j=>
    have h:some ((ρ[j]?).join.map fun m=>Slot.sh false m.val)=some (some m):=h
    cases er:ρ[j]? with
    | none=>rw [er] at h; cases h
    | some o=>
     rw [er] at h
     cases o with
     | none=>cases h
     | some m0=>
      cases h
      obtain ⟨v,ev,r⟩:=px.sl j m0 er
      refine⟨v,?_,?_⟩
      ·unfold e8
       rw [bc9,ef]
       show some ((σ[j]?).join)=_
       rw [ev]; rfl
      ·have r':aJ K (fun _=>True) H1 v m0.val:=(qU (Hs:=H1) r).same (aD.refl _) fun _ _=>trivial
       exact r'.keep ⟨fun a _ _ e=>⟨old e,s _ _ e⟩,fun a _ _ e=>⟨old e,s _ _ e⟩,fun a _ _ e=>⟨old e,s _ _ e⟩,fun _ _ e=>s _ _ e,fun _ _ _ e=>s _ _ e⟩
 ·unfold fX at h1
  rw [bc9] at h1
  cases ef:fr[i]? with
  | none=>rw [ef] at h1; cases h1
  | some o=>
   rw [ef] at h1
   cases o with
   | none=>cases h1
   | some j=>
    have h1:some ((ρ[j]?).join.map fun m=>Slot.sh false m.val)=some (some (Slot.own x)):=h1
    cases er:ρ[j]? with
    | none=>rw [er] at h1; cases h1
    | some o=>
     rw [er] at h1
     cases o with
     | none=>cases h1
     | some m0=>cases h1
section
variable {X : Cx} {σ : St} {H : Hp} {Q' : VK}
abbrev _root_.L2.Cx.frm (X:Cx) (H1:Hp):Cx:={ X with H₀:=H1 }
def cG (ti:eJ) (fr:List (Option Nat)) (p:iN) (tc:bT) (te:aE):aE:=fun ρ Q=>ti ρ fun xs g=>xs.length<=16000000/\∃ I:Nat->List PV->Prop,I 0 []/\
 (∀ i x acc,xs[i]? = some x->I i acc->p x false (fX fr ρ) fun ρ2=>tc ρ2 fun b=>if b=true then te ρ2 fun y gy=>Nw gy y/\I (i+1) (acc ++ [y]) else I (i+1) acc)/\∀ acc,I xs.length acc->Q (.lst acc) .fr
theorem jZ {ti:eJ}{fr:List (Option Nat)}{p:iN}{g:TG}{tc:bT}{te:aE}{own:Nat->Prop} (hg:mM X.K own p g) (ho:∀ i,own i->fr[i]? = some none) (h:LE X (cG ti fr p tc te) σ H Q') :
  qI (LI X ti) fr (fun _=>g) (fun H1=>LT (X.frm H1) tc) (fun H1=>LE (X.frm H1) te) σ H Q':=by
 obtain ⟨W,ρ,Q,px,q,k⟩:=h
 refine⟨W,ρ,_,px,q,?_⟩
 rintro J H1 xs gb s it ⟨hl,I,i0,turn,fin⟩ D hD
 have px1:=px.mono s
 refine⟨fun i m acc H'=>m=xs.length - i/\i<=xs.length/\aD H1 H'/\H' D=some (.lst acc)/\∃ ys,Reps X.K (Ms H1 (gL D) true) H' acc ys/\ys.length<=i/\I i ys,⟨xs.length,by omega,bh2 _,bB hD _,b8,[],.nil,bc1 _,i0⟩,?_⟩
 rintro i m acc H' ⟨rfl,hi,sm,ha,ys,ry,hy,iy⟩
 refine⟨ha,?_⟩
 have ev:Ev W H1 (mI W D) H':=Ev.own sm hD
 by_cases hlt:i < xs.length
 ·refine .inr ⟨it.go _ H' i ev hlt,fun v H2 y=>?_⟩
  obtain ⟨s2,x,hx,rx⟩:=it.yld _ H' i v H2 ev y hlt
  have ha2:=s2 _ _ ha
  have pxb:PX X.K H1 (gL D) (e8 fr σ) (fX fr ρ) H2:=ax3 px1 hD (sm.trans s2) ha2
  have rx':aJ X.K (Ms H1 (gL D) false) H2 v x:=rx.same (aD.refl _) fun a z=>by
   cases gb with
   | true=>exact fun e=>z.1 (.inr e)
   | false=>exact fun e=>z (.inr e)
  refine hg H1 (gL D) _ _ H2 v x false _ _ pxb rx' (turn i x ys hx iy) fun σ2 ρ2 px2 hown hlen q2=>⟨⟨hlen.symm,fun j w e=>?_⟩,?_⟩
  ·by_cases oj:own j
   ·have:=ho j oj
    unfold e8 at e
    rw [bc9,this] at e
    cases e
   ·rw [hown j oj]; exact e
  ·refine⟨gL D,ρ2,_,px2,q2,fun b H4 s4 q4=>?_⟩
   have ha4:=s4 _ _ ha2
   have sm4:=(sm.trans s2).trans s4
   cases b with
   | false=>
    refine aR ⟨xs.length - (i+1),by omega,rfl,hlt,sm4,ha4,ys,ry.same (s2.trans s4) fun _ z=>z,by omega,by simpa using q4⟩
   | true=>
    refine aV ⟨gL D,ρ2,_,px2.mono s4,by simpa using q4,?_⟩
    rintro w H5 y gy s5 ryy ⟨nw,q5⟩
    have ha5:=s5 _ _ ha4
    have lr:=ry.length
    refine⟨ha5,hU (by omega),xs.length - (i+1),by omega,rfl,hlt,fun b o e=>?_,b8,ys ++ [y],?_,by rw [bc0,bg9]; omega,q5⟩
    ·rw [aL (fun z=>by rw [z,hD] at e; cases e)]
     exact s5 _ _ (sm4 _ _ e)
    ·exact ((ry.same ((s2.trans s4).trans s5) fun _ z=>z).append (.cons (Nw.rep (px2.mono s4) nw ryy) .nil)).keep (.upd ha5 rfl fun b m=>⟨m.1,m⟩)
 ·have e:i=xs.length:=by omega
  subst e
  refine .inl ⟨it.stop _ H' ev,k _ H' _ .fr (s.trans sm) (.lst (s.free hD) ha (ry.same (aD.refl _) fun _ z=>s.free z.2)) (fin ys iy)⟩
def dO:bT:=fun _ Q=>Q true
theorem ax4 {Qb:Bool->Hp->Prop} (h:LT X dO σ H Qb):uU σ H Qb:=by
 obtain ⟨W,ρ,Q,px,q,k⟩:=h
 exact k _ _ (aD.refl _) q
end
section
variable {κ : Type} [DecidableEq κ]
def bV (ps:List (κ × PV)) (k:κ):Option PV:=(ps.find? fun p=>decide (p.1=k)).map (·.2)
def cJ (ps:List (κ × PV)) (k:κ) (x:PV):List (κ × PV):=if (ps.any fun p=>decide (p.1=k))=true then ps.map (fun p=>if p.1=k then (p.1,x) else p) else ps ++ [(k,x)]
variable {K : PySem.W.Frag} {M : Addr → Prop} {H : Hp}
theorem oQ (k:κ):∀ {kvs:List (κ × V)}{ps:List (κ × PV)},kvs.map (·.1)=ps.map (·.1)->Reps K M H (kvs.map (·.2)) (ps.map (·.2))->(bV ps k=none->fC kvs k=none)/\∀ x,bV ps k=some x->∃ v,fC kvs k=some v/\aJ K M H v x
 | [],[],_,_=>⟨fun _=>rfl,fun x h=>by cases h⟩
 | [],_ :: _,e,_=>by cases e
 | _ :: _,[],e,_=>by cases e
 | (k1,v) :: kvs,(k2,x) :: ps,e,r=>by
  injection e with e1 e2
  have e1:k1=k2:=e1
  subst e1
  cases r with
  | cons r t=>
   obtain ⟨h1,h2⟩:=oQ k e2 t
   unfold bV fC at h1 h2 ⊢
   by_cases e:k1=k
   ·simp only [bl8,e,decide_true,Option.map_some]
    exact⟨fun z=>(by cases z),fun y z=>(by cases z; exact⟨v,rfl,r⟩)⟩
   ·simp only [bl8,e,decide_false]
    exact⟨h1,h2⟩
theorem ax5 (k:κ) {kvs:List (κ × V)}{ps:List (κ × PV)} (e:kvs.map (·.1)=ps.map (·.1)):(kvs.any fun p=>decide (p.1=k))=ps.any fun p=>decide (p.1=k):=by
 have h1:(kvs.any fun p=>decide (p.1=k))=(kvs.map (·.1)).any fun z=>decide (z=k):=by rw [List.any_map]; rfl
 have h2:(ps.any fun p=>decide (p.1=k))=(ps.map (·.1)).any fun z=>decide (z=k):=by rw [List.any_map]; rfl
 rw [h1,h2,e]
theorem L6 (k:κ) {w:V}{y:PV} (q:aJ K M H w y):∀ {kvs:List (κ × V)}{ps:List (κ × PV)},kvs.map (·.1)=ps.map (·.1)->Reps K M H (kvs.map (·.2)) (ps.map (·.2))->
  (kvs.map fun kv=>if kv.1=k then (kv.1,w) else kv).map (·.1)=(ps.map fun kv=>if kv.1=k then (kv.1,y) else kv).map (·.1)/\Reps K M H ((kvs.map fun kv=>if kv.1=k then (kv.1,w) else kv).map (·.2)) ((ps.map fun kv=>if kv.1=k then (kv.1,y) else kv).map (·.2))
 | [],[],_,_=>⟨rfl,.nil⟩
 | [],_ :: _,e,_=>by cases e
 | _ :: _,[],e,_=>by cases e
 | (k1,v) :: kvs,(k2,x) :: ps,e,r=>by
  injection e with e1 e2
  have e1:k1=k2:=e1
  subst e1
  cases r with
  | cons r t=>
   obtain ⟨h1,h2⟩:=L6 k q e2 t
   by_cases e:k1=k
   ·simp only [bh4,e,if_true]
    exact⟨by rw [h1],.cons q h2⟩
   ·simp only [bh4,e,bi9]
    exact⟨by rw [h1],.cons r h2⟩
theorem vT (k:κ) {w:V}{y:PV} (q:aJ K M H w y) {kvs:List (κ × V)}{ps:List (κ × PV)} (e:kvs.map (·.1)=ps.map (·.1)) (r:Reps K M H (kvs.map (·.2)) (ps.map (·.2))) :
  (dS kvs k w).map (·.1)=(cJ ps k y).map (·.1)/\Reps K M H ((dS kvs k w).map (·.2)) ((cJ ps k y).map (·.2)):=by
 unfold dS cJ
 rw [ax5 k e]
 split
 ·exact L6 k q e r
 ·rw [be7,be7,be7,be7,e]
  exact⟨rfl,r.append (.cons q .nil)⟩
end
def kP:aC->PV
 | .inl i=>.int i
 | .inr x=>.str x
theorem vU {K:PySem.W.Frag}{M:Addr->Prop}{H:Hp}{v:V}{k:aC} (r:aJ K M H v (kP k)):v=kV k:=by
 cases k with
 | inl i=>cases r; rfl
 | inr x=>cases r; rfl
theorem r6 {K:PySem.W.Frag}{M:Addr->Prop}{H:Hp}:∀ {ks:List aC}{us:List V},Reps K M H us (ks.map kP)->us=ks.map kV
 | [],_,.nil=>rfl
 | k :: r,_,.cons q t=>by rw [vU q,r6 t]; rfl
def vV (x y:PV) (o:Option PV):Prop:=(∃ ps k,x = .dK ps/\y=kP k/\o=bV ps k) ∨ (∃ ps k,x = .dT ps/\y = .tup (k.map kP)/\o=bV ps k)
theorem vW {K:PySem.W.Frag}{M M2:Addr->Prop}{H:Hp}{v w:V}{x y:PV}{o:Option PV} (h:vV x y o) (rx:aJ K M H v x) (ry:aJ K M2 H w y):∃ a o',v = .ref a/\fI H a w o'/\(o=none->o'=none)/\∀ z,o=some z->∃ u,o'=some u/\aJ K M H u z:=by
 rcases h with ⟨ps,k,rfl,rfl,rfl⟩ | ⟨ps,k,rfl,rfl,rfl⟩
 ·obtain rfl:=vU ry
  cases rx with
  | dK m h e r=>exact⟨_,_,rfl,fI.k h,(oQ k e r).1,(oQ k e r).2⟩
 ·obtain ⟨b,us,rfl,hb,rb⟩:=ry.sqT
  obtain rfl:=r6 rb
  cases rx with
  | dT m h e r=>exact⟨_,_,rfl,fI.t h hb,(oQ k e r).1,(oQ k e r).2⟩
section
variable {X : Cx} {σ : St} {H : Hp} {D : c7} {tk td te : aE} {Q' : VK}
def lC (neg:Bool) (tk td:aE):aE:=fun ρ Q=>tk ρ fun y _=>td ρ fun x _=>∃ o,vV x y o/\Q (.bl (if neg=true then !o.isSome else o.isSome)) .fr
theorem L7 {α β:Type}{o:Option α}{o':Option β}{P:β->α->Prop} (h1:o=none->o'=none) (h2:∀ z,o=some z->∃ u,o'=some u/\P u z):o'.isSome=o.isSome:=by
 cases o with
 | none=>rw [h1 rfl]; rfl
 | some z=>obtain ⟨u,e,_⟩:=h2 z rfl; rw [e]; rfl
theorem ax6 (h:LE X (lC false tk td) σ H Q'):C5 (LE X tk) (LE X td) σ H Q':=by
 obtain ⟨W,ρ,Q,px,q,k⟩:=h
 refine⟨W,ρ,_,px,q,fun w H1 y g s r q=>⟨W,ρ,_,px.mono s,q,?_⟩⟩
 rintro v H2 x g' s2 r2 ⟨o,ak,q⟩
 obtain ⟨a,o',rfl,dg,h1,h2⟩:=vW ak r2 (r.same s2 fun _ z=>z)
 refine⟨a,o',rfl,dg,?_⟩
 rw [L7 h1 h2]
 exact k _ _ _ .fr (s.trans s2) (.bl _) q
theorem ax7 (h:LE X (lC true tk td) σ H Q'):C6 (LE X tk) (LE X td) σ H Q':=by
 obtain ⟨W,ρ,Q,px,q,k⟩:=h
 refine⟨W,ρ,_,px,q,fun w H1 y g s r q=>⟨W,ρ,_,px.mono s,q,?_⟩⟩
 rintro v H2 x g' s2 r2 ⟨o,ak,q⟩
 obtain ⟨a,o',rfl,dg,h1,h2⟩:=vW ak r2 (r.same s2 fun _ z=>z)
 refine⟨a,o',rfl,dg,?_⟩
 rw [L7 h1 h2]
 exact k _ _ _ .fr (s.trans s2) (.bl _) q
def k6 (td tk:aE):aE:=fun ρ Q=>td ρ fun x g=>tk ρ fun y _=>∃ z,vV x y (some z)/\Q z g
theorem ax8 (h:LE X (k6 td tk) σ H Q'):C4 (LE X td) (LE X tk) σ H Q':=by
 obtain ⟨W,ρ,Q,px,q,k⟩:=h
 refine⟨W,ρ,_,px,q,fun v H1 x g s r q=>⟨W,ρ,_,px.mono s,q,?_⟩⟩
 rintro w H2 y g' s2 r2 ⟨z,ak,q⟩
 obtain ⟨a,o',rfl,dg,h1,h2⟩:=vW ak (r.same s2 fun _ z=>z) r2
 obtain ⟨u,rfl,ru⟩:=h2 z rfl
 exact⟨a,u,rfl,dg,k _ _ _ g (s.trans s2) ru q⟩
theorem PX.updD {K:PySem.W.Frag}{H0:Hp}{W:Addr->Prop}{σ:St}{ρ:bG}{H:Hp}{i:Nat}{a:Addr}{x:PV}{kvs:List (aC × V)}{ps:List (aC × PV)} (p:PX K H0 W σ ρ H) (hi:ρ[i]? = some (some (.own x))) (ha:σ[i]? = some (some (.ref a))) (wa:W a)
  (r:kvs.map (·.1)=ps.map (·.1)/\Reps K (Ms H0 W true) (upd H a (.dK kvs)) (kvs.map (·.2)) (ps.map (·.2))):PX K H0 W σ (ρ.set i (some (.own (.dK ps)))) (upd H a (.dK kvs)):=p.updOwn hi ha wa rfl (y:=.dK ps) ⟨kvs,b8,r⟩
theorem PX.updT {K:PySem.W.Frag}{H0:Hp}{W:Addr->Prop}{σ:St}{ρ:bG}{H:Hp}{i:Nat}{a:Addr}{x:PV}{kvs:List (List aC × V)}{ps:List (List aC × PV)} (p:PX K H0 W σ ρ H) (hi:ρ[i]? = some (some (.own x))) (ha:σ[i]? = some (some (.ref a))) (wa:W a)
  (r:kvs.map (·.1)=ps.map (·.1)/\Reps K (Ms H0 W true) (upd H a (.dT kvs)) (kvs.map (·.2)) (ps.map (·.2))):PX K H0 W σ (ρ.set i (some (.own (.dT ps)))) (upd H a (.dT kvs)):=p.updOwn hi ha wa rfl (y:=.dT ps) ⟨kvs,b8,r⟩
theorem oR {κ α β:Type}{l:List (κ × α)}{m:List (κ × β)} (e:l.map (·.1)=m.map (·.1)):l.length=m.length:=by
 have:=congrArg List.length e
 rw [bc4,bc4] at this
 exact this
def mO (i:Nat) (tk te:aE):aH:=fun D ρ=>te ρ fun z g=>∃ ps,ρ[i]? = some (some (.own (.dK ps)))/\tk ρ fun y _=>∃ k,y=kP k/\Nw g z/\ps.length < 16000000/\D.nx (ρ.set i (some (.own (.dK (cJ ps k z)))))
def mP (i:Nat) (tk te:aE):aH:=fun D ρ=>te ρ fun z g=>∃ ps,ρ[i]? = some (some (.own (.dT ps)))/\tk ρ fun y _=>∃ k,y = .tup (k.map kP)/\Nw g z/\ps.length < 16000000/\D.nx (ρ.set i (some (.own (.dT (cJ ps k z)))))
theorem ax9 {i:Nat} (h:LS X (mO i tk te) D σ H):uO (eF i) (LE X tk) (LE X te) D σ H:=by
 obtain ⟨W,ρ,D',px,q,k⟩:=h
 refine⟨W,ρ,_,px,q,?_⟩
 rintro w H1 z g s rz ⟨ps,hi,q⟩
 obtain ⟨v,ev,a,rfl,wa,kvs,ea,e1,r⟩:=(px.mono s).sl i _ hi
 refine⟨_,ev,W,ρ,_,px.mono s,q,?_⟩
 rintro kv H2 y g' s2 ry ⟨kk,rfl,nw,hl,q⟩
 obtain rfl:=vU ry
 have ea2:=s2 _ _ ea
 refine⟨a,_,rfl,jV.k ea2 (hU (by rw [oR e1]; omega)),?_⟩
 refine k.nx W σ _ _ ((Ev.same (s.trans s2)).trans (Ev.upd wa)) ((px.mono (s.trans s2)).updD hi ev wa ?_) q
 obtain ⟨h1,h2⟩:=vT kk ((Nw.rep px nw rz).same s2 fun _ z=>z) e1 (r.same s2 fun _ z=>z)
 exact⟨h1,h2.keep (.upd ea2 rfl fun b m=>⟨i4 wa m,m⟩)⟩
theorem ay0 {i:Nat} (h:LS X (mP i tk te) D σ H):uO (eF i) (LE X tk) (LE X te) D σ H:=by
 obtain ⟨W,ρ,D',px,q,k⟩:=h
 refine⟨W,ρ,_,px,q,?_⟩
 rintro w H1 z g s rz ⟨ps,hi,q⟩
 obtain ⟨v,ev,a,rfl,wa,kvs,ea,e1,r⟩:=(px.mono s).sl i _ hi
 refine⟨_,ev,W,ρ,_,px.mono s,q,?_⟩
 rintro kv H2 y g' s2 ry ⟨kk,rfl,nw,hl,q⟩
 obtain ⟨b,us,rfl,hb,rb⟩:=ry.sqT
 obtain rfl:=r6 rb
 have ea2:=s2 _ _ ea
 refine⟨a,_,rfl,jV.t ea2 hb (hU (by rw [oR e1]; omega)),?_⟩
 refine k.nx W σ _ _ ((Ev.same (s.trans s2)).trans (Ev.upd wa)) ((px.mono (s.trans s2)).updT hi ev wa ?_) q
 obtain ⟨h1,h2⟩:=vT kk ((Nw.rep px nw rz).same s2 fun _ z=>z) e1 (r.same s2 fun _ z=>z)
 exact⟨h1,h2.keep (.upd ea2 rfl fun b m=>⟨i4 wa m,m⟩)⟩
theorem ay1 (h:LE X (qC (.dK [])) σ H Q'):C8 σ H Q':=by
 obtain ⟨W,ρ,Q,px,q,k⟩:=h
 exact fun p hp=>k _ _ _ .fr (bB hp _) (.dK hp b8 rfl .nil) q
theorem ay2 (h:LE X (qC (.dT [])) σ H Q'):C9 σ H Q':=by
 obtain ⟨W,ρ,Q,px,q,k⟩:=h
 exact fun p hp=>k _ _ _ .fr (bB hp _) (.dT hp b8 rfl .nil) q
def i6 (ps more:List (aC × PV)):List (aC × PV):=more.foldl (fun acc kv=>cJ acc kv.1 kv.2) ps
theorem L8 {K:PySem.W.Frag}{M:Addr->Prop}{H:Hp}:∀ {more:List (aC × V)}{mp:List (aC × PV)}{kvs:List (aC × V)}{ps:List (aC × PV)},more.map (·.1)=mp.map (·.1)->Reps K M H (more.map (·.2)) (mp.map (·.2))->kvs.map (·.1)=ps.map (·.1)->Reps K M H (kvs.map (·.2)) (ps.map (·.2))->
  (kS kvs more).map (·.1)=(i6 ps mp).map (·.1)/\Reps K M H ((kS kvs more).map (·.2)) ((i6 ps mp).map (·.2))
 | [],[],_,_,_,_,e,r=>⟨e,r⟩
 | [],_ :: _,_,_,e,_,_,_=>by cases e
 | _ :: _,[],_,_,e,_,_,_=>by cases e
 | (k1,v) :: more,(k2,x) :: mp,kvs,ps,e,r,e',r'=>by
  injection e with e1 e2
  have e1:k1=k2:=e1
  subst e1
  cases r with
  | cons q t=>
   obtain ⟨h1,h2⟩:=vT k1 q e' r'
   exact L8 (more:=more) (mp:=mp) e2 t h1 h2
def vX (i:Nat) (te:aE):aH:=fun D ρ=>∃ ps,ρ[i]? = some (some (.own (.dK ps)))/\te ρ fun y g=>∃ mp,y = .dK mp/\(g = .fr ∨ (g = .nw/\False))/\ps.length+mp.length<=16000000/\D.nx (ρ.set i (some (.own (.dK (i6 ps mp)))))
theorem ay3 {i:Nat} (h:LS X (vX i te) D σ H):jR (J5 (eF i) (LE X te)) D σ H:=by
 obtain ⟨W,ρ,D',px,⟨ps,hi,q⟩,k⟩:=h
 obtain ⟨v,ev,a,rfl,wa,kvs,ea,e1,r⟩:=px.sl i _ hi
 refine⟨_,ev,a,rfl,.inl ⟨kvs,.inl ea⟩,W,ρ,_,px,q,?_⟩
 rintro w H1 y g s ry ⟨mp,rfl,hg,hl,q⟩
 rcases hg with rfl | ⟨_,z⟩
 ·cases ry with
  | @dK b more _ m hb e2 rb=>
   have hab:a ≠ b:=fun z=>by subst z; rw [show H a=none from m] at ea; cases ea
   have ea1:=s _ _ ea
   refine⟨b,kvs,more,rfl,hab,ea1,hb,lim (by rw [oR e1,oR e2]; exact hl),?_⟩
   refine k.nx W σ _ _ ((Ev.same s).trans (Ev.upd wa)) ((px.mono s).updD hi ev wa ?_) q
   obtain ⟨h1,h2⟩:=L8 e2 (rb.same (M':=Ms X.H₀ W true) (aD.refl _) fun _ z=>px.new z) e1 (r.same s fun _ z=>z)
   exact⟨h1,h2.keep (.upd ea1 rfl fun b m=>⟨i4 wa m,m⟩)⟩
 ·exact z.elim
end
def cN:Nat->PV->PV->Bool
 | _,.non,.non=>true
 | _,.bl a,.bl b=>a == b
 | _,.int a,.int b=>a == b
 | _,.str a,.str b=>a == b
 | n+1,.tup xs,.tup ys=>(xs.zip ys).all (fun p=>cN n p.1 p.2) && xs.length == ys.length
 | n+1,.lst xs,.lst ys=>(xs.zip ys).all (fun p=>cN n p.1 p.2) && xs.length == ys.length
 | n+1,.kt xs,.kt ys=>(xs.zip ys).all (fun p=>cN n p.1 p.2) && xs.length == ys.length
 | _,_,_=>false
def eW:Nat->PV->PV->Bool
 | _,.non,.non=>true
 | _,.bl _,.bl _=>true
 | _,.int _,.int _=>true
 | _,.str _,.str _=>true
 | _,.non,.int _=>true
 | _,.int _,.non=>true
 | n+1,.tup xs,.tup ys=>(xs.zip ys).all (fun p=>eW n p.1 p.2)
 | n+1,.lst xs,.lst ys=>(xs.zip ys).all (fun p=>eW n p.1 p.2)
 | n+1,.kt xs,.kt ys=>(xs.zip ys).all (fun p=>eW n p.1 p.2)
 | _+1,.non,.tup _=>true
 | _+1,.tup _,.non=>true
 | _,_,_=>false
theorem ay4 (n:Nat) (a b:Int):cN n (.int a) (.int b)=(a == b):=by cases n <;> rfl
theorem L9 (n:Nat):∀ (a b:List Int),((((intz a).zip (intz b)).all fun p=>cN n p.1 p.2) && (intz a).length == (intz b).length)=decide (a=b)
 | [],[]=>rfl
 | [],_ :: _=>by simp
 | _ :: _,[]=>by simp
 | x :: a,y :: b=>by
  have ih:=L9 n a b
  simp only [bh4,List.zip_cons_cons,bo7,bh9,ay4] at ih ⊢
  by_cases e:x=y
  ·subst e
   have:((intz a).length+1 == (intz b).length+1)=((intz a).length == (intz b).length):=by simp
   rw [this,bk4,Bool.true_and,ih]
   simp
  ·have:(x == y)=false:=bn0.mpr e
   rw [this,Bool.false_and,Bool.false_and]
   simp [e]
theorem M0 (n:Nat) (a b:List Int):cN (n+1) (.lst (intz a)) (.lst (intz b))=decide (a=b):=L9 n a b
theorem M3 (n:Nat):∀ (a b:List Int),(((intz a).zip (intz b)).all fun p=>eW n p.1 p.2)=true
 | [],_=>by simp
 | _ :: _,[]=>by simp
 | x :: a,y :: b=>by
  simp only [bh4,List.zip_cons_cons,bo7,M3 n a b,bq0]
  cases n <;> rfl
theorem M4 (n:Nat) (a b:List Int):eW (n+1) (.lst (intz a)) (.lst (intz b))=true:=M3 n a b
def i7 (ta:aE):aE:=fun ρ Q=>ta ρ fun x _=>∃ i,x = .int i/\Q (.int (-i)) .fr
def lD (neg:Bool):PV->Tg->PV->Tg->PK->Prop:=fun x _ y _ Q=>∃ i ns,x = .int i/\iM y=some (intz ns)/\Q (.bl (if neg=true then !decide (i ∈ ns) else decide (i ∈ ns))) .fr
def i8 (n:Nat) (neg:Bool):PV->Tg->PV->Tg->PK->Prop:=fun x _ y _ Q=>((∃ xs ys,x = .tup xs/\y = .tup ys) ∨ (∃ xs ys,x = .lst xs/\y = .lst ys))/\eW (n+1) x y=true/\Q (.bl (if neg=true then !cN (n+1) x y else cN (n+1) x y)) .fr
abbrev mQ:=bG->(Option Int->Prop)->Prop
def fO (xs:List PV) (lo hi:Option Int):List PV:=(xs.drop (HT.aY xs.length 0 lo)).take (HT.aY xs.length xs.length hi - HT.aY xs.length 0 lo)
def r9:PV->List PV->PV
 | .tup _,ys=>.tup ys
 | .kt _,ys=>.tup ys
 | _,ys=>.lst ys
def rA:mQ:=fun _ Q=>Q none
def rB (te:aE):mQ:=fun ρ Q=>te ρ fun x _=>∃ i,x = .int i/\Q (some i)
def rC (te:aE) (tl th:mQ):aE:=fun ρ Q=>te ρ fun x _=>tl ρ fun lo=>th ρ fun hi=>∃ xs,seqT x=some xs/\flats xs=true/\Q (r9 x (fO xs lo hi)) .fr
def eY (N:List Str) (xs:List PV):bG:=xs.map (fun x=>some (.sh (flat x) x)) ++ List.replicate (N.length - xs.length) none
abbrev eL (ta tb:aE):aE:=q2 (fL fun i j=>.int (i+j)) ta tb
abbrev k7 (ta tb:aE):aE:=q2 (fL fun i j=>.int (i - j)) ta tb
abbrev vY (ta tb:aE):aE:=q2 (RI nW fun i j=>.int (i * j)) ta tb
abbrev cR (ta tb:aE):aE:=q2 (RI tV fun i j=>.int (i / j)) ta tb
abbrev bM (ta tb:aE):aE:=q2 (RI (fun _ j=>0 < j) fun i j=>.int (i % j)) ta tb
abbrev vZ (ta tb:aE):aE:=q2 (RI tW fun i j=>.int (i ^ j.toNat)) ta tb
abbrev ay5 (ta tb:aE):aE:=q2 (RI (fun _ j=>0<=j) fun i j=>.int (i / 2 ^ j.toNat)) ta tb
abbrev lE (ta tb:aE):aE:=q2 (fL fun i j=>.bl (decide (i < j))) ta tb
abbrev iO (ta tb:aE):aE:=q2 (fL fun i j=>.bl (decide (j < i))) ta tb
abbrev oS (ta tb:aE):aE:=q2 (fL fun i j=>.bl (decide (j<=i))) ta tb
abbrev dW (ta tb:aE):aE:=q2 (kZ false) ta tb
abbrev w4 (ta tb:aE):aE:=q2 (kZ true) ta tb
abbrev ay6 (ta tb:aE):aE:=q2 (vR true) ta tb
abbrev cL (ta tb:aE):aE:=q2 vM ta tb
def e9:List PV->(PV->Prop)->Prop:=fun xs Q=>K6 xs Q/\∀ ns,xs ≠ [.scr ns]
def QE (X:Cx) (e:Expr) (t:aE):Prop:=PE X e (LE X t)
def QT (X:Cx) (e:Expr) (t:bT):Prop:=PT X e (LT X t)
def QW (X:Cx) (e:Expr) (t:bT):Prop:=PW X e (LT X t)
def QA (X:Cx) (es:List Expr) (t:cI):Prop:=PA X es (LA X t)
def QS (X:Cx) (st:Stmt) (t:aH):Prop:=PS X st (LS X t)
def eZ (X:Cx) (st:List Stmt) (t:aH):Prop:=cY X st (LS X t)
def QI (X:Cx) (tg iter:Expr) (t:eJ):Prop:=PI X tg iter (LI X t)
section
variable {X : Cx}
theorem bY {e:Expr}{t t':TE} (h:PE X e t) (m:∀ σ H Q,t' σ H Q->t σ H Q):PE X e t':=fun pins s σ H Q I q=>h pins s σ H Q I (m σ H Q q)
theorem oT {e:Expr}{t t':TT} (h:PT X e t) (m:∀ σ H Q,t' σ H Q->t σ H Q):PT X e t':=fun pins s σ H Q I q=>h pins s σ H Q I (m σ H Q q)
theorem M5 {e:Expr}{t t':TT} (h:PW X e t) (m:∀ σ H Q,t' σ H Q->t σ H Q):PW X e t':=fun wh pins s σ H Q I q=>h wh pins s σ H Q I (m σ H Q q)
theorem M6 {e:List Expr}{t t':TA} (h:PA X e t) (m:∀ σ H Q,t' σ H Q->t σ H Q):PA X e t':=fun pos pins s σ H Q I q=>h pos pins s σ H Q I (m σ H Q q)
theorem cO {e:Stmt}{t t':TS} (h:PS X e t) (m:∀ D σ H,t' D σ H->t D σ H):PS X e t':=fun pins s σ H D I q=>h pins s σ H D I (m D σ H q)
theorem w5 {e:List Stmt}{t t':TS} (h:cY X e t) (m:∀ D σ H,t' D σ H->t D σ H):cY X e t':=fun pins s σ H D I q=>h pins s σ H D I (m D σ H q)
theorem oU {tg e:Expr}{t t':TI} (h:PI X tg e t) (m:∀ σ H R,t' σ H R->t σ H R):PI X tg e t':=fun pins s σ H R I q=>h pins s σ H R I (m σ H R q)
variable {a b c e o : Expr} {es dF : List Expr} {ta tb te to tk : aE} {tr : cI} {tA tB' tc : bT} {pos p2 px : Pos} {st : Stmt} {sts : List Stmt} {t u : aH}
theorem qv (i:Nat) {x:Str}{pos:Pos} (hN:X.N[i]? = some x:=by rfl) (hv:eD X.env.scope x:=by first | exact Or.inl rfl | exact Or.inr (Or.inl rfl) | exact Or.inr (Or.inr rfl)) (hd:(x == ("__debug__" : Str))=false:=by decide)
  (hcd:(x == ("__classdict__" : Str))=false:=by decide):QE X (.Name x pos) (a5 i):=bY (fG hN hv hd hcd) fun _ _ _=>at2
theorem aF {i j}:QE X (.Constant (.int i) j pos) (qC (.int i)):=bY nO fun _ _ _=>oH fun _=>.int i
theorem bI {i j}:QE X (.Constant (.bool i) j pos) (qC (.bl i)):=bY ae7 fun _ _ _=>oH fun _=>.bl i
theorem M7 {j}:QE X (.Constant .none j pos) (qC .non):=bY ae8 fun _ _ _=>oH fun _=>.non
theorem oV {i j}:QE X (.Constant (.str i) j pos) (qC (.str i)):=bY ae9 fun _ _ _=>oH fun _=>.str i
theorem iP {op:Operator}{R:PV->Tg->PV->Tg->PK->Prop}{r:R2} (ho:cF X (binaryOp op) r) (cv:eU X R r) (ha:QE X a ta) (hb:QE X b tb):QE X (.BinOp a op b pos) (q2 R ta tb):=bY (ah5 ho ha hb) fun _ _ _=>qV cv
theorem fD (ha:QE X a ta) (hb:QE X b tb):QE X (.BinOp a .Add b pos) (q2 (fL fun i j=>.int (i+j)) ta tb):=iP ah8 J7 ha hb
theorem mR (ha:QE X a ta) (hb:QE X b tb):QE X (.BinOp a .Sub b pos) (q2 (fL fun i j=>.int (i - j)) ta tb):=iP ah9 J7 ha hb
theorem w6 (ha:QE X a ta) (hb:QE X b tb):QE X (.BinOp a .Mult b pos) (q2 (RI nW fun i j=>.int (i * j)) ta tb):=iP ai0 oI ha hb
theorem dC (ha:QE X a ta) (hb:QE X b tb):QE X (.BinOp a .FloorDiv b pos) (q2 (RI tV fun i j=>.int (i / j)) ta tb):=iP ai1 oI ha hb
theorem bQ (ha:QE X a ta) (hb:QE X b tb):QE X (.BinOp a .Mod b pos) (q2 (RI (fun _ j=>0 < j) fun i j=>.int (i % j)) ta tb):=iP ai2 oI ha hb
theorem w9 (ha:QE X a ta) (hb:QE X b tb):QE X (.BinOp a .Pow b pos) (q2 (RI tW fun i j=>.int (i ^ j.toNat)) ta tb):=iP ai3 oI ha hb
theorem ay7 (ha:QE X a ta) (hb:QE X b tb):QE X (.BinOp a .RShift b pos) (q2 (RI (fun _ j=>0<=j) fun i j=>.int (i / 2 ^ j.toNat)) ta tb):=iP ai4 oI ha hb
theorem rD {op:CmpOp}{R:PV->Tg->PV->Tg->PK->Prop}{r:R2} (ho:cF X (compareOp op) r) (cv:eU X R r) (ha:QE X a ta) (hb:QE X b tb) (hm:behindInMarks op b=false):QE X (.Compare a [op] [b] pos) (q2 R ta tb):=bY (tX ho ha hb hm) fun _ _ _=>qV cv
theorem k8 {op:CmpOp}{R:PV->Tg->PV->Tg->PK->Prop}{r:R2} (ho:cF X (compareOp op) r) (cv:eU X R r) (ha:QE X a ta) (hb:QE X b tb) (hm:behindInMarks op b=false):QT X (.Compare a [op] [b] pos) (aU (q2 R ta tb)):=oT (aj0 ho ha hb hm) fun _ _ _ h=>qV cv (vG h)
theorem ay8 (ha:QE X a ta) (hb:QE X b tb):QE X (.Compare a [.Lt] [b] pos) (q2 (fL fun i j=>.bl (decide (i < j))) ta tb):=rD pQ oJ ha hb (fR _)
theorem wA (ha:QE X a ta) (hb:QE X b tb):QE X (.Compare a [.GtE] [b] pos) (q2 (fL fun i j=>.bl (decide (j<=i))) ta tb):=rD zL oJ ha hb (fR _)
theorem ay9 (ha:QE X a ta) (hb:QE X b tb):QE X (.Compare a [.Eq] [b] pos) (q2 (kZ false) ta tb):=rD zK K1 ha hb (fR _)
theorem mS (ha:QE X a ta) (hb:QE X b tb):QT X (.Compare a [.Lt] [b] pos) (aU (q2 (fL fun i j=>.bl (decide (i < j))) ta tb)):=k8 pQ oJ ha hb (fR _)
theorem jG (ha:QE X a ta) (hb:QE X b tb):QT X (.Compare a [.Gt] [b] pos) (aU (q2 (fL fun i j=>.bl (decide (j < i))) ta tb)):=k8 ai7 oJ ha hb (fR _)
theorem M8 (ha:QE X a ta) (hb:QE X b tb):QT X (.Compare a [.GtE] [b] pos) (aU (q2 (fL fun i j=>.bl (decide (j<=i))) ta tb)):=k8 zL oJ ha hb (fR _)
theorem eM (ha:QE X a ta) (hb:QE X b tb):QT X (.Compare a [.Eq] [b] pos) (aU (q2 (kZ false) ta tb)):=k8 zK K1 ha hb (fR _)
theorem M9 (ha:QE X a ta) (hb:QE X b tb):QT X (.Compare a [.NotEq] [b] pos) (aU (q2 (kZ true) ta tb)):=k8 ai6 at3 ha hb (fR _)
theorem az0 (ha:QE X a ta) (hb:QE X b tb):QT X (.Compare a [.IsNot] [b] pos) (aU (q2 (vR true) ta tb)):=k8 ai8 aw8 ha hb (fR _)
theorem N0 (hu:X.A.units+1 < cLine) (hk:QE X a tk) (hd:QE X b te) (hm:behindInMarks .In b=false:=by rfl):QT X (.Compare a [.In] [b] pos) (aU (lC false tk te)):=oT (af2 (an9 hu hk hd) hm) fun _ _ _ h=>ax6 (vG h)
theorem az1 (hu:X.A.units+1 < cLine) (hk:QE X a tk) (hd:QE X b te) (hm:behindInMarks .NotIn b=false:=by rfl):QE X (.Compare a [.NotIn] [b] pos) (lC true tk te):=bY (af1 (ao0 hu hk hd) hm) fun _ _ _ h=>ax7 h
theorem gM (h:QE X e te) (he:∀ whole,isTrue e X.env whole=(do let v <- whole; standAt e.pos; holding [v] (truthy v)):=by intro _; rfl):QT X e (aU te):=oT (af3 h he) fun _ _ _ h=>vG h
theorem wB (h:QE X e te) (he:∀ whole,isTrue e X.env whole=(do let v <- whole; standAt e.pos; holding [v] (truthy v)):=by intro _; rfl):QT X e (oP te):=oT (aj3 h he) fun _ _ _ h=>aw6 h
theorem k9 (ha:QT X a tA):QW X (.BoolOp .And [a] pos) tA:=af4 ha
theorem wC (ha:QT X a tA):QW X (.BoolOp .Or [a] pos) tA:=af5 ha
theorem kA (ha:QT X a tA) (hb:QW X (.BoolOp .And (b :: dF) pos) tB'):QW X (.BoolOp .And (a :: b :: dF) pos) (i3 tA tB'):=M5 (af6 ha hb) fun _ _ _=>at5
theorem rE (ha:QT X a tA) (hb:QW X (.BoolOp .Or (b :: dF) pos) tB'):QW X (.BoolOp .Or (a :: b :: dF) pos) (mF tA tB'):=M5 (af7 ha hb) fun _ _ _=>at6
theorem i9 (h:QW X e tA):QT X e tA:=PW.pt h
theorem lF (ha:QT X a tA):QT X (.UnaryOp .Not a pos) (jE tA):=oT (af8 ha) fun _ _ _=>at7
theorem rF {op} (h:QE X a ta):QE X (.BoolOp op [a] pos) ta:=af9 h
theorem rG (ha:QE X a ta) (hb:QE X (.BoolOp .And (b :: dF) pos) tb):QE X (.BoolOp .And (a :: b :: dF) pos) (mG ta tb):=bY (ag0 ha hb) fun _ _ _=>at8
theorem aA:QA X [] a9:=M6 dY fun _ _ _=>at9
theorem a7 (ha:QE X e te) (hr:QA X es tr) (hs:starEach (e :: es) X.env=(false,eval e X.env) :: starEach es X.env:=by rfl):QA X (e :: es) (a6 te tr):=M6 (dD ha hr hs) fun _ _ _=>au0
theorem dX {x1} (h:QA X es tr):QE X (.Tuple es x1 pos) (dB tr):=bY (zN h) fun _ _ _=>au2
theorem az2 {x1} (h:QA X es tr):QE X (.Tuple es x1 pos) (vH tr):=bY (zN h) fun _ _ _=>au1
theorem fA (h:QA X es tr):QE X (.List es pos) (eV tr):=bY (u6 h) fun _ _ _=>au3
theorem cS (ha:QE X a ta) (hb:QE X b tb) (hs:A1 b:=by exact fun _ _=>rfl):QE X (.Subscript a b pos) (q2 vM ta tb):=bY (o0 al2 ha hb hs) fun _ _ _=>qV av7
theorem mT (hu:X.A.units+1 < cLine) (ha:QE X a ta) (hb:QE X b tb) (hs:uN b:=by exact fun _ _=>rfl):QE X (.Subscript a b pos) (k6 ta tb):=bY (an8 hu ha hb hs) fun _ _ _=>ax8
theorem N1:QE X (.Dict [] [] pos) (qC (.dK [])):=bY ao3 fun _ _ _=>ay1
theorem wD:QE X (.Dict [] [] pos) (qC (.dT [])):=bY ao4 fun _ _ _=>ay2
theorem kB {x:Str}{id:String}{R:List PV->(PV->Prop)->Prop}{r:List V->Hp->VK->Prop} (hc:cZ X (.builtin id) r) (cv:fM X R r) (hg:Gl X x) (hm:X.mg x=none) (hv:bootBuiltins x=some (.builtin id)) (ha:QA X (e :: es) tr) (hn:x ≠ "__name__":=by decide) (hdb:(x == ("__debug__" : Str))=false:=by decide)
  (he:starEach (e :: es) X.env=(false,eval e X.env) :: starEach es X.env:=by rfl) (hpl:(backTo pos (starEach es X.env)).any (·.1)=false:=by rfl):QE X (.Call (.Name x p2) (e :: es) [] pos) (aB R tr):=bY (pT hc hg hm hv ha hn hdb he hpl) fun _ _ _=>K2 cv
theorem wE {x:Str}{T:String}{R:List PV->(PV->Prop)->Prop}{r:List V->Hp->VK->Prop} (hc:cZ X (.type T) r) (cv:fM X R r) (hg:Gl X x) (hm:X.mg x=none) (hv:bootBuiltins x=some (.type T)) (ha:QA X (e :: es) tr) (hn:x ≠ "__name__":=by decide) (hdb:(x == ("__debug__" : Str))=false:=by decide)
  (he:starEach (e :: es) X.env=(false,eval e X.env) :: starEach es X.env:=by rfl) (hpl:(backTo pos (starEach es X.env)).any (·.1)=false:=by rfl):QE X (.Call (.Name x p2) (e :: es) [] pos) (aB R tr):=bY (zU hc hg hm hv ha hn hdb he hpl) fun _ _ _=>K2 cv
theorem cM:eZ X [] cC:=w5 ag2 fun _ _ _=>au4
theorem aI (h1:QS X st t) (h2:eZ X sts u):eZ X (st :: sts) (aG t u):=w5 (nQ h1 h2) fun _ _ _=>au5
theorem aM (h1:QS X st t):eZ X [st] t:=lX h1
theorem az3:QS X (.Break pos) vK:=cO ag3 fun _ _ _=>au6
theorem bD {i:Nat}{x:Str} (hN:X.N.Nodup) (he:QE X e te) (hi:X.N[i]? = some x:=by rfl) (hx:gY X.env.scope x:=by first | exact Or.inl rfl | exact Or.inr rfl) (hs:swapsWith e (some (.Name x p2)) pos.line X.env=pure false:=by rfl) (hf:X.fn x=true ∨ X.env.scope.names.lookup x=some .local:=by first | exact .inl rfl | exact .inr rfl) :
  QS X (.Assign [.Name x p2] e pos) (b5 i te):=cO (yT hN hi hx he hs hf) fun _ _ _=>qW
theorem eN {i:Nat}{x:Str} (hN:X.N.Nodup) (he:QE X e te) (hi:X.N[i]? = some x:=by rfl) (hx:gY X.env.scope x:=by first | exact Or.inl rfl | exact Or.inr rfl) (hs:swapsWith e (some (.Name x p2)) pos.line X.env=pure false:=by rfl) (hf:X.fn x=true ∨ X.env.scope.names.lookup x=some .local:=by first | exact .inl rfl | exact .inr rfl) :
  QS X (.Assign [.Name x p2] e pos) (dI i te):=cO (yT hN hi hx he hs hf) fun _ _ _=>K5
theorem N3 (i:Nat) (h:QS X st t):QS X st (qX i t):=cO h fun _ _ _=>au9
theorem bJ (he:QE X e te):QS X (.Return (some e) pos) (bC te):=cO (lZ he) fun _ _ _=>av0
theorem gN (i:Nat) {x:Str} (hN:X.N[i]? = some x:=by rfl) (hv:eD X.env.scope x:=by first | exact Or.inl rfl | exact Or.inr (Or.inl rfl) | exact Or.inr (Or.inr rfl)) (hd:(x == ("__debug__" : Str))=false:=by decide) (hcd:(x == ("__classdict__" : Str))=false:=by decide) :
  QS X (.Return (some (.Name x p2)) pos) (dJ i):=cO (lZ (fG hN hv hd hcd)) fun _ _ _=>av1
theorem bR {sa sb:List Stmt} (hc:QT X c tc) (ha:eZ X sa t) (hb:eZ X sb u):QS X (.If c sa sb pos) (bL tc t u):=cO (ag4 hc ha hb) fun _ _ _=>av2
theorem rH {body:List Stmt} (hp:PassesOwn (model X.prog X.w) X.A X.env X.xe) (hc:QT X c tc) (hb:eZ X body t):QS X (.While c body [] pos) (mJ tc t):=cO (ag6 hp hc hb) fun _ _ _=>av3
theorem mU (i:Nat) {x:Str}{apos cpos xpos:Pos} (he:QE X e te) (hN:X.N[i]? = some x:=by rfl) (hv:eD X.env.scope x:=by first | exact Or.inl rfl | exact Or.inr (Or.inl rfl) | exact Or.inr (Or.inr rfl)) (hd:(x == ("__debug__" : Str))=false:=by decide) (hcd:(x == ("__classdict__" : Str))=false:=by decide)
  (hbase:attributeBase (.Name x xpos) "append" X.env (eval (.Name x xpos) X.env)=eval (.Name x xpos) X.env:=by rfl)
  (hfew:((backTo cpos (starEach [e] X.env)).all (fun x=>!x.1) && (backToKw cpos (keywordEach [] X.env)).all (fun x=>x.1.isSome) && decide (([e]:List Expr).length+([]:List Keyword).length+(if ([]:List Keyword).isEmpty then 0 else 1) < 30))=true:=by rfl)
  (hline:(apos.endLine == cpos.line)=true:=by rfl) (hs:starEach [e] X.env=(false,eval e X.env) :: starEach [] X.env:=by rfl) (hplain:(backTo cpos (starEach [] X.env)).any (·.1)=false:=by rfl)
  (hsw:swapsWith (.Call (.Attribute (.Name x xpos) "append" apos) [e] [] cpos) none pos.line X.env=pure false:=by rfl) :
  QS X (.Expr (.Call (.Attribute (.Name x xpos) "append" apos) [e] [] cpos) pos) (jX i te):=
 cO (j3 (o7 bk6 PySem.F.slot_list_append PySem.F.type_list_append pW (fG hN hv hd hcd) (dD he dY hs) hbase hfew hline hs hplain) hsw) fun _ _ _=>av4
theorem rJ {i:Nat}{x:Str}{xpos tpos:Pos} (hu:X.A.units+1 < cLine) (hk:QE X a tk) (he:QE X e te) (hN:X.N[i]? = some x:=by rfl) (hv:eD X.env.scope x:=by first | exact Or.inl rfl | exact Or.inr (Or.inl rfl) | exact Or.inr (Or.inr rfl)) (hd:(x == ("__debug__" : Str))=false:=by decide) (hcd:(x == ("__classdict__" : Str))=false:=by decide)
  (hs:swapsWith e (some (.Subscript (.Name x xpos) a tpos)) pos.line X.env=pure false:=by rfl):QS X (.Assign [.Subscript (.Name x xpos) a tpos] e pos) (mO i tk te):=cO (C7 hu (fG hN hv hd hcd) hk he hs) fun _ _ _=>ax9
theorem wF {i:Nat}{x:Str}{xpos tpos:Pos} (hu:X.A.units+1 < cLine) (hk:QE X a tk) (he:QE X e te) (hN:X.N[i]? = some x:=by rfl) (hv:eD X.env.scope x:=by first | exact Or.inl rfl | exact Or.inr (Or.inl rfl) | exact Or.inr (Or.inr rfl)) (hd:(x == ("__debug__" : Str))=false:=by decide) (hcd:(x == ("__classdict__" : Str))=false:=by decide)
  (hs:swapsWith e (some (.Subscript (.Name x xpos) a tpos)) pos.line X.env=pure false:=by rfl):QS X (.Assign [.Subscript (.Name x xpos) a tpos] e pos) (mP i tk te):=cO (C7 hu (fG hN hv hd hcd) hk he hs) fun _ _ _=>ay0
theorem az4 {tg l:Expr}{tl:TE} (hl:PE X l tl):PI X tg l (K7 X.K tl):=by
 intro pins s σ H R I h
 refine aQ (hl pins s σ H _ I h) fun v s1 ⟨x,H1,I1,r1,q1⟩=>?_
 obtain ⟨a,e,q⟩:=q1
 subst e
 cases r1
 rcases q with ⟨xs,hq,q⟩ | ⟨xs,hq,q⟩
 ·obtain ⟨its,rv,p,hz⟩:=I1.list hq
  refine wpAny_pyIter_list p.isList ?_
  refine⟨s1.heap.objs.size,[s1.heap.objs.size],_,_,H1,rfl,I1.kept (t':=s1.toks) fun b o e=>bb8 _ e,ag7 a _,⟨_,bd2 _ rfl,rfl,rfl⟩,fun b hb=>?_,q⟩
  have e:b=s1.heap.objs.size:=by simpa using hb
  subst e
  exact I1.fpOk (bc1 _) (I1.hok.fresh (bc1 _))
 ·obtain ⟨its,rv,p,hz⟩:=I1.tuple hq
  refine bn6 (show s1.heap.IsTuple a its.toArray from p) ?_
  refine⟨s1.heap.objs.size,[s1.heap.objs.size],_,_,H1,rfl,I1.kept (t':=s1.toks) fun b o e=>bb8 _ e,yW a _,⟨_,bd2 _ rfl,rfl,rfl⟩,fun b hb=>?_,q⟩
  have e:b=s1.heap.objs.size:=by simpa using hb
  subst e
  exact I1.fpOk (bc1 _) (I1.hok.fresh (bc1 _))
theorem dP {tg l:Expr} (hl:QE X l te):QI X tg l (dE te):=oU (az4 hl) fun _ _ _=>aw9
theorem iQ {tg:Expr} (hg:Gl X "range") (hm:X.mg "range" = none) (ha:QE X a ta) (hs:starEach [a] X.env = [(false,eval a X.env)]:=by rfl):QI X tg (.Call (.Name "range" p2) [a] [] pos) (fW ta):=oU (ah0 hg hm (dD ha dY hs) hs) fun _ _ _=>ax0
theorem az5 {tg:Expr} (hg:Gl X "range") (hm:X.mg "range" = none) (ha:QE X a ta) (hb:QE X b tb) (hs:starEach [a,b] X.env = [(false,eval a X.env),(false,eval b X.env)]:=by rfl) (hs2:starEach [b] X.env = [(false,eval b X.env)]:=by rfl) :
  QI X tg (.Call (.Name "range" p2) [a,b] [] pos) (vS ta tb):=oU (ah1 hg hm (dD ha (dD hb dY hs2) (by rw [hs,hs2])) hs hs2) fun _ _ _=>ax1
theorem N4 {tg:Expr}{body:List Stmt}{ti:eJ}{p:iN}{g:TG}{own:Nat->Prop} (hp:PassesOwn (model X.prog X.w) X.A X.env X.xe) (hc:X.calm=true) (hi:QI X tg e ti) (hg:PG X tg g) (ht:mM X.K own p g) (hb:eZ X body t)
  (hs:∀ x,foldedSetIterable e X.env x=pure x:=by intro _; rfl):QS X (.For tg e body [] pos) (dU ti p t):=cO (zB hp hc hi hg hb hs) fun _ _ _=>ax2 ht
end
section
variable {X : Cx} {pins : List (Addr × Obj)} {σ : St} {H : Hp} {s : Shared} {K : PySem.W.Frag} {M M' : Addr → Prop}
theorem mE.inj {a:Addr}{us ws:List V} (h:mE K a us) (h':mE K a ws):us=ws:=by
 obtain ⟨o,its,n,e1,_,e2,_,v⟩:=h
 obtain ⟨o',its',n',e1',_,e2',_,v'⟩:=h'
 rw [e1] at e1'; cases e1'
 rw [e2] at e2'; cases e2'
 exact v.inj v'
theorem Reps.self_of {n:Nat} (ih:∀ {v:V}{x y:PV},aJ K M H v x->aJ K M' H v y->eW n x y=true->cN n x y=true):∀ {vs:List V}{xs ys:List PV},Reps K M H vs xs->Reps K M' H vs ys->((xs.zip ys).all fun p=>eW n p.1 p.2)=true->(((xs.zip ys).all fun p=>cN n p.1 p.2) && xs.length == ys.length)=true
 | _,_,_,.nil,.nil,_=>rfl
 | _,_,_,.cons r t,.cons r' t',o=>by
  simp only [List.zip_cons_cons,bo7,bd8] at o
  have h1:=ih r r' o.1
  have h2:=Reps.self_of ih t t' o.2
  simp only [List.zip_cons_cons,bo7,h1,Bool.true_and,bh9] at h2 ⊢
  rw [<- h2]
  congr 1
  simp
theorem aJ.self:∀ (n:Nat) {v:V}{x y:PV},aJ K M H v x->aJ K M' H v y->eW n x y=true->cN n x y=true:=by
 intro n
 induction n with
 | zero=>
  intro v x y r r' o
  cases r with
  | non=>cases r'; rfl
  | bl b=>cases r'; exact bk4 b
  | int i=>cases r'; exact bk4 i
  | str z=>cases r'; exact bk4 z
  | _=>cases o
 | succ n ih=>
  intro v x y r r' o
  cases r with
  | non=>cases r'; rfl
  | bl b=>cases r'; exact bk4 b
  | int i=>cases r'; exact bk4 i
  | str z=>cases r'; exact bk4 z
  | tup h rr=>
   cases r' with
   | tup h' rr'=>rw [h] at h'; cases h'; exact Reps.self_of ih rr rr' o
   | _=>cases o
  | lst _ h rr=>
   cases r' with
   | lst _ h' rr'=>rw [h] at h'; cases h'; exact Reps.self_of ih rr rr' o
   | _=>cases o
  | kt h rr=>
   cases r' with
   | kt h' rr'=>cases mE.inj h h'; exact Reps.self_of ih rr rr' o
   | _=>cases o
  | _=>cases o
theorem Reps.self (n:Nat) {vs:List V}{xs ys:List PV} (r:Reps K M H vs xs) (r':Reps K M' H vs ys) (o:((xs.zip ys).all fun p=>eW n p.1 p.2)=true):(((xs.zip ys).all fun p=>cN n p.1 p.2) && xs.length == ys.length)=true:=Reps.self_of (aJ.self n) r r' o
theorem jH (n:Nat) (xs ys:List PV):(List.range (min xs.length ys.length)).all (fun j=>cN n (xs.getD j .non) (ys.getD j .non))=(xs.zip ys).all fun p=>cN n p.1 p.2:=by
 rw [bl7]
 simp only [bm0,bo9]
 constructor
 ·intro h p hp
  obtain ⟨j,hj,e⟩:=List.getElem_of_mem hp
  have hj':j < min xs.length ys.length:=by simpa using hj
  have:=h j hj'
  rw [List.getElem_zip] at e
  subst e
  have h1:j < xs.length:=by omega
  have h2:j < ys.length:=by omega
  simpa [bd6,h1,h2] using this
 ·intro h j hj
  have h1:j < xs.length:=by omega
  have h2:j < ys.length:=by omega
  have hz:j < (xs.zip ys).length:=by simp; omega
  have:=h _ (bn7 hz)
  rw [List.getElem_zip] at this
  simpa [bd6,h1,h2] using this
theorem az6 (I:a8 X pins σ H s):∀ (n:Nat) {A:Around}{v w:V}{x y:PV}{a b:Value},A.units+n < cLine->aJ X.K M H v x->aJ X.K M' H w y->aX v a->aX w b->eW n x y=true->SeqAt.EqAt A s a b (cN n x y):=by
 intro n
 induction n with
 | zero=>
  intro A v w x y a b hu rx ry ra rb o
  cases rx with
  | non=>
   cases ra
   cases ry with
   | non=>cases rb; exact SeqAt.EqAt.same _
   | int i=>obtain ⟨t',rfl⟩:=rb; exact SeqAt.EqAt.none_int _ _
   | _=>cases o
  | bl i=>
   cases ra
   cases ry with
   | bl j=>cases rb; exact SeqAt.EqAt.bool_bool _ _
   | _=>cases o
  | int i=>
   obtain ⟨t,rfl⟩:=ra
   cases ry with
   | int j=>obtain ⟨t',rfl⟩:=rb; exact SeqAt.EqAt.int_int _ _ _ _
   | non=>cases rb; exact SeqAt.EqAt.int_none _ _
   | _=>cases o
  | str i=>
   obtain ⟨t,rfl⟩:=ra
   cases ry with
   | str j=>obtain ⟨t',rfl⟩:=rb; exact SeqAt.EqAt.str_str _ _ _ _
   | _=>cases o
  | _=>cases o
 | succ n ih=>
  intro A v w x y a b hu rx ry ra rb o
  have items:∀ {us ws:List V}{xs ys:List PV}{its its2:List Value},Reps X.K M H us xs->Reps X.K M' H ws ys->aK us its->aK ws its2->((xs.zip ys).all fun p=>eW n p.1 p.2)=true->
    ∀ j (h1:j < its.toArray.size) (h2:j < its2.toArray.size),SeqAt.EqAt A.in1 s its.toArray[j] its2.toArray[j] (cN n (xs.getD j .non) (ys.getD j .non)):=fun {us ws xs ys its its2} r1 r2 v1 v2 ok j h1 h2=>by
   have l1:=v1.length
   have l2:=v2.length
   have m1:=r1.length
   have m2:=r2.length
   have k1:j < its.length:=by simpa using h1
   have k2:j < its2.length:=by simpa using h2
   have j1:j < us.length:=by omega
   have j2:j < ws.length:=by omega
   have i1:j < xs.length:=by omega
   have i2:j < ys.length:=by omega
   obtain ⟨u,hu',ru⟩:=v1.get (bc2 j1)
   obtain ⟨u2,hu2',ru2⟩:=v2.get (bc2 j2)
   obtain ⟨x,hx,rx⟩:=r1.get (bc2 j1)
   obtain ⟨y,hy,ry⟩:=r2.get (bc2 j2)
   have e1:its.toArray[j]=u:=by
    rw [bc2 k1] at hu'
    simpa using hu'
   have e2:its2.toArray[j]=u2:=by
    rw [bc2 k2] at hu2'
    simpa using hu2'
   have ok':eW n x y=true:=by
    rw [bm0] at ok
    have hz:j < (xs.zip ys).length:=by simp; omega
    have:=ok _ (bn7 hz)
    rw [List.getElem_zip] at this
    rw [bc2 i1] at hx
    rw [bc2 i2] at hy
    cases hx; cases hy
    exact this
   rw [e1,e2]
   have g1:xs.getD j .non=x:=by rw [bd6,hx]; rfl
   have g2:ys.getD j .non=y:=by rw [bd6,hy]; rfl
   rw [g1,g2]
   exact ih (by show A.units+1+n < cLine; omega) rx ry ru ru2 ok'
  have huA:A.units < cLine:=by omega
  cases rx with
  | @kt p us xs h1 r1=>
   obtain ⟨its,v1,p1,_⟩:=I.tuple (.inr h1)
   cases (show a=Value.ref p from ra)
   cases ry with
   | @kt p2 ws ys h2 r2=>
    obtain ⟨its2,v2,p2',_⟩:=I.tuple (.inr h2)
    cases (show b=Value.ref p2 from rb)
    by_cases e:p=p2
    ·subst e
     have:=aJ.self (K:=X.K) (M:=M) (M':=M') (n+1) (.kt h1 r1) (.kt h2 r2) o
     rw [this]
     exact SeqAt.EqAt.same _
    ·have:=SeqAt.RcAt.tuples p1 p2' huA (items r1 r2 v1 v2 o)
     refine .of_refs e ?_
     have l1:=v1.length
     have l2:=v2.length
     have m1:=r1.length
     have m2:=r2.length
     rw [bb9,bb9,<- l1,<- l2,m1,m2,jH] at this
     exact this
   | _=>cases o
  | @tup p us xs h1 r1=>
   obtain ⟨its,v1,p1,_⟩:=I.tuple (aO.of (K:=X.K) h1)
   cases (show a=Value.ref p from ra)
   cases ry with
   | @tup p2 ws ys h2 r2=>
    obtain ⟨its2,v2,p2',_⟩:=I.tuple (aO.of (K:=X.K) h2)
    cases (show b=Value.ref p2 from rb)
    by_cases e:p=p2
    ·subst e
     have:=aJ.self (K:=X.K) (M:=M) (M':=M') (n+1) (.tup h1 r1) (.tup h2 r2) o
     rw [this]
     exact SeqAt.EqAt.same _
    ·have:=SeqAt.RcAt.tuples p1 p2' huA (items r1 r2 v1 v2 o)
     refine .of_refs e ?_
     have l1:=v1.length
     have l2:=v2.length
     have m1:=r1.length
     have m2:=r2.length
     rw [bb9,bb9,<- l1,<- l2,m1,m2,jH] at this
     exact this
   | non=>cases rb; exact SeqAt.EqAt.tuple_none p1 huA
   | _=>cases o
  | @lst p us xs _ h1 r1=>
   obtain ⟨its,v1,p1,_⟩:=I.list (aN.of (K:=X.K) h1)
   cases (show a=Value.ref p from ra)
   cases ry with
   | @lst p2 ws ys _ h2 r2=>
    obtain ⟨its2,v2,p2',_⟩:=I.list (aN.of (K:=X.K) h2)
    cases (show b=Value.ref p2 from rb)
    have l1:=v1.length
    have l2:=v2.length
    have m1:=r1.length
    have m2:=r2.length
    by_cases e:p=p2
    ·subst e
     rw [h1] at h2; cases h2
     have:=Reps.self n r1 r2 o
     show SeqAt.EqAt A s _ _ ((xs.zip ys).all (fun p=>cN n p.1 p.2) && xs.length == ys.length)
     rw [this]
     exact SeqAt.EqAt.same _
    ·refine .of_refs e ?_
     by_cases hl:xs.length=ys.length
     ·have:=SeqAt.RcAt.lists p1.isList p2'.isList (by rw [bb9,bb9]; omega) huA (items r1 r2 v1 v2 o)
      have hm:min xs.length ys.length=its.length:=by omega
      rw [bb9,<- hm,jH] at this
      show SeqAt.RcAt A s _ _ ((xs.zip ys).all (fun p=>cN n p.1 p.2) && xs.length == ys.length)
      rw [show (xs.length == ys.length)=true by simpa using hl,bq0]
      exact this
     ·have:=SeqAt.RcAt.lists_lengths (A:=A) p1.isList p2'.isList (by rw [bb9,bb9]; simp; omega) huA
      show SeqAt.RcAt A s _ _ ((xs.zip ys).all (fun p=>cN n p.1 p.2) && xs.length == ys.length)
      rw [show (xs.length == ys.length)=false by simpa using hl,bq1]
      exact this
   | _=>cases o
  | non=>
   cases ra
   cases ry with
   | non=>cases rb; exact SeqAt.EqAt.same _
   | int i=>obtain ⟨t',rfl⟩:=rb; exact SeqAt.EqAt.none_int _ _
   | @tup p2 ws ys h2 r2=>
    obtain ⟨its2,v2,p2',_⟩:=I.tuple (aO.of (K:=X.K) h2)
    cases (show b=Value.ref p2 from rb)
    exact SeqAt.EqAt.none_tuple p2' huA
   | _=>cases o
  | bl i=>
   cases ra
   cases ry with
   | bl j=>cases rb; exact SeqAt.EqAt.bool_bool _ _
   | _=>cases o
  | int i=>
   obtain ⟨t,rfl⟩:=ra
   cases ry with
   | int j=>obtain ⟨t',rfl⟩:=rb; exact SeqAt.EqAt.int_int _ _ _ _
   | non=>cases rb; exact SeqAt.EqAt.int_none _ _
   | _=>cases o
  | str i=>
   obtain ⟨t,rfl⟩:=ra
   cases ry with
   | str j=>obtain ⟨t',rfl⟩:=rb; exact SeqAt.EqAt.str_str _ _ _ _
   | _=>cases o
  | _=>cases o
end
structure Bt (mg:Str->Option Value):Prop where
 len:mg "len" = none
 range:mg "range" = none
 tuple:mg "tuple" = none
 list:mg "list" = none
 sorted:mg "sorted" = none
 all:mg "all" = none
 any:mg "any" = none
 zip:mg "zip" = none
 min:mg "min" = none
 max:mg "max" = none
 sum:mg "sum" = none
 isinst:mg "isinstance" = none
 int:mg "int" = none
 bool:mg "bool" = none
 enum:mg "enumerate" = none
section
variable {X : Cx} {a b c e o : Expr} {es dF : List Expr} {ta tb te to tk : aE} {tr : cI} {tA tB' tc : bT} {pos p2 px : Pos} {st : Stmt} {sts : List Stmt} {t u : aH}
theorem cD (B:Bt X.mg) (ha:QA X [e] tr) (hg:Gl X "len":=by rfl) (he:starEach [e] X.env=(false,eval e X.env) :: starEach [] X.env:=by rfl) (hpl:(backTo pos (starEach [] X.env)).any (·.1)=false:=by rfl):QE X (.Call (.Name "len" p2) [e] [] pos) (aB bU tr):=
 kB (am0.or ap0) av8 hg B.len PySem.boot_len ha (he:=he) (hpl:=hpl)
theorem iA (B:Bt X.mg) (ha:QA X [e] tr) (hg:Gl X "tuple":=by rfl) (he:starEach [e] X.env=(false,eval e X.env) :: starEach [] X.env:=by rfl) (hpl:(backTo pos (starEach [] X.env)).any (·.1)=false:=by rfl):QE X (.Call (.Name "tuple" p2) [e] [] pos) (aB e9 tr):=
 wE am2 av9 hg B.tuple PyProof.Rows.boot_tuple ha (he:=he) (hpl:=hpl)
theorem mV (B:Bt X.mg) (ha:QA X [e] tr) (hg:Gl X "list":=by rfl) (he:starEach [e] X.env=(false,eval e X.env) :: starEach [] X.env:=by rfl) (hpl:(backTo pos (starEach [] X.env)).any (·.1)=false:=by rfl):QE X (.Call (.Name "list" p2) [e] [] pos) (aB jY tr):=
 wE am1 aw0 hg B.list PyProof.Rows.boot_list ha (he:=he) (hpl:=hpl)
theorem az7 (B:Bt X.mg) (hc:X.calm=true) (ha:QA X [e] tr) (hg:Gl X "all":=by rfl) (he:starEach [e] X.env=(false,eval e X.env) :: starEach [] X.env:=by rfl) (hpl:(backTo pos (starEach [] X.env)).any (·.1)=false:=by rfl):QE X (.Call (.Name "all" p2) [e] [] pos) (aB vO tr):=
 kB (vB hc) aw1 hg B.all PyProof.Rows.boot_all ha (he:=he) (hpl:=hpl)
theorem wG (B:Bt X.mg) (hc:X.calm=true) (ha:QA X [a,b] tr) (hg:Gl X "min":=by rfl) (he:starEach [a,b] X.env=(false,eval a X.env) :: starEach [b] X.env:=by rfl) (hpl:(backTo pos (starEach [b] X.env)).any (·.1)=false:=by rfl):QE X (.Call (.Name "min" p2) [a,b] [] pos) (aB mK tr):=
 kB (aj5 hc) aw2 hg B.min PyProof.Rows.boot_min ha (he:=he) (hpl:=hpl)
theorem rK (B:Bt X.mg) (hc:X.calm=true) (ha:QA X [a,b] tr) (hg:Gl X "max":=by rfl) (he:starEach [a,b] X.env=(false,eval a X.env) :: starEach [b] X.env:=by rfl) (hpl:(backTo pos (starEach [b] X.env)).any (·.1)=false:=by rfl):QE X (.Call (.Name "max" p2) [a,b] [] pos) (aB l8 tr):=
 kB (aj4 hc) aw3 hg B.max PyProof.Rows.boot_max ha (he:=he) (hpl:=hpl)
theorem mW (ha:QE X a ta):QE X (.UnaryOp .USub a pos) (i7 ta):=bY (ah6 ai5 ha) fun σ H Q' h=>by
 obtain ⟨W,ρ,Q,px,q,k⟩:=h
 refine⟨W,ρ,_,px,q,?_⟩
 rintro v H1 x g s r ⟨i,rfl,q⟩
 cases r
 exact⟨i,rfl,k _ _ _ .fr s (.int _) q⟩
theorem N5 (x:Int):∀ (xs:List Int),o4 (.int x) (xs.map V.int)=decide (x ∈ xs)
 | []=>by simp [o4]
 | y :: r=>by
  have ih:=N5 x r
  unfold o4 at ih ⊢
  rw [bh4,List.any_cons,ih]
  by_cases e:y=x
  ·subst e; simp [hJ]
  ·have:hJ (.int y) (.int x)=false:=by simpa [hJ] using e
   rw [this,Bool.false_or,bl7]
   simp [Ne.symm e]
theorem N6:∀ (xs:List Int),(xs.map V.int).all j7=true
 | []=>rfl
 | _ :: r=>by rw [bh4,bo7,N6 r]; rfl
theorem az8 (neg:Bool):eU X (lD neg) (A9 X.K neg):=by
 rintro W Hs H u v x y g g' Q Q' s n r1 r2 ⟨i,ns,rfl,e,q⟩ k
 cases r1
 obtain ⟨a,us,rfl,hs,r⟩:=r2.seq e
 obtain rfl:=r.ofInts
 refine⟨a,_,rfl,hs,rfl,N6 ns,?_⟩
 have:=k _ _ _ .fr (aD.refl _) (.bl _) q
 rw [N5]
 cases neg <;> exact this
theorem rL (ha:QE X a ta) (hb:QE X b tb) (hm:behindInMarks .In b=false:=by rfl):QT X (.Compare a [.In] [b] pos) (aU (q2 (lD false) ta tb)):=k8 al9 (az8 false) ha hb hm
theorem aJ.kt_ {K:PySem.W.Frag}{M:Addr->Prop}{H:Hp}{v:V}{xs:List PV} (r:aJ K M H v (.kt xs)):∃ a us,v = .ref a/\mE K a us/\Reps K M H us xs:=by
 cases r with
 | kt h r=>exact⟨_,_,rfl,h,r⟩
def wH (K:PySem.W.Frag) (n:Nat) (neg:Bool):R2:=fun v w H Q=>∃ x y,aJ K (fun _=>True) H v x/\aJ K (fun _=>True) H w y/\((∃ xs ys,x = .tup xs/\y = .tup ys) ∨ (∃ xs ys,x = .lst xs/\y = .lst ys) ∨ (∃ xs ys,x = .kt xs/\y = .kt ys))/\eW (n+1) x y=true/\Q (.bl (if neg=true then !cN (n+1) x y else cN (n+1) x y)) H
theorem mX {pins:List (Addr × Obj)}{σ:St}{H:Hp}{s:Shared}{M M':Addr->Prop} (I:a8 X pins σ H s) {n:Nat}{A:Around} (hu:A.units+(n+1) < cLine) {us ws:List V}{xs ys:List PV}{its its2:List Value} (r1:Reps X.K M H us xs) (r2:Reps X.K M' H ws ys) (v1:aK us its) (v2:aK ws its2)
  (ok:((xs.zip ys).all fun p=>eW n p.1 p.2)=true):∀ j (h1:j < its.toArray.size) (h2:j < its2.toArray.size),SeqAt.EqAt A.in1 s its.toArray[j] its2.toArray[j] (cN n (xs.getD j .non) (ys.getD j .non)):=by
 intro j h1 h2
 have l1:=v1.length
 have l2:=v2.length
 have m1:=r1.length
 have m2:=r2.length
 have k1:j < its.length:=by simpa using h1
 have k2:j < its2.length:=by simpa using h2
 have j1:j < us.length:=by omega
 have j2:j < ws.length:=by omega
 have i1:j < xs.length:=by omega
 have i2:j < ys.length:=by omega
 obtain ⟨u,hu',ru⟩:=v1.get (bc2 j1)
 obtain ⟨u2,hu2',ru2⟩:=v2.get (bc2 j2)
 obtain ⟨x,hx,rx⟩:=r1.get (bc2 j1)
 obtain ⟨y,hy,ry⟩:=r2.get (bc2 j2)
 have e1:its.toArray[j]=u:=by
  rw [bc2 k1] at hu'
  simpa using hu'
 have e2:its2.toArray[j]=u2:=by
  rw [bc2 k2] at hu2'
  simpa using hu2'
 have ok':eW n x y=true:=by
  rw [bm0] at ok
  have hz:j < (xs.zip ys).length:=by simp; omega
  have:=ok _ (bn7 hz)
  rw [List.getElem_zip] at this
  rw [bc2 i1] at hx
  rw [bc2 i2] at hy
  cases hx; cases hy
  exact this
 rw [e1,e2]
 have g1:xs.getD j .non=x:=by rw [bd6,hx]; rfl
 have g2:ys.getD j .non=y:=by rw [bd6,hy]; rfl
 rw [g1,g2]
 exact az6 I n (by show A.units+1+n < cLine; omega) rx ry ru ru2 ok'
theorem az9 (n:Nat) (hu:X.A.units+(n+1) < cLine):cF X (compareOp .Eq) (wH X.K n false):=by
 intro pins s σ H v w a b Q I ra rb h
 obtain ⟨x,y,rx,ry,kd,o,q⟩:=h
 have hu0:X.A.units < cLine:=by omega
 rcases kd with ⟨xs,ys,rfl,rfl⟩ | ⟨xs,ys,rfl,rfl⟩ | ⟨xs,ys,rfl,rfl⟩
 ·obtain ⟨p,us,rfl,h1,r1⟩:=rx.sqT
  obtain ⟨p2,ws,rfl,h2,r2⟩:=ry.sqT
  cases ra; cases rb
  obtain ⟨its,v1,p1,_⟩:=I.tuple (aO.of (K:=X.K) h1)
  obtain ⟨its2,v2,p2',_⟩:=I.tuple (aO.of (K:=X.K) h2)
  have l1:=v1.length
  have l2:=v2.length
  have m1:=r1.length
  have m2:=r2.length
  have:=SeqAt.RcAt.tuples p1 p2' hu0 (mX I hu r1 r2 v1 v2 o)
  rw [bb9,bb9,<- l1,<- l2,m1,m2,jH] at this
  exact this _ _ _ _ ⟨.bl _,H,I,rfl,q⟩
 ·obtain ⟨p,us,rfl,_,h1,r1⟩:=rx.sqL
  obtain ⟨p2,ws,rfl,_,h2,r2⟩:=ry.sqL
  cases ra; cases rb
  obtain ⟨its,v1,p1,_⟩:=I.list (aN.of (K:=X.K) h1)
  obtain ⟨its2,v2,p2',_⟩:=I.list (aN.of (K:=X.K) h2)
  have l1:=v1.length
  have l2:=v2.length
  have m1:=r1.length
  have m2:=r2.length
  have q:Q (.bl ((xs.zip ys).all (fun p=>cN n p.1 p.2) && xs.length == ys.length)) H:=q
  by_cases hl:xs.length=ys.length
  ·have:=SeqAt.RcAt.lists p1.isList p2'.isList (by rw [bb9,bb9]; omega) hu0 (mX I hu r1 r2 v1 v2 o)
   have hm:min xs.length ys.length=its.length:=by omega
   rw [bb9,<- hm,jH] at this
   rw [show (xs.length == ys.length)=true by simpa using hl,bq0] at q
   exact this _ _ _ _ ⟨.bl _,H,I,rfl,q⟩
  ·have:=SeqAt.RcAt.lists_lengths (A:=X.A) p1.isList p2'.isList (by rw [bb9,bb9]; simp; omega) hu0
   rw [show (xs.length == ys.length)=false by simpa using hl,bq1] at q
   exact this _ _ _ _ ⟨.bl _,H,I,rfl,q⟩
 ·obtain ⟨p,us,rfl,h1,r1⟩:=rx.kt_
  obtain ⟨p2,ws,rfl,h2,r2⟩:=ry.kt_
  cases ra; cases rb
  obtain ⟨its,v1,p1,_⟩:=I.tuple (.inr h1)
  obtain ⟨its2,v2,p2',_⟩:=I.tuple (.inr h2)
  have l1:=v1.length
  have l2:=v2.length
  have m1:=r1.length
  have m2:=r2.length
  have:=SeqAt.RcAt.tuples p1 p2' hu0 (mX I hu r1 r2 v1 v2 o)
  rw [bb9,bb9,<- l1,<- l2,m1,m2,jH] at this
  exact this _ _ _ _ ⟨.bl _,H,I,rfl,q⟩
theorem aA0 (n:Nat) (hu:X.A.units+(n+1) < cLine):cF X (compareOp .NotEq) (wH X.K n true):=by
 intro pins s σ H v w a b Q I ra rb h
 obtain ⟨x,y,rx,ry,kd,o,q⟩:=h
 have hu0:X.A.units < cLine:=by omega
 rcases kd with ⟨xs,ys,rfl,rfl⟩ | ⟨xs,ys,rfl,rfl⟩ | ⟨xs,ys,rfl,rfl⟩
 ·obtain ⟨p,us,rfl,h1,r1⟩:=rx.sqT
  obtain ⟨p2,ws,rfl,h2,r2⟩:=ry.sqT
  cases ra; cases rb
  obtain ⟨its,v1,p1,_⟩:=I.tuple (aO.of (K:=X.K) h1)
  obtain ⟨its2,v2,p2',_⟩:=I.tuple (aO.of (K:=X.K) h2)
  have l1:=v1.length
  have l2:=v2.length
  have m1:=r1.length
  have m2:=r2.length
  have:=SeqAt.RcNeAt.tuples p1 p2' hu0 (mX I hu r1 r2 v1 v2 o)
  rw [bb9,bb9,<- l1,<- l2,m1,m2,jH] at this
  exact this _ _ _ _ ⟨.bl _,H,I,rfl,q⟩
 ·obtain ⟨p,us,rfl,_,h1,r1⟩:=rx.sqL
  obtain ⟨p2,ws,rfl,_,h2,r2⟩:=ry.sqL
  cases ra; cases rb
  obtain ⟨its,v1,p1,_⟩:=I.list (aN.of (K:=X.K) h1)
  obtain ⟨its2,v2,p2',_⟩:=I.list (aN.of (K:=X.K) h2)
  have l1:=v1.length
  have l2:=v2.length
  have m1:=r1.length
  have m2:=r2.length
  have q:Q (.bl (!((xs.zip ys).all (fun p=>cN n p.1 p.2) && xs.length == ys.length))) H:=q
  by_cases hl:xs.length=ys.length
  ·have:=SeqAt.RcNeAt.lists p1.isList p2'.isList (by rw [bb9,bb9]; omega) hu0 (mX I hu r1 r2 v1 v2 o)
   have hm:min xs.length ys.length=its.length:=by omega
   rw [bb9,<- hm,jH] at this
   rw [show (xs.length == ys.length)=true by simpa using hl,bq0] at q
   exact this _ _ _ _ ⟨.bl _,H,I,rfl,q⟩
  ·have:=SeqAt.RcNeAt.lists_lengths (A:=X.A) p1.isList p2'.isList (by rw [bb9,bb9]; simp; omega) hu0
   rw [show (xs.length == ys.length)=false by simpa using hl,bq1] at q
   exact this _ _ _ _ ⟨.bl _,H,I,rfl,q⟩
 ·obtain ⟨p,us,rfl,h1,r1⟩:=rx.kt_
  obtain ⟨p2,ws,rfl,h2,r2⟩:=ry.kt_
  cases ra; cases rb
  obtain ⟨its,v1,p1,_⟩:=I.tuple (.inr h1)
  obtain ⟨its2,v2,p2',_⟩:=I.tuple (.inr h2)
  have l1:=v1.length
  have l2:=v2.length
  have m1:=r1.length
  have m2:=r2.length
  have:=SeqAt.RcNeAt.tuples p1 p2' hu0 (mX I hu r1 r2 v1 v2 o)
  rw [bb9,bb9,<- l1,<- l2,m1,m2,jH] at this
  exact this _ _ _ _ ⟨.bl _,H,I,rfl,q⟩
theorem N7 {n:Nat}{neg:Bool}:eU X (i8 n neg) (wH X.K n neg):=by
 rintro W Hs H u v x y g g' Q Q' s n r1 r2 ⟨kd,o,q⟩ k
 exact⟨x,y,r1.same (aD.refl _) fun _ _=>trivial,r2.same (aD.refl _) fun _ _=>trivial,kd.elim .inl fun z=>.inr (.inl z),o,k _ _ _ .fr (aD.refl _) (.bl _) q⟩
theorem mY (hu:X.A.units+3 < cLine) (ha:QE X a ta) (hb:QE X b tb):QT X (.Compare a [.NotEq] [b] pos) (aU (q2 (i8 2 true) ta tb)):=k8 (aA0 2 hu) N7 ha hb (fR _)
theorem aA1 (hu:X.A.units+3 < cLine) (ha:QE X a ta) (hb:QE X b tb):QE X (.Compare a [.Eq] [b] pos) (q2 (i8 2 false) ta tb):=rD (az9 2 hu) N7 ha hb (fR _)
end
end PP
namespace PP
open PySem L2 PyProof.Rows
def LO (X:Cx) (t:mQ):TO:=fun σ H Q'=>∃ (W:Addr->Prop) (ρ:bG) (Q:Option Int->Prop),PX X.K X.H₀ W σ ρ H/\t ρ Q/\∀ o H',aD H H'->Q o->Q' o H'
def QO (X:Cx) (e:Option Expr) (t:mQ):Prop:=PO X e (LO X t)
theorem Reps.cut {K:PySem.W.Frag}{M:Addr->Prop}{H:Hp}{us:List V}{xs:List PV} (r:Reps K M H us xs) (lo hi:Option Int):Reps K M H (eG us lo hi) (fO xs lo hi):=by
 unfold eG fO
 rw [r.length]
 exact (r.drop _).take _
section
variable {X : Cx} {a b c e o : Expr} {es dF : List Expr} {ta tb te to tk : aE} {tr : cI} {tA tB' tc : bT} {pos p2 px : Pos} {st : Stmt} {sts : List Stmt} {t u : aH}
theorem wI:QO X none rA:=fun pins s σ H Q I h=>u9 pins s σ H Q I (by
 obtain ⟨W,ρ,Q1,px,q,k⟩:=h
 exact k _ _ (aD.refl _) q)
theorem wJ (h:QE X e te):QO X (some e) (rB te):=fun pins s σ H Q I hq=>uA h pins s σ H Q I (by
 obtain ⟨W,ρ,Q1,px,q,k⟩:=hq
 refine⟨W,ρ,_,px,q,?_⟩
 rintro v H1 x g s r ⟨i,rfl,q⟩
 cases r
 exact⟨i,rfl,k _ _ s q⟩)
theorem wK {lo hi:Option Expr}{tl th:mQ}{sp:Pos} (he:QE X e te) (hl:QO X lo tl) (hh:QO X hi th):QE X (.Subscript e (.Slice lo hi none sp) pos) (rC te tl th):=bY (uB (A7.or J4) he hl hh) fun σ H Q' h=>by
 obtain ⟨W,ρ,Q,px,q,k⟩:=h
 refine⟨W,ρ,_,px,q,fun v H1 x g s1 r1 q1=>⟨W,ρ,_,px.mono s1,q1,fun lo H2 s2 q2=>⟨W,ρ,_,px.mono (s1.trans s2),q2,?_⟩⟩⟩
 rintro hi H3 s3 ⟨xs,e,f,q3⟩
 have S:=(s1.trans s2).trans s3
 have r3:=r1.same (M':=Mg X.H₀ W H g) (s2.trans s3) fun _ z=>z
 cases r3 with
 | tup h r=>
  cases e
  refine .inr ⟨_,_,rfl,aO.of h,fun p hp=>k _ _ _ .fr (S.trans (bB hp _)) (.tup b8 (((r.flat f).cut lo hi).same (bB hp _) fun _ z=>z)) q3,fun ec=>k _ _ _ .fr S (.tup h ?_) q3⟩
  have:=(r.flat (M':=Mg X.H₀ W H .fr) f).cut lo hi
  rw [ec] at this
  exact this
 | lst m h r=>
  cases e
  exact .inl ⟨_,_,rfl,aN.of h,fun p hp=>k _ _ _ .fr (S.trans (bB hp _)) (.lst (S.free hp) b8 (((r.flat f).cut lo hi).same (bB hp _) fun _ z=>z)) q3⟩
 | scr h=>
  cases e
  exact .inl ⟨_,_,rfl,h.sqL,fun p hp=>k _ _ _ .fr (S.trans (bB hp _)) (.lst (S.free hp) b8 (((Reps.intz _).cut lo hi).same (bB hp _) fun _ z=>z)) q3⟩
 | _=>cases e
structure Df (P:Program) (w:World) (K:PySem.W.Frag) (mg:Str->Option Value) (base:Heap) (k:Nat) (x:Str) (ps:List Str) (p:bF):Prop where
 ex:∃ f fd,cW P w K mg base dG k f fd ps (oO K p)/\hG K fd ps []/\PySem.W.keepIn K (.ref f)=true/\mg x=some (.ref f)
theorem b6 {k j:Nat}{x:Str}{ps:List Str}{p:bF} (d:Df X.prog X.w X.K X.mg X.base k x ps p) (hr:c8 j X.A) (ha:QA X (e :: es) tr) (hkj:k<=j:=by decide) (hg:Gl X x:=by rfl) (hdb:(x == ("__debug__" : Str))=false:=by decide)
  (he:starEach (e :: es) X.env=(false,eval e X.env) :: starEach es X.env:=by rfl) (hpl:(backTo pos (starEach es X.env)).any (·.1)=false:=by rfl):QE X (.Call (.Name x p2) (e :: es) [] pos) (aB p tr):=by
 obtain ⟨f,fd,F,b,kp,m⟩:=d.ex
 exact bY (pS F (hr.mono hkj) hg m kp b .nil E5 ha hdb he hpl) fun _ _ _=>aw4
theorem rM {K:PySem.W.Frag}{H:Hp}{N:List Str}{vs:List V}{xs:List PV} (r:Reps K (fun _=>True) H vs xs):PX K H (fun _=>False) (L2.gE N vs) (eY N xs) H:=by
 have lr:=r.length
 have own:∀ {i:Nat}{m:Slot},(eY N xs)[i]? = some (some m)->∃ x,xs[i]? = some x/\m = .sh (flat x) x:=fun {i m} h=>by
  unfold eY at h
  by_cases hi:i < xs.length
  ·rw [bk1 (by simpa using hi),bc9] at h
   rw [bc2 hi] at h ⊢
   cases h
   exact⟨_,rfl,rfl⟩
  ·rw [bk7 (by simpa using hi),List.getElem?_replicate] at h
   split at h <;> cases h
 refine⟨by unfold L2.gE eY; simp [lr],aD.refl _,fun a z=>z.elim,fun i m h=>?_,fun i j x y a h1=>?_⟩
 ·obtain ⟨x,hx,rfl⟩:=own h
  obtain ⟨v,hv,rx⟩:=r.at hx
  refine⟨v,?_,qY (g:=false) (rx.same (aD.refl _) fun _ _ z=>z)⟩
  have hi:i < vs.length:=(bc6.mp hv).1
  unfold L2.gE
  rw [bk1 (by simpa using hi),bc9,hv]; rfl
 ·obtain ⟨x,_,e⟩:=own h1
  cases e
theorem Df.of {P:Program}{w:World}{K:PySem.W.Frag}{mg:Str->Option Value}{base:Heap}{k:Nat}{x:Str}{ps N:List Str}{p:bF}{st:Stmt}{f:Addr}{fd:FuncData} (F:eS K x x st f fd) (m:mg x=some (.ref f)) (S:FnScope N ps (aS st))
  (hb:∀ (kV doc pm:Value) (an:Option Addr) (cdv ct:Value) (us:List Value),us.length=ps.length->bindArgs (PySem.W.fnOf x x (iL st) (dZ st) (aS st) .none kV doc pm an cdv ct) ⟨us,[]⟩=pure (ps.zip us))
  (len:∀ xs Q,p xs Q->xs.length=ps.length)
  (body:∀ (cdv:Value) (A:Around) (outer:List Env) (s:Shared) (H:Hp) (E:XK),c8 k (A.deeper (envOfC x (aS st) s.heap.objs.size f cdv))->
   ∃ t,eZ (dA dG P w K mg base N x (aS st) f cdv A outer s H E).nox (dZ st) t/\∀ xs Q,p xs Q->t { nx:=fun _=>Q .non,rt:=Q } (eY N xs)):Df P w K mg base (k+1) x ps p:=by
 refine⟨f,fd,F.ok S (fun vs H Q E h=>?_) (fun cdv A outer s H vs Q E hr h=>?_),F.binds hb,F.kp,m⟩
 ·obtain ⟨xs,Qp,r,q,_⟩:=h
  rw [r.length]; exact len xs Qp q
 ·obtain ⟨xs,Qp,r,q,k⟩:=h
  obtain ⟨t,ht,hq⟩:=body cdv A outer s H E hr
  refine⟨_,ht,fun _=>False,eY N xs,_,rM r,hq xs Qp q,?_,?_,?_,?_⟩
  ·exact fun W' σ' H' ρ' e px q=>k _ _ _ px.same .non q
  ·exact fun v H' x s r q=>k _ _ _ s r q
  ·exact fun W' σ' H' ρ' e px q=>q
  ·exact fun W' σ' H' ρ' e px q=>q
theorem gO (i:Nat) {x:Str}{tp:Pos}{body:List Stmt}{ti:eJ} (hN:X.N.Nodup) (hi:QI X (.Name x tp) e ti) (hb:eZ X body t) (hx:X.N[i]? = some x:=by rfl) (hl:gY X.env.scope x:=by first | exact Or.inl rfl | exact Or.inr rfl) (hf:X.fn x=true ∨ X.env.scope.names.lookup x=some .local:=by first | exact .inl rfl | exact .inr rfl)
  (hp:PassesOwn (model X.prog X.w) X.A X.env X.xe:=by exact PassesOwn.never) (hc:X.calm=true:=by rfl) (hs:∀ x,foldedSetIterable e X.env x=pure x:=by intro _; rfl):QS X (.For (.Name x tp) e body [] pos) (dU ti (bK i) t):=
 N4 hp hc hi (eR hN hx hl hf) (lB _ i) hb hs
theorem wL (i j:Nat) {x y:Str}{tp xp yp:Pos}{kt:Nat}{body:List Stmt}{ti:eJ} (hN:X.N.Nodup) (hi:QI X (.Tuple [.Name x xp,.Name y yp] kt tp) e ti) (hb:eZ X body t) (hx:X.N[i]? = some x:=by rfl) (hy:X.N[j]? = some y:=by rfl) (hlx:gY X.env.scope x:=by first | exact Or.inl rfl | exact Or.inr rfl) (hly:gY X.env.scope y:=by first | exact Or.inl rfl | exact Or.inr rfl)
  (hfx:X.fn x=true ∨ X.env.scope.names.lookup x=some .local:=by first | exact .inl rfl | exact .inr rfl) (hfy:X.fn y=true ∨ X.env.scope.names.lookup y=some .local:=by first | exact .inl rfl | exact .inr rfl)
  (hp:PassesOwn (model X.prog X.w) X.A X.env X.xe:=by exact PassesOwn.never) (hc:X.calm=true:=by rfl) (hs:∀ x,foldedSetIterable e X.env x=pure x:=by intro _; rfl):QS X (.For (.Tuple [.Name x xp,.Name y yp] kt tp) e body [] pos) (dU ti (i5 i j) t):=
 N4 hp hc hi (m5 hc (g9 (eR hN hx hlx hfx) (g9 (eR hN hy hly hfy) m3))) (qZ _ i j) hb hs
abbrev bH:Value->Shared->Prop:=fun _ _=>False
section
variable {scope : Scope} {N : List Str} {fr : List (Option Nat)} {x y : Str} {tp xp yp : Pos} {kt : Nat} {iter elt : Expr} {ti : eJ}
theorem oW {ifs:List Expr}{tcs:bT} (he:∀ (s:Shared) (H:Hp) (C:Addr) (fp:List Addr),QE (b9 X scope N s H C fp bH) elt te) (hi:∀ (s:Shared) (H:Hp) (C:Addr) (fp:List Addr),jA (b9 X scope N s H C fp bH) ifs (LT (b9 X scope N s H C fp bH) tcs))
  (hN:N.Nodup) (h0:N[0]? = some x) (hl:∀ (s:Shared) (H:Hp) (C:Addr) (fp:List Addr),(b9 X scope N s H C fp bH).env.scope.names.lookup x=some .local) (s:Shared) (H:Hp) :
  kU X scope N (.Name x tp) ifs elt s H (bX 0) (LT (X.frm H) tcs) (LE (X.frm H) te):=
 ⟨fun C fp=>eR (X:=b9 X scope N s H C fp bH) hN h0 (.inl (hl s H C fp)) (.inr (hl s H C fp)),fun C fp=>hi s H C fp,fun C fp=>he s H C fp⟩
theorem rN {Y:Cx}:jA Y [] (LT Y dO):=fun pins s σ H Q I h=>qF pins s σ H Q I (ax4 h)
theorem mZ (hi:QI X (.Name x tp) iter ti) (he:∀ (s:Shared) (H:Hp) (C:Addr) (fp:List Addr),QE (b9 X scope N s H C fp bH) elt te)
  (hc:X.calm=true:=by rfl) (S:cA X scope N fr:=by exact cA.of rfl rfl) (hN:N.Nodup:=by decide +kernel) (h0:N[0]? = some x:=by rfl) (hl:∀ (s:Shared) (H:Hp) (C:Addr) (fp:List Addr),(b9 X scope N s H C fp bH).env.scope.names.lookup x=some .local:=by intro _ _ _ _; rfl) (hf:fr[0]? = some none:=by rfl)
  (hs:∀ x,foldedSetIterable iter X.env x=pure x:=by intro _; rfl):QE X (.ListComp elt [⟨.Name x tp,iter,[],0⟩] scope pos) (cG ti fr (bK 0) dO te):=
 bY (oD (gh:=fun _=>bX 0) (tch:=fun H=>LT (X.frm H) dO) (teh:=fun H=>LE (X.frm H) te) hc S hi (oW he (fun _ _ _ _=>rN) hN h0 hl) hs) fun _ _ _=>jZ (lB _ 0) (fun i e=>by subst e; exact hf)
theorem oX {c:Expr}{tcs:bT} (hi:QI X (.Name x tp) iter ti) (ht:∀ (s:Shared) (H:Hp) (C:Addr) (fp:List Addr),QT (b9 X scope N s H C fp bH) c tcs) (he:∀ (s:Shared) (H:Hp) (C:Addr) (fp:List Addr),QE (b9 X scope N s H C fp bH) elt te)
  (hc:X.calm=true:=by rfl) (S:cA X scope N fr:=by exact cA.of rfl rfl) (hN:N.Nodup:=by decide +kernel) (h0:N[0]? = some x:=by rfl) (hl:∀ (s:Shared) (H:Hp) (C:Addr) (fp:List Addr),(b9 X scope N s H C fp bH).env.scope.names.lookup x=some .local:=by intro _ _ _ _; rfl) (hf:fr[0]? = some none:=by rfl)
  (hs:∀ x,foldedSetIterable iter X.env x=pure x:=by intro _; rfl):QE X (.ListComp elt [⟨.Name x tp,iter,[c],0⟩] scope pos) (cG ti fr (bK 0) tcs te):=
 bY (oD (gh:=fun _=>bX 0) (tch:=fun H=>LT (X.frm H) tcs) (teh:=fun H=>LE (X.frm H) te) hc S hi (oW he (fun s H C fp=>oB (ht s H C fp)) hN h0 hl) hs) fun _ _ _=>jZ (lB _ 0) (fun i e=>by subst e; exact hf)
theorem wM {c:Expr}{tcs:bT}{i:Nat}{z:Str}{zp:Pos} (nd:X.N.Nodup) (hi:QI X (.Name x tp) iter ti) (ht:∀ (s:Shared) (H:Hp) (C:Addr) (fp:List Addr),QT (b9 X scope N s H C fp bH) c tcs) (he:∀ (s:Shared) (H:Hp) (C:Addr) (fp:List Addr),QE (b9 X scope N s H C fp bH) elt te)
  (hz:X.N[i]? = some z:=by rfl) (hzl:X.env.scope.names.lookup z=some .local:=by rfl) (hsw:swapsWith (.ListComp elt [⟨.Name x tp,iter,[c],0⟩] scope p2) (some (.Name z zp)) pos.line X.env=pure true:=by rfl)
  (hc:X.calm=true:=by rfl) (S:cA X scope N fr:=by exact cA.of rfl rfl) (hN:N.Nodup:=by decide +kernel) (h0:N[0]? = some x:=by rfl) (hl:∀ (s:Shared) (H:Hp) (C:Addr) (fp:List Addr),(b9 X scope N s H C fp bH).env.scope.names.lookup x=some .local:=by intro _ _ _ _; rfl) (hf:fr[0]? = some none:=by rfl)
  (hs:∀ x,foldedSetIterable iter X.env x=pure x:=by intro _; rfl):QS X (.Assign [.Name z zp] (.ListComp elt [⟨.Name x tp,iter,[c],0⟩] scope p2) pos) (b5 i (cG ti fr (bK 0) tcs te)):=
 cO (qJ (gh:=fun _=>bX 0) (tch:=fun H=>LT (X.frm H) tcs) (teh:=fun H=>LE (X.frm H) te) hc S hi (oW he (fun s H C fp=>oB (ht s H C fp)) hN h0 hl) nd hz hzl hsw hs) fun D σ H h=>jZ (lB _ 0) (fun i e=>by subst e; exact hf) (qW h)
theorem aA2 {i:Nat}{z:Str}{zp:Pos} (nd:X.N.Nodup) (hi:QI X (.Name x tp) iter ti) (he:∀ (s:Shared) (H:Hp) (C:Addr) (fp:List Addr),QE (b9 X scope N s H C fp bH) elt te)
  (hz:X.N[i]? = some z:=by rfl) (hzl:X.env.scope.names.lookup z=some .local:=by rfl) (hsw:swapsWith (.ListComp elt [⟨.Name x tp,iter,[],0⟩] scope p2) (some (.Name z zp)) pos.line X.env=pure true:=by rfl)
  (hc:X.calm=true:=by rfl) (S:cA X scope N fr:=by exact cA.of rfl rfl) (hN:N.Nodup:=by decide +kernel) (h0:N[0]? = some x:=by rfl) (hl:∀ (s:Shared) (H:Hp) (C:Addr) (fp:List Addr),(b9 X scope N s H C fp bH).env.scope.names.lookup x=some .local:=by intro _ _ _ _; rfl) (hf:fr[0]? = some none:=by rfl)
  (hs:∀ x,foldedSetIterable iter X.env x=pure x:=by intro _; rfl):QS X (.Assign [.Name z zp] (.ListComp elt [⟨.Name x tp,iter,[],0⟩] scope p2) pos) (dI i (cG ti fr (bK 0) dO te)):=
 cO (qJ (gh:=fun _=>bX 0) (tch:=fun H=>LT (X.frm H) dO) (teh:=fun H=>LE (X.frm H) te) hc S hi (oW he (fun _ _ _ _=>rN) hN h0 hl) nd hz hzl hsw hs) fun D σ H h=>jZ (lB _ 0) (fun i e=>by subst e; exact hf) (K5 h)
end
theorem aA3 (i:Nat) {x:Str}{apos cpos xpos:Pos} (he:QE X e te) (hm:M1 X (.Name x xpos) "update" apos e cpos:=by exact⟨rfl,rfl,rfl,rfl⟩) (hN:X.N[i]? = some x:=by rfl) (hv:eD X.env.scope x:=by first | exact Or.inl rfl | exact Or.inr (Or.inl rfl) | exact Or.inr (Or.inr rfl)) (hd:(x == ("__debug__" : Str))=false:=by decide) (hcd:(x == ("__classdict__" : Str))=false:=by decide)
  (hsw:swapsWith (.Call (.Attribute (.Name x xpos) "update" apos) [e] [] cpos) none pos.line X.env=pure false:=by rfl):QS X (.Expr (.Call (.Attribute (.Name x xpos) "update" apos) [e] [] cpos) pos) (vX i te):=
 cO (j3 (at0 (fG hN hv hd hcd) he hm) hsw) fun _ _ _=>ay3
theorem wN {i:Nat}{x:Str}{xpos tpos:Pos} (hk:QE X a tk) (he:QE X e te) (hN:X.N[i]? = some x:=by rfl) (hv:eD X.env.scope x:=by first | exact Or.inl rfl | exact Or.inr (Or.inl rfl) | exact Or.inr (Or.inr rfl)) (hd:(x == ("__debug__" : Str))=false:=by decide) (hcd:(x == ("__classdict__" : Str))=false:=by decide)
  (hp:∀ (tx:TE) (tg:TE),PE X (.Name x xpos) tx->PE X a tg->PG X (.Subscript (.Name x xpos) a tpos) (tR tx tg uF):=by intro _ _ h1 h2; exact ag5 h1 h2 al4)
  (hs:swapsWithSole [.Subscript (.Name x xpos) a tpos] e pos.line X.env=pure false:=by rfl) (hw:swappedStores [.Subscript (.Name x xpos) a tpos] e X.env=pure none:=by rfl) :
  QS X (.Assign [.Subscript (.Name x xpos) a tpos] e pos) (oN i tk te):=cO (yS he (hp _ _ (fG hN hv hd hcd) hk) hs hw) fun _ _ _=>av5
end
end PP
namespace SO
open PySem PyProof.Rows
variable {rk : Keyed → Int}
section
variable {κ : SortKind} {a0 : Array Keyed} {pd : Array (Nat × Nat × Nat)} {st : SortSt} {prog : Program} {w : World} {A : Around} {E : Value → Shared → Prop} {s : Shared} {Ok : Keyed → Prop}
abbrev DS:=Option (Option Nat) × Nat × Nat
end
abbrev LS:=Option (Array Keyed) × Array Keyed × Nat × Nat × Nat × Nat × Nat
abbrev LO:=Option (Array Keyed) × Array Keyed × Nat × Nat × Nat
variable {rk : Keyed → Int} {xs ys o : List Keyed} {i j : Nat}
variable {rk : Keyed → Int} {xs ys o : List Keyed} {i j : Nat}
variable {rk : Keyed → Int}
def Ch:Nat->List (Nat × Nat)->Nat->Prop
 | a,[],b=>a=b
 | a,(p,n) :: r,b=>p=a/\0 < n/\Ch (a+n) r b
variable {rk : Keyed → Int} {κ : SortKind} {a0 : Array Keyed} {pd : Array (Nat × Nat × Nat)} {st : SortSt} {prog : Program} {w : World} {A : Around} {E : Value → Shared → Prop} {s : Shared} {Ok : Keyed → Prop}
end SO
namespace L2
open PySem PySem.Spec PyProof.Rows
theorem bZ.at {P:Program}{w:World}{H:Hp}{h:Heap}{a:Addr}{o:HO} (x:bZ P w H h a o):∃ ob,h.get? a=some ob:=by
 cases o with
 | lst xs=>obtain ⟨_,_,_,_,e⟩:=x; exact⟨_,e⟩
 | tup xs=>obtain ⟨_,_,_,_,e,_⟩:=x; exact⟨_,e⟩
 | dK kvs=>obtain ⟨_,_,_,_,_,_,_,e,_⟩:=x; exact⟨_,e⟩
 | dT kvs=>obtain ⟨_,_,_,_,_,_,_,e,_⟩:=x; exact⟨_,e⟩
 | set S n=>obtain ⟨_,_,_,_,e,_⟩:=x; exact⟨_,e⟩
 | ins C dx fs=>obtain ⟨_,_,_,e,_⟩:=x; exact⟨_,e⟩
 | own y=>exact x
 | xd fs=>obtain ⟨_,⟨_,_,_,e,_⟩,_⟩:=x; exact⟨_,e⟩
 | rng lo hi=>obtain ⟨_,_,_,e⟩:=x; exact⟨_,e⟩
 | frz ob u=>obtain ⟨e,_⟩:=x; exact⟨_,e⟩
 | tbl ps=>exact⟨_,x⟩
 | met f y=>exact⟨_,x⟩
 | ext φ=>exact x.2.1
structure lG (P:Program) (w:World) (outer:List Env) (H:Hp) (s:Shared) (H':Hp) (B:Heap) (a C:Addr) (s':Shared):Prop where
 os:s'.os=s.os
 bare:AllBare s'.gens
 un:Un (bO outer) [] H H' s.heap s'.heap
 hok:bW P w H' s'.heap
 fly:∃ a0,Heap.FlyingW B outer a (.ref C) a0 s'.heap
 b0:∀ b o,s.heap.get? b=some o->b ∉ bO outer->∃ o',B.get? b=some o'
 b1:∀ b o,s.heap.get? b=some o->H b=none->b ∉ bO outer->B.get? b=some o
 b2:∀ b u o,H' b=some u->s'.heap.get? b=some o->B.get? b=some o
def eB (P:Program) (w:World):gD:=fun outer H s E e s'=>∃ (H':Hp) (B:Heap) (a C:Addr),e = .ref a/\lG P w outer H s H' B a C s'/\E (.ref C) none H'
section
variable {P : Program} {w : World} {outer : List Env} {H H' : Hp} {s s' : Shared} {B h2 : Heap} {a C : Addr}
theorem lG.fresh (f:lG P w outer H s H' B a C s'):H' a=none:=by
 cases q:H' a with
 | none=>rfl
 | some u=>
  obtain ⟨ob,e⟩:=(f.hok a u q).at
  have z:=f.b2 a u ob q e
  obtain ⟨_,_,n,_⟩:=f.fly
  rw [n] at z; cases z
theorem lG.hok2 (f:lG P w outer H s H' B a C s') (k:B.StaysIn h2):bW P w H' h2:=fun b u e=>
 (f.hok b u e).stay (fun c v hc q=>by
  rcases hc with z | z
  ·subst z; exact k _ _ (f.b2 _ _ _ e q)
  ·exact k _ _ (f.b2 _ _ _ z q)) (fun _ q=>q) fun _ _ q=>q
end
section
variable {P : Program} {w : World} {K : PySem.W.Frag} {mg : Str → Option Value} {base : Heap} {N : List Str} {qual : Str} {scope : Scope} {f : Addr} {cd : Value} {A : Around} {outer : List Env} {s₀ : Shared} {H₀ : Hp} {E₀ E₁ : XK}
theorem rO {pins:List (Addr × Obj)}{σ:St}{H:Hp}{s:Shared} (I:a8 (dA (eB P w) P w K mg base N qual scope f cd A outer s₀ H₀ E₀) pins σ H s) {b:Addr}{o:Obj} (e:s₀.heap.get? b=some o) (n:b ∉ bO outer) :
  b ∉ bO (envOfC qual scope s₀.heap.objs.size f cd :: outer):=fun z=>by
 rcases bc5.mp (I.stkSub b z) with y | y
 ·have l:=bd3 e
  have y:b=s₀.heap.objs.size:=y
  exact absurd l (by rw [y]; exact bh7 _)
 ·exact n y
theorem aA4 (hE:∀ c d H',E₁ c d H'->E₀ c d H'):nX (eB P w) (dA (eB P w) P w K mg base N qual scope f cd A outer s₀ H₀ E₀) E₁:=by
 intro pins σ H s e s' I hx
 obtain ⟨H',B,a,C,e1,fl,q⟩:=hx
 subst e1
 have I':=I.call' fl.os fl.un fl.hok fl.bare (ch:=[]) (fun b z=>absurd z (by simp))
 obtain ⟨a0,fly⟩:=fl.fly
 refine wpAny_leaves_onW I.ok.frames rfl fly fun h' fly' up=>?_
 have slot:∀ b o,s₀.heap.get? b=some o->b ∈ bO outer->∃ sl,h'.get? b=some { o with slots:=sl }:=fun b o e hb=>by
  obtain ⟨sl,e1⟩:=I'.base.slot b o e (I.ok.frf b hb) hb (fun z=>nomatch z)
  obtain ⟨_,o2,e2,nf⟩:=I.ok.funs.mem hb
  rw [show (dA (eB P w) P w K mg base N qual scope f cd A outer s₀ H₀ E₀).s₀=s₀ from rfl,e] at e2
  cases e2
  obtain ⟨sl',e3⟩:=up b _ e1 nf
  exact⟨sl',e3⟩
 have old:∀ b o,s₀.heap.get? b=some o->H₀ b=none->b ∉ bO outer->B.get? b=some o:=fun b o e n hb=>
  fl.b1 b o (I.base.keep b o e n hb (fun z=>nomatch z)) (I.base.free b o e n (fun z=>nomatch z)) (rO I e hb)
 have old0:∀ b o,s₀.heap.get? b=some o->b ∉ bO outer->∃ o',B.get? b=some o':=fun b o e hb=>by
  obtain ⟨o1,e1⟩:=I.base.there b o e (fun z=>nomatch z)
  exact fl.b0 b o1 e1 (rO I e hb)
 refine⟨H',B,a,C,rfl,⟨I'.os,I'.bare,⟨fun b o e n hb _=>fly'.1 _ _ (old b o e n hb),fun b o e n hb _=>slot b o e hb,fun b o e n hx=>I'.base.free b o e n hx,fun b o e _=>?_,I'.base.tups,I'.base.frzs,I'.base.tbls⟩,fl.hok2 fly'.1,⟨a0,fly'⟩,old0,old,fun b u o e h=>?_⟩,hE _ _ _ q⟩
 ·by_cases hb:b ∈ bO outer
  ·obtain ⟨sl,e1⟩:=slot b o e hb
   exact⟨_,e1⟩
  ·obtain ⟨o',e1⟩:=old0 b o e hb
   exact⟨o',fly'.1 _ _ e1⟩
 ·obtain ⟨ob,e1⟩:=(fl.hok b u e).at
  have e2:=fl.b2 b u ob e e1
  have e3:=fly'.1 _ _ e2
  have h:h'.get? b=some o:=h
  rw [h] at e3; cases e3; exact e2
theorem aA5 {pins:List (Addr × Obj)}{σ:St}{H:Hp}{s:Shared}{h':Heap}{e C:Addr}{args:List Value} (I:a8 (dA (eB P w) P w K mg base N qual scope f cd A outer s₀ H₀ E₀) pins σ H s) (mx:Heap.MadeExcOf s.heap h' e (.ref C) args) (q:E₀ (.ref C) none H) :
  (dA (eB P w) P w K mg base N qual scope f cd A outer s₀ H₀ E₀).xe (.ref e) { s with heap:=h' }:=by
 have tr:∀ b u,H b=some u->b ∉ bO (envOfC qual scope s₀.heap.objs.size f cd :: outer):=fun b u z n=>by
  rw [I.stkFree b n] at z; cases z
 have inB:∀ b o,s.heap.get? b=some o->b ∉ bO (envOfC qual scope s₀.heap.objs.size f cd :: outer)->(PySem.W.hideAll s.heap (bO (envOfC qual scope s₀.heap.objs.size f cd :: outer))).get? b=some o:=fun b o z n=>PySem.W.hideAll_get _ z n
 refine wpAny_leaves_madeW (base:=PySem.W.hideAll s.heap (bO (envOfC qual scope s₀.heap.objs.size f cd :: outer))) I.ok.frames rfl (fun b o z=>PySem.W.of_hideAll _ z) (PySem.W.funFrames_hide I.stack fun env he b hb=>List.mem_filterMap.mpr ⟨env,he,hb⟩) mx fun h'' t fly _ _ up=>?_
 have slot:∀ b o,s₀.heap.get? b=some o->b ∈ bO outer->∃ sl,h''.get? b=some { o with slots:=sl }:=fun b o e hb=>by
  obtain ⟨sl,e1⟩:=I.base.slot b o e (I.ok.frf b hb) hb (fun z=>nomatch z)
  obtain ⟨_,o2,e2,nf⟩:=I.ok.funs.mem hb
  rw [show (dA (eB P w) P w K mg base N qual scope f cd A outer s₀ H₀ E₀).s₀=s₀ from rfl,e] at e2
  cases e2
  obtain ⟨sl',e3⟩:=up b _ (mx.keeps _ _ e1) nf
  exact⟨sl',e3⟩
 have old:∀ b o,s₀.heap.get? b=some o->H₀ b=none->b ∉ bO outer->(PySem.W.hideAll s.heap (bO (envOfC qual scope s₀.heap.objs.size f cd :: outer))).get? b=some o:=fun b o e n hb=>
  inB b o (I.base.keep b o e n hb (fun z=>nomatch z)) (rO I e hb)
 have old0:∀ b o,s₀.heap.get? b=some o->b ∉ bO outer->∃ o',(PySem.W.hideAll s.heap (bO (envOfC qual scope s₀.heap.objs.size f cd :: outer))).get? b=some o':=fun b o e hb=>by
  obtain ⟨o1,e1⟩:=I.base.there b o e (fun z=>nomatch z)
  exact⟨o1,inB b o1 e1 (rO I e hb)⟩
 refine⟨H,_,e,C,rfl,⟨I.os,I.bare,⟨fun b o e n hb _=>fly.1 _ _ (old b o e n hb),fun b o e n hb _=>slot b o e hb,fun b o e n hx=>I.base.free b o e n hx,fun b o e _=>?_,I.base.tups,I.base.frzs,I.base.tbls⟩,fun b u z=>?_,⟨_,fly⟩,old0,old,fun b u o z h=>?_⟩,q⟩
 ·by_cases hb:b ∈ bO outer
  ·obtain ⟨sl,e1⟩:=slot b o e hb
   exact⟨_,e1⟩
  ·obtain ⟨o',e1⟩:=old0 b o e hb
   exact⟨o',fly.1 _ _ e1⟩
 ·refine (I.hok b u z).stay (fun c v hc y=>?_) (fun _ y=>y) fun _ _ y=>y
  rcases hc with z' | z'
  ·subst z'; exact fly.1 _ _ (inB _ _ y (tr _ _ z))
  ·exact fly.1 _ _ (inB _ _ y (tr _ _ z'))
 ·obtain ⟨ob,e1⟩:=(I.hok b u z).at
  have e2:=inB b ob e1 (tr b u z)
  have e3:=fly.1 _ _ e2
  have h:h''.get? b=some o:=h
  rw [h] at e3; cases e3; exact e2
end
structure nA (X:Cx) (E:XK):Prop where
 pass:nX (eB X.prog X.w) X E
 made:∀ (pins:List (Addr × Obj)) (σ:St) (H:Hp) (s:Shared) (h':Heap) (e C:Addr) (args:List Value),a8 X pins σ H s->Heap.MadeExcOf s.heap h' e (.ref C) args->E (.ref C) none H->X.xe (.ref e) { s with heap:=h' }
 own:PassesOwn (model X.prog X.w) X.A X.env X.xe
theorem aA6 {P:Program}{w:World}{K:PySem.W.Frag}{mg:Str->Option Value}{base:Heap}{N:List Str}{qual:Str}{scope:Scope}{f:Addr}{cd:Value}{A:Around}{outer:List Env}{s₀:Shared}{H₀:Hp}{E₀ E₁:XK} (hE:∀ c d H',E₁ c d H'->E₀ c d H') :
  nA (dA (eB P w) P w K mg base N qual scope f cd A outer s₀ H₀ E₀) E₁:=
 ⟨aA4 hE,fun _ _ _ _ _ _ _ _ I mx q=>aA5 I mx (hE _ _ _ q),PassesOwn.leaving⟩
def N8 (E:XK) (C:Addr) (t:TA):TS:=fun _ σ H=>t σ H fun vs H1=>vs.length<=sizeLine/\E (.ref C) none H1
theorem aA7 {X:Cx}{E:XK}{x:Str}{C:Addr}{bm:List Value}{B newId initId:String}{np cpos pos:Pos}{e:Expr}{es:List Expr}{t:TA} (hX:nA X E) (hc:X.calm=true) (O:OwnCls x C bm newId X.mg X.base) (FB:ExcBaseFacts B newId initId bm) (ha:PA X (e :: es) t) (hg:Gl X x)
  (hd:(x == ("__debug__" : Str))=false:=by decide) (he:starEach (e :: es) X.env=(false,eval e X.env) :: starEach es X.env:=by rfl) (hpl:(backTo cpos (starEach es X.env)).any (·.1)=false:=by rfl) :
  PS X (.Raise (some (.Call (.Name x np) (e :: es) [] cpos)) none pos) (N8 E C t):=by
 intro pins s σ H D I h
 obtain ⟨tl,Na,nm,qn,bs,hx,sn,sub,ab,col,dd,k0,k1,k2,k3,k5,mN,hC,hN,hni,T⟩:=O.obj
 refine wpAny_Raise_call_subT (nm:=nm) (q:=qn) (N:=Na) (bs:=bs) (bm:=tl) (hdct:=hx) (sn:=sn) (sub:=sub) (ab:=ab) (col:=col) (dd:=dd) (k0:=k0) (k1:=k1) (k2:=k2) (k3:=k3) (k5:=k5) FB (C:=C) (mN:=mN) (T.hasType FB.hasBase) (I.ok.hd hc) (by rw [he]; show (false || (backTo cpos (starEach es X.env)).any (·.1))=false; rw [hpl]; rfl) hni (nP I hg O.bound ⟨rfl,?_⟩ hd)
 have h1:=ha cpos pins s σ H _ I h
 rw [he] at h1 ⊢
 refine Calls.evalArgs_plain (bj2 h1 (fun us s2 h2=>?_) fun _ _ y=>y)
 obtain ⟨vs,H2,I2,r,hl,q⟩:=h2
 have r:aK vs us:=r
 exact⟨rfl,by show us.length<=sizeLine; rw [<- r.length]; exact hl,I2.bk _ _ hC,hN.keeps I2.bk,T.keeps I2.bk,fun h' e' mx=>hX.made pins σ H2 s2 h' e' C _ I2 mx q⟩
theorem eS.okX {P:Program}{w:World}{K:PySem.W.Frag}{mg:Str->Option Value}{base:Heap}{x qual:Str}{st:Stmt}{f:Addr}{fd:FuncData}{N ps:List Str}{k:Nat}{sp:Sp} (F:eS K x qual st f fd) (S:FnScope N ps (aS st)) (len:∀ vs H Q E,sp vs H Q E->vs.length=ps.length)
  (hbody:∀ (cdv:Value) (A:Around) (outer:List Env) (s:Shared) (H:Hp) (vs:List V) (Q:VK) (E:XK),c8 k (A.deeper (envOfC qual (aS st) s.heap.objs.size f cdv))->sp vs H Q E->
   ∃ t,cY (dA (eB P w) P w K mg base N qual (aS st) f cdv A outer s H E) (dZ st) t/\t { nx:=fun _ H'=>Q .non H',rt:=Q } (gE N vs) H):cW P w K mg base (eB P w) (k+1) f fd ps sp:=by
 obtain ⟨oc,od,kV,doc,pm,an,cdv,ct,osl,rfl,lk,hcd⟩:=F.ex
 exact zT lk hcd S len fun A outer s H vs Q E hr hsp=>hbody cdv A outer s H vs Q E hr hsp
section
variable {X : Cx} {pins : List (Addr × Obj)} {σ : St} {H H1 H' : Hp} {s s1 s' : Shared} {B h2 : Heap} {a C : Addr}
theorem N9 {oe:Obj} (I:a8 X pins σ H1 s1) (fl:lG X.prog X.w X.stack H1 s1 H' B a C s') (st:B.StaysIn h2) (up:s'.heap.UpToSlots h2) (he:h2.get? a=some oe) :
  a8 X pins σ (upd H' a (.frz oe (.own a))) { s' with heap:=h2 }:=by
 obtain ⟨a0,fly⟩:=fl.fly
 have na:B.get? a=none:=fly.2.1
 have nf:a ∉ bO X.stack:=fun z=>by
  obtain ⟨_,o,e,d⟩:=fly.2.2.1.mem z
  obtain ⟨o2,vs,e2,_,d2,_⟩:=fly.first
  rw [e] at e2; cases e2
  exact d vs d2
 have nb:∀ b o,s1.heap.get? b=some o->b ≠ a:=fun b o e z=>by
  subst z
  obtain ⟨o',e'⟩:=fl.b0 _ o e nf
  rw [na] at e'; cases e'
 have nt:∀ b u,H' b=some u->b ≠ a:=fun b u e z=>by
  subst z; rw [fl.fresh] at e; cases e
 have off:∀ b,b ≠ X.env.locals->b ∉ X.fs->b ∉ bO X.stack:=fun b n1 n2 z=>(bc5.mp (I.stkSub b z)).elim n1 n2
 have slot:∀ b o,s1.heap.get? b=some o->b ∈ bO X.stack->∃ sl,h2.get? b=some { o with slots:=sl }:=fun b o e hb=>by
  obtain ⟨sl,e1⟩:=fl.un.any e (I.stkFree b hb) (fun z=>nomatch z)
  obtain ⟨_,o2,e2,d⟩:=I.stack.mem hb
  rw [e] at e2; cases e2
  obtain ⟨sl',e3⟩:=up b _ e1 d
  exact⟨sl',e3⟩
 have ns:∀ m,s1.heap.Ns X.env.locals m->h2.Ns X.env.locals m:=fun m hm=>by
  obtain ⟨o,es,ep,e,r⟩:=hm
  obtain ⟨sl,e1⟩:=fl.un.any e I.free (fun z=>nomatch z)
  exact up.ns ⟨_,es,ep,e1,r⟩
 have hok:bW X.prog X.w (upd H' a (.frz oe (.own a))) h2:=fun b u e=>by
  by_cases hb:b=a
  ·subst hb; rw [b8] at e; cases e; exact⟨he,_,he⟩
  ·rw [aL hb] at e
   exact (fl.hok2 st b u e).stay (fun _ _ _ q=>q) (fun c q=>by rw [aL (nt c _ q)]; exact q) fun c xs q=>by rw [aL (nt c _ q)]; exact q
 have bare:=fl.bare
 have un:=fl.un
 have b0:=fl.b0
 have b1:=fl.b1
 have os:=fl.os
 clear fl fly up
 obtain ⟨hh,g,d,t,os'⟩:=s'
 obtain rfl:os'=s1.os:=os
 show a8 X pins σ _ { s1 with heap:=h2,gens:=g,drawn:=d,toks:=t }
 refine I.step (h':=h2) (g':=g) (d':=d) (t':=t) (ch:=[]) (fun _ z=>nomatch z) (fun b o n1 n2 _ e n=>st _ _ (b1 b o e n (off b n1 n2))) (fun b o n1 hb _ e n=>?_) (fun b o _ e n=>by rw [aL (nb b o e)]; exact un.free b o e n (fun z=>nomatch z)) (fun b o _ e=>?_)
  (fun b xs q=>by rw [aL (nt b _ (un.tups b xs q))]; exact un.tups b xs q) (fun b o u q=>by rw [aL (nt b _ (un.frzs b o u q))]; exact un.frzs b o u q) (fun b ps q=>by
   obtain ⟨more,q'⟩:=un.tbls b ps q
   exact⟨more,by rw [aL (nt b _ q')]; exact q'⟩) ns hok bare
 ·by_cases hs:b ∈ bO X.stack
  ·exact slot b o e hs
  ·exact⟨o.slots,st _ _ (b1 b o e n hs)⟩
 ·by_cases hb:b ∈ bO X.stack
  ·obtain ⟨sl,e1⟩:=slot b o e hb
   exact⟨_,e1⟩
  ·obtain ⟨o',e1⟩:=b0 b o e hb
   exact⟨o',st _ _ e1⟩
abbrev Cx.suite (X:Cx) (a:Addr):Cx:={ X with A:=X.A.mark (some (.ref a)),calm:=false,xe:=fun _ _=>False }
theorem Cx.Ok.suite {X:Cx} (ok:X.Ok) (a:Addr):(X.suite a).Ok:=
 ⟨ok.mod,ok.kind,ok.glob,ok.blt,ok.above,ok.inj,ok.has,ok.cab,fun z=>Bool.noConfusion z,ok.frames,ok.stk,ok.exf,ok.bs,ok.bsz,ok.noex,ok.exfs,ok.funs,ok.frf⟩
theorem a8.suite (I:a8 X pins σ H s) (a:Addr):a8 (X.suite a) pins σ H s:=⟨I.ok.suite a,I.os,I.bare,I.base,I.loc,I.cell,I.free,I.freeC,I.pin,I.hok,I.len⟩
theorem a8.unsuite (I:a8 (X.suite a) pins σ H s) (ok:X.Ok):a8 X pins σ H s:=⟨ok,I.os,I.bare,I.base,I.loc,I.cell,I.free,I.freeC,I.pin,I.hok,I.len⟩
theorem rP {M:Model}{A:Around}{E:Value->Shared->Prop}{i:Nat}{x:Str}{pos:Pos}{Q:Unit->Shared->Prop} (I:a8 X pins σ H s) (hN:X.N.Nodup) (hi:X.N[i]? = some x) (hk:X.env.scope.names.lookup x=some .local)
  (h:∀ s',a8 X pins (σ.set i none) H s'->Q () s'):wpAny M A (do bindName X.env x .none; unbindBehindTheSuite X.env x pos) Q E s:=by
 obtain ⟨m,hn,hl⟩:=id I.loc
 obtain ⟨oL,_,_,hoL,_⟩:=id hn
 have ab:∀ b o,X.s₀.heap.get? b=some o->b ≠ X.env.locals:=fun b o e=>bf4 (bd5 (bd3 e) I.ok.above)
 refine wpAny_nameGoes_keeps hk hn (by rw [I.ok.kind]; rfl) fun h' v hn' hs=>?_
 refine h _ ⟨I.ok,I.os,I.bare,⟨fun b o e n hb hx=>(hs.2 b (ab b o e)).trans (I.base.keep b o e n hb hx),fun b o e n hb hx=>?_,I.base.free,fun b o e hx=>?_,I.base.tups,I.base.frzs,I.base.tbls⟩,⟨_,hn',fun j y v' e1 e2 e3=>?_⟩,fun y c e=>?_,I.free,I.freeC,fun p hp=>?_,fun b u e=>?_,by simpa using I.len⟩
 ·obtain ⟨sl,e1⟩:=I.base.slot b o e n hb hx
  exact⟨sl,(hs.2 b (ab b o e)).trans e1⟩
 ·obtain ⟨o',e1⟩:=I.base.there b o e hx
  exact⟨o',(hs.2 b (ab b o e)).trans e1⟩
 ·by_cases hj:j=i
  ·subst hj
   have hjl:j < σ.length:=by rw [I.len]; exact (bc6.mp hi).1
   rw [bg6 hjl] at e2
   cases e2
  ·rw [bd7 (Ne.symm hj)] at e2
   obtain ⟨u',r',q⟩:=hl j y v' e1 e2 e3
   refine⟨u',r',?_⟩
   rcases q with ⟨k,e⟩ | ⟨k,c,e,z⟩
   ·have ny:y ≠ x:=fun z=>hj (tM hN e1 (z ▸ hi))
    exact .inl ⟨k,by simp [ny,e]⟩
   ·exact .inr ⟨k,c,e,z.sameBut hs (I.cne y c e)⟩
 ·obtain ⟨w',z⟩:=I.cell y c e
  exact⟨w',z.sameBut hs (I.cne y c e)⟩
 ·obtain ⟨e,n,ne,nf,d⟩:=I.pin p hp
  exact⟨(hs.2 p.1 ne).trans e,n,ne,nf,d⟩
 ·refine (I.hok b u e).stay (fun c v hc q=>(hs.2 c fun z=>?_).trans q) (fun _ q=>q) fun _ _ q=>q
  subst z
  rcases hc with z | z
  ·subst z; rw [I.free] at e; cases e
  ·rw [I.free] at z; cases z
theorem aA8 {M:Model}{A:Around}{E:Value->Shared->Prop}{K:PySem.W.Frag}{e C D:Addr}{oe:Obj}{Q:Bool->Shared->Prop} (k:K.In s.heap) (he:s.heap.get? e=some oe) (hc:oe.cls = .ref C) (h1:(PySem.W.clsIn K D).isSome=true) (h2:PySem.W.typeIn K (.ref D)=some (.type "type"))
  (h3:PySem.W.subIn K (.ref D) (.type "BaseException")=some true) (h4:PySem.W.subIn K (.ref C) (.ref D)=some true) (hq:Q true s):wpAny M A (excMatches (.ref e) (.ref D)) Q E s:=by
 obtain ⟨h,g,d,t,os⟩:=s
 have k:K.In h:=k
 have he:h.get? e=some oe:=he
 have l1:PySem.W.Looks M h (isType (.ref D)) true:=by
  unfold PySem.W.clsIn at h1
  split at h1
  ·rename_i c' d' cd' sl' ho
   intro A' Q' E' s' kk q
   unfold isType loadHead
   exact bb7 (wpAny_loadPart (kk _ _ (k _ _ ho)) (bc3 q))
  ·cases h1
 have l2:PySem.W.Looks M h (typeOf (.ref D)) (.type "type"):=PySem.W.looks_typeIn k h2
 have l3:PySem.W.Looks M h (isSubtype (.ref D) (.type "BaseException")) true:=PySem.W.looks_subIn k h3
 have l4:PySem.W.Looks M h (isSubtype (.ref C) (.ref D)) true:=PySem.W.looks_subIn k h4
 have l5:PySem.W.Looks M h (typeOf (.ref e)) (.ref C):=hc ▸ (PySem.W.Looks.ld he).andThen .now
 have l6:PySem.W.Looks M h (isInstance (.ref D) (.type "tuple")) false:=l2.andThen (PySem.W.Looks.of_pure tc_notTuple)
 have l7:PySem.W.Looks M h (isExcClass (.ref D)) true:=by
  unfold isExcClass
  exact l1.andThen (by simpa using l3)
 have f:=tc_notTuple
 unfold excMatches
 repeat (first | exact hq | (with_reducible refine l2.at ?_) | (with_reducible refine l7.at ?_) | (with_reducible refine l1.at ?_) | (with_reducible refine l3.at ?_) | (with_reducible refine l5.at ?_) | (with_reducible refine l4.at ?_) | wp_step)
end
def wP (D:c7) (i:Nat):c7:={ nx:=fun σ H=>D.nx (σ.set i none) H,rt:=D.rt,bk:=fun σ H=>D.bk (σ.set i none) H,ct:=fun σ H=>D.ct (σ.set i none) H }
section
variable {X : Cx} {pins : List (Addr × Obj)} {σ : St} {H H1 H' : Hp} {s s1 s' : Shared} {B : Heap} {a C Ch : Addr} {i : Nat} {x n : Str} {np pos hpos : Pos} {b₀ : Stmt} {suite : List Stmt} {ts : TS} {D : c7} {dF : List ExceptHandler}
structure wQ (K:PySem.W.Frag) (Ch:Addr):Prop where
 c1:(PySem.W.clsIn K Ch).isSome=true
 c2:PySem.W.typeIn K (.ref Ch)=some (.type "type")
 c3:PySem.W.subIn K (.ref Ch) (.type "BaseException")=some true
theorem aA9 (I:a8 X pins σ H1 s1) (fl:lG X.prog X.w X.stack H1 s1 H' B a C s') (hstk:X.stack=X.env :: X.outer/\X.env.frame=some X.env.locals) (hg:Gl X x) (hm:X.mg x=some (.ref Ch)) (ct:wQ X.K Ch) (sub:PySem.W.subIn X.K (.ref C) (.ref Ch)=some true)
  (hN:X.N.Nodup) (hi:X.N[i]? = some n) (hl:X.env.scope.names.lookup n=some .local) (hs:cY (X.suite a) (b₀ :: suite) ts) (q:∀ oe:Obj,oe.cls = .ref C->ts (wP D i) (σ.set i (some (.ref a))) (upd H' a (.frz oe (.own a)))) (hd:(x == ("__debug__" : Str))=false) :
  wpAny (model X.prog X.w) X.A (noteFrame (.ref a) X.env) (fun _ s₂=>wpAny (model X.prog X.w) X.A (setFlight (.ref a) none) (fun _ s₃=>wpAny (model X.prog X.w) X.A (handleBy (.ref a) X.env (.ExceptHandler (some (.Name x np)) (some n) (b₀ :: suite) hpos :: dF)) (SP X pins D) X.xe s₃) X.xe s₂) X.xe s':=by
 obtain ⟨a0,fly⟩:=fl.fly
 rw [hstk.1] at fly
 refine wpAny_looks_onW (outer:=X.outer) (L:=X.env.locals) (by rw [I.ok.frames,hstk.1]) hstk.2 fly fun h4 held up4=>wpAny_landsW held fun h5 fly5 up5=>?_
 obtain ⟨o5,v5,e5,c5,_⟩:=fly5.first
 have I5:=N9 I fl fly5.1 (up4.trans up5) e5
 refine wpAny_handleBy_cons (codeAny_handlers_test (nP (I5.suite a) hg hm ?_ hd)) (by intro z; cases z)
 refine aA8 I5.kIn e5 c5 ct.c1 ct.c2 ct.c3 sub ?_
 show codeAny (model X.prog X.w) (X.A.mark (some (.ref a))) (.handlers (.ref a) [.ExceptHandler none (some n) (b₀ :: suite) hpos] X.env) _ _
 refine codeAny_handlers_suite_as (lands_againW fly5 fun h6 fly6 up6=>?_)
 obtain ⟨o6,v6,e6,c6,_⟩:=fly6.first
 have I6:=N9 I fl fly6.1 ((up4.trans up5).trans up6) e6
 refine tO I6 hN hi (.inl hl) (v:=.ref a) rfl (fun s7 I7=>?_) (.inr hl)
 refine bj2 (hs pins s7 _ _ (wP D i) (I7.suite a) (q o6 c6)) (fun f s8 h8=>?_) fun _ _ z=>z.elim
 show wpAny (model X.prog X.w) X.A (do bindName X.env n .none; unbindBehindTheSuite X.env n hpos) (fun _ s9=>SP X pins D f s9) X.xe s8
 cases f with
 | next=>obtain ⟨σ',H',J,q⟩:=h8; exact rP (J.unsuite I.ok) hN hi hl fun s9 J9=>⟨_,_,J9,q⟩
 | brk=>obtain ⟨σ',H',J,q⟩:=h8; exact rP (J.unsuite I.ok) hN hi hl fun s9 J9=>⟨_,_,J9,q⟩
 | cont=>obtain ⟨σ',H',J,q⟩:=h8; exact rP (J.unsuite I.ok) hN hi hl fun s9 J9=>⟨_,_,J9,q⟩
 | ret u=>obtain ⟨v,σ',H',J,r,q⟩:=h8; exact rP (J.unsuite I.ok) hN hi hl fun s9 J9=>⟨v,_,_,J9,r,q⟩
end
abbrev TB:=c7->XK->St->Hp->Prop
def XB (X:Cx) (pins:List (Addr × Obj)) (σ:St) (Ex:XK):Value->Shared->Prop:=fun e s'=>∃ H1 s1,a8 X pins σ H1 s1/\eB X.prog X.w X.stack H1 s1 Ex e s'
def PB (X:Cx) (sts:List Stmt) (t:TB):Prop:=
 ∀ (pins:List (Addr × Obj)) (s:Shared) (σ:St) (H:Hp) (D:c7) (Ex:XK),a8 X pins σ H s->t D Ex σ H->wpAny (model X.prog X.w) X.A (execs sts X.env) (SP X pins D) (XB X pins σ Ex) s
def aB0 (sp:Sp) (t:TA):TB:=fun D Ex σ H=>t σ H fun vs H1=>sp vs H1 (fun _ H2=>D.nx σ H2) Ex
def aB1 (c:TT) (t u:TB):TB:=fun D Ex σ H=>c σ H fun b H1=>if b=true then t D Ex σ H1 else u D Ex σ H1
section
variable {X : Cx} {k : Nat} {f Ch : Addr} {fd : FuncData} {ps : List Str} {sp : Sp} {x n : Str} {p cp pos np hpos : Pos} {e c : Expr} {es : List Expr} {t : TA} {tb ub : TB} {tc : TT} {sa sb body : List Stmt} {i : Nat} {b₀ : Stmt} {suite : List Stmt} {ts : TS}
theorem aB2 (F:cW X.prog X.w X.K X.mg X.base (eB X.prog X.w) k f fd ps sp) (hr:c8 k X.A) (hg:Gl X x) (hm:X.mg x=some (.ref f)) (hk:PySem.W.keepIn X.K (.ref f)=true) (hb:hG X.K fd ps []) (ha:∀ E,PA (X.wish E) (e :: es) t)
  (hdb:(x == ("__debug__" : Str))=false:=by decide) (he:starEach (e :: es) X.env=(false,eval e X.env) :: starEach es X.env:=by rfl) (hpl:(backTo cp (starEach es X.env)).any (·.1)=false:=by rfl) (hsw:swapsWith (.Call (.Name x p) (e :: es) [] cp) none pos.line X.env=pure false:=by rfl) :
  PB X [.Expr (.Call (.Name x p) (e :: es) [] cp) pos] (aB0 sp t):=by
 intro pins s σ H D Ex I h
 refine wpAny_execs_cons (wpAny_Expr_any ?_ I.quiet hsw)
 refine wpAny_Call_Name_kw (nP I hg hm ?_ hdb)
 refine PySem.W.callWith_K (h₀:=X.base) I.ok.mod.kin hk (aQ (ha (XB X pins σ Ex) cp pins s σ H _ (I.wish _) h) fun us s1 h1=>⟨?_,?_⟩) he hpl
 ·obtain ⟨_,_,I1,_⟩:=h1
  exact I1.kIn
 ·obtain ⟨vs,H1,I1,r,q⟩:=h1
  have I1:=I1.unwish
  have hl:us.length=ps.length:=by rw [<- r.length]; exact F.len _ _ _ _ q
  have bd:=hb s1 us I1.kIn (by rw [be6]; exact hl)
  rw [be6] at bd
  refine wpAny_call (codeAny_mono (F.run X.A X.stack s1 H1 ⟨us,[]⟩ us vs _ Ex hr I1.env0 bd r q) fun rs s' hq=>?_)
  cases rs with
  | error ev=>exact⟨H1,s1,I1,hq⟩
  | ok fl=>
   cases fl with
   | ret u=>
    obtain ⟨v,H2,I2,_,q2⟩:=I1.after hq
    exact bp3 ⟨σ,H2,I2,q2⟩
   | next=>exact False.elim hq
   | brk=>exact False.elim hq
   | cont=>exact False.elim hq
theorem aB3 (hc:∀ E,PT (X.wish E) c tc) (ha:PB X sa tb) (hb:PB X sb ub):PB X [.If c sa sb pos] (aB1 tc tb ub):=by
 intro pins s σ H D Ex I h
 refine wpAny_execs_cons (wpAny_If (aQ (hc (XB X pins σ Ex) pins s σ H _ (I.wish _) h) fun d s1 h1=>?_))
 obtain ⟨H1,I1,q1⟩:=h1
 have I1:=I1.unwish
 have fin:∀ (fl:Flow) (s2:Shared),SP X pins D fl s2->(match fl with | .next=>wpAny (model X.prog X.w) X.A (execs [] X.env) (SP X pins D) (XB X pins σ Ex) s2 | fl=>SP X pins D fl s2):=fun fl s2 q=>by
  cases fl with
  | next=>exact bp3 q
  | _=>exact q
 cases d with
 | true=>exact aQ (ha pins s1 σ H1 D Ex I1 q1) fin
 | false=>exact aQ (hb pins s1 σ H1 D Ex I1 q1) fin
def O0 (K:PySem.W.Frag) (Ch:Addr) (i:Nat) (tb:TB) (ts:TS):TS:=fun D σ H=>
 tb D (fun c _ H'=>∀ (a C:Addr) (oe:Obj),c = .ref C->H' a=none->oe.cls = .ref C->PySem.W.subIn K (.ref C) (.ref Ch)=some true/\ts (wP D i) (σ.set i (some (.ref a))) (upd H' a (.frz oe (.own a)))) σ H
theorem aB4 (hstk:X.stack=X.env :: X.outer/\X.env.frame=some X.env.locals) (hb:PB X body tb) (hg:Gl X x) (hm:X.mg x=some (.ref Ch)) (ct:wQ X.K Ch) (hN:X.N.Nodup) (hi:X.N[i]? = some n) (hl:X.env.scope.names.lookup n=some .local) (hs:∀ a,cY (X.suite a) (b₀ :: suite) ts)
  (hd:(x == ("__debug__" : Str))=false:=by decide):PS X (.Try body [.ExceptHandler (some (.Name x np)) (some n) (b₀ :: suite) hpos] [] [] pos) (O0 X.K Ch i tb ts):=by
 intro pins s σ H D I h
 refine wpAny_Try_except (bj2 (hb pins s σ H D _ I h) (fun fl s1 q=>?_) (fun ev s1 q=>?_))
 ·cases fl with
  | next=>exact bp3 q
  | _=>exact q
 ·obtain ⟨H1,s2,I1,H',B,a,C,e1,fl,q⟩:=q
  subst e1
  obtain ⟨a0,fly⟩:=fl.fly
  obtain ⟨o5,_,_,c5,_⟩:=fly.first
  exact aA9 I1 fl hstk hg hm ct (q a C o5 rfl fl.fresh c5).1 hN hi hl (hs a) (fun oe hc=>(q a C oe rfl fl.fresh hc).2) hd
end
end L2
namespace L2
open PySem PySem.Spec PyProof.Rows PySem.Calls Builtin Builtin.ObjectAttr Builtin.Getset_descriptor
structure iR (K:PySem.W.Frag) (D:Addr):Prop where
 cls:(PySem.W.clsIn K D).isSome=true
 ga:PySem.W.findIn K (.ref D) "__getattribute__" = some (some (.builtin "BaseException.__getattribute__"))
 gt:PySem.W.findIn K (.ref D) "__getattr__" = some none
 fc:PySem.W.findIn K (.ref D) "__class__" = some (some (.builtin "object.__class__"))
 fg:PySem.W.specialIn K (.builtin "object.__class__") "__get__" = some (some (.builtin "getset_descriptor.__get__"))
 ft:PySem.W.takesIn K (.builtin "object.__class__")=some true
 ob:PySem.W.mroIn K D (.type "object")=some true
 be:PySem.W.mroIn K D (.type "BaseException")=some true
def kC (h:Heap) (x D:Addr):Prop:=∃ ox:Obj,h.get? x=some ox/\ox.cls = .ref D
theorem kC.type {h:Heap}{x D:Addr}{M:Model} (I:kC h x D):PySem.W.Looks M h (typeOf (.ref x)) (.ref D):=by
 obtain ⟨ox,e,c⟩:=I
 exact c ▸ (PySem.W.Looks.ld e).andThen .now
section
variable {prog : Program} {w : World} {A : Around} {E : Value → Shared → Prop} {K : PySem.W.Frag} {x D : Addr} {h : Heap} {g : Array GenState} {d : Drawn} {t : Nat} {os : OsState}
theorem aB5 {M:Model} (F:iR K D) (k:K.In h):PySem.W.Looks M h (find (.ref x) (.ref D) "__class__") (.bind (.builtin "getset_descriptor.__get__") (.builtin "object.__class__")):=by
 have L1:=PySem.W.looks_findIn (M:=M) k F.fc
 have L2:=PySem.W.looks_specialIn (M:=M) k F.fg
 have L3:=PySem.W.looks_takesIn (M:=M) k F.ft
 unfold find
 refine L1.andThen (PySem.W.Looks.andThen (a:=some (Value.builtin "getset_descriptor.__get__")) L2 ?_)
 refine PySem.W.Looks.andThen (a:=some (Value.builtin "getset_descriptor.__get__",Value.builtin "object.__class__")) ?_ (PySem.W.Looks.tag .now)
 unfold dataDescriptor?
 exact L3.andThen .now
theorem aB6 {tp:Value}{R:Result->Shared->Prop} (F:iR K D) (k:K.In h) (I:kC h x D) (hq:R (.ok (.ret (.ref D))) ⟨h,g,d,t,os⟩):codeAny (model prog w) A (.call (.builtin "getset_descriptor.__get__") ⟨[.builtin "object.__class__",.ref x,tp],[]⟩) R ⟨h,g,d,t,os⟩:=by
 have L0:=I.type (M:=model prog w)
 have L1:=PySem.W.looks_mroIn (M:=model prog w) k F.ob
 refine codeAny_call_builtin PySem.W.KF.slot_gs.plain PySem.W.KF.entry_gs (PySem.W.KF.slot_gs.check _ _ _ _ _ _ _ _ PySem.W.KF.type_class (PySem.W.KF.args_gs _ _ _) ?_)
 unfold Builtin.«getset_descriptor.__get__» descrGet; rw [PySem.W.dga_obj]
 refine bb7 (bc3 ?_); unfold descrGetter descrCheckInstance descrNameAndClass isInstance
 simp only [PySem.W.KF.owner_class]
 repeat lk
 refine⟨Code.quiet_builtin _ (by decide +kernel),codeAny_builtin PySem.W.KF.entry_class ?_⟩; unfold Builtin.«object.__class__» shownTypeOf
 repeat lk
 exact hq
theorem aB7 {M:Model}{nameV:Value}{Q:Unit->Shared->Prop} (F:iR K D) (k:K.In h) (I:kC h x D) (hq:Q () ⟨h,g,d,t,os⟩):wpAny M A (checkBuiltinCall "BaseException.__getattribute__" ⟨[.ref x,nameV],[]⟩) Q E ⟨h,g,d,t,os⟩:=by
 have kd:builtinKind "BaseException.__getattribute__" = some .slot:=by decide +kernel
 have sp:splitId "BaseException.__getattribute__" = some ("BaseException","__getattribute__"):=by decide +kernel
 have L:PySem.W.Looks M h (isInstance (.ref x) (.type "BaseException")) true:=(I.type (M:=M)).andThen (PySem.W.looks_mroIn k F.be)
 have ha:=PySem.F.args_bexc_ga (.ref x) nameV
 simp only [checkBuiltinCall,kd,sp]
 refine bb7 (L.at ?_)
 repeat (any_goals (first | assumption | wp_step))
theorem aB8 {tk:Tok}{Q:Fin->Shared->Prop} (F:iR K D) (k:K.In h) (I:kC h x D) (hq:Q (.done (.ret (.ref D))) ⟨h,g,d,t,os⟩):wpAny (model prog w) A (Builtin.«object.__getattribute__» ⟨[.ref x,.str "__class__" tk],[]⟩) Q E ⟨h,g,d,t,os⟩:=by
 have L0:=I.type (M:=model prog w)
 have L1:=aB5 (M:=model prog w) F k (x:=x)
 refine bb7 (bc3 (bb7 (bc3 (bb7 (L0.at (bb7 (L1.at ?_)))))))
 show wpAny _ _ (holding [_] (call _ _) >>= ret) _ _ _
 exact bb7 (bk9 (wpAny_call (aB6 F k I (bc3 hq))))
theorem aB9 {tk:Tok}{R:Result->Shared->Prop} (F:iR K D) (k:K.In h) (I:kC h x D) (hq:R (.ok (.ret (.ref D))) ⟨h,g,d,t,os⟩):codeAny (model prog w) A (.call (.builtin "BaseException.__getattribute__") ⟨[.ref x,.str "__class__" tk],[]⟩) R ⟨h,g,d,t,os⟩:=
 codeAny_call_builtin PySem.F.excAttr_ValueError.ga.plain PySem.F.entry_bexc_ga (aB7 F k I (aB8 F k I hq))
theorem aC0 {Q:Option Value->Shared->Prop} (F:iR K D) (k:K.In h) (I:kC h x D) (hq:Q (some (.ref D)) ⟨h,g,d,t+1,os⟩):wpAny (model prog w) A (getAttr? (.ref x) "__class__") Q E ⟨h,g,d,t,os⟩:=by
 have L0:=I.type (M:=model prog w)
 have L1:=PySem.W.looks_findIn (M:=model prog w) k F.ga
 have L2:=PySem.W.looks_findIn (M:=model prog w) k F.gt
 have f3:=PySem.F.excAttr_ValueError.ga.bind (.ref x)
 unfold getAttr? getAttrBy? getAttrBy
 refine bb7 (wpAny_mkText (bb7 (wpAny_attempt (bk9 (bb7 (L0.at (bb7 (L1.at ?_))))))))
 have nx:(onTheHeap (Value.ref D) && Value.builtin "BaseException.__getattribute__" == Value.builtin "object.__getattribute__")=false:=by
  rw [show (Value.builtin "BaseException.__getattribute__" == Value.builtin "object.__getattribute__")=false by decide +kernel,bq1]
 dsimp only
 rw [if_neg (by rw [nx]; decide)]
 unfold getAttrByItsOwn hookBefore
 repeat (any_goals (first | assumption | (with_reducible refine L2.at ?_) | wp_step))
 exact aB9 F k I (PySem.W.handed_on rfl (bc3 hq))
end
theorem aC1 {K:PySem.W.Frag}{x D:Addr} (F:iR K D):PySem.W.KitX K (.ref x) (.ref D) (fun h=>kC h x D) where
 ty:=fun _ _ _ I=>I.type
 it:=fun M h k _=>by
  have z:=F.cls
  unfold PySem.W.clsIn at z
  split at z
  ·rename_i c' d' cd' sl' ho
   intro A' Q' E' s' kk q
   unfold isType loadHead
   exact bb7 (wpAny_loadPart (kk _ _ (k _ _ ho)) (bc3 q))
  ·cases z
 ne:=fun h tp dd its n sl k htp=>by
  have z:=F.cls
  refine bm5.mpr fun q=>?_
  obtain rfl:D=tp:=Value.ref.inj (beq_iff_eq.mp q)
  unfold PySem.W.clsIn at z
  split at z
  ·rename_i ho
   have y:=(k _ _ ho).symm.trans htp
   cases y
  ·cases z
 ca:=fun {_ _ _ _ _ s} k I q=>by
  obtain ⟨h,g,d,t,os⟩:=s
  exact aC0 F k I q
end L2
namespace L2
open PySem PySem.Spec PyProof.Rows
section
variable {X : Cx} {pins : List (Addr × Obj)} {σ : St} {H H' : Hp} {s : Shared} {a : Addr}
theorem a8.reH (I:a8 X pins σ H s) (d:∀ b,b ≠ a->H' b=H b) (ha:∃ x,H a=some x) (tup:∀ xs,H a ≠ some (.tup xs)) (frz:∀ o v,X.H₀ a ≠ some (.frz o v)) (tbl:∀ ps,H a ≠ some (.tbl ps)) (hok:bW X.prog X.w H' s.heap):a8 X pins σ H' s:=by
 have none:∀ b,H b=none->H' b=none:=fun b e=>by
  rw [d b fun z=>?_]; exact e
  obtain ⟨x,hx⟩:=ha
  rw [z,hx] at e; cases e
 refine⟨I.ok,I.os,I.bare,⟨I.base.keep,I.base.slot,fun b o e n hx=>none b (I.base.free b o e n hx),I.base.there,fun b xs q=>?_,fun b o u q=>?_,fun b ps q=>?_⟩,I.loc,I.cell,none _ I.free,fun x c e=>none c (I.freeC x c e),fun p hp=>?_,hok,I.len⟩
 ·have e:=I.base.tups b xs q
  rw [d b fun z=>tup xs (by rw [<- z]; exact e)]; exact e
 ·rw [d b fun z=>frz o u (by rw [<- z]; exact q)]; exact I.base.frzs b o u q
 ·obtain ⟨more,e⟩:=I.base.tbls b ps q
  exact⟨more,by rw [d b fun z=>tbl _ (by rw [<- z]; exact e)]; exact e⟩
 ·obtain ⟨e,n,r⟩:=I.pin p hp
  exact⟨e,none _ n,r⟩
theorem a8.froze {o:Obj}{kvs:List (List aC × V)} (I:a8 X pins σ H s) (h:H a=some (.dT kvs)) (e:s.heap.get? a=some o):a8 X pins σ (upd H a (.frz o (.dT kvs))) s:=by
 have own:∀ {c:Addr}{y:Addr},H c=some (.own y)->c ≠ a:=fun {c y} q z=>by rw [z,h] at q; cases q
 have tp:∀ {c:Addr}{xs:List V},H c=some (.tup xs)->c ≠ a:=fun {c xs} q z=>by rw [z,h] at q; cases q
 refine I.reH (a:=a) (fun b n=>aL n) ⟨_,h⟩ (fun xs q=>by rw [h] at q; cases q) (fun o' v q=>by have:=I.base.frzs a o' v q; rw [h] at this; cases this) (fun ps q=>by rw [h] at q; cases q) fun b u q=>?_
 by_cases hb:b=a
 ·subst hb
  rw [b8] at q; cases q
  exact⟨e,(I.hok b _ h).stay (fun _ _ _ q=>q) (fun c q=>by rw [aL (own q)]; exact q) fun c xs q=>by rw [aL (tp q)]; exact q⟩
 ·rw [aL hb] at q
  exact (I.hok b u q).stay (fun _ _ _ q=>q) (fun c q=>by rw [aL (own q)]; exact q) fun c xs q=>by rw [aL (tp q)]; exact q
theorem a8.thaw {o:Obj}{u:HO} (I:a8 X pins σ H s) (h:H a=some (.frz o u)) (n:∀ o v,X.H₀ a ≠ some (.frz o v)):a8 X pins σ (upd H a u) s:=by
 have own:∀ {c:Addr}{y:Addr},H c=some (.own y)->c ≠ a:=fun {c y} q z=>by rw [z,h] at q; cases q
 have tp:∀ {c:Addr}{xs:List V},H c=some (.tup xs)->c ≠ a:=fun {c xs} q z=>by rw [z,h] at q; cases q
 refine I.reH (a:=a) (fun b n=>aL n) ⟨_,h⟩ (fun xs q=>by rw [h] at q; cases q) n (fun ps q=>by rw [h] at q; cases q) fun b v q=>?_
 by_cases hb:b=a
 ·subst hb
  rw [b8] at q; cases q
  exact bZ.stay (I.hok b _ h).2 (fun _ _ _ q=>q) (fun c q=>by rw [aL (own q)]; exact q) fun c xs q=>by rw [aL (tp q)]; exact q
 ·rw [aL hb] at q
  exact (I.hok b v q).stay (fun _ _ _ q=>q) (fun c q=>by rw [aL (own q)]; exact q) fun c xs q=>by rw [aL (tp q)]; exact q
end
def O1 (a:Addr) (o:Obj) (ys:List V):It:=
 ⟨fun i H=>(∃ u,H a=some (.frz o u))/\i < ys.length,fun i H v H'=>H'=H/\ys[i]? = some v,fun i H=>(∃ u,H a=some (.frz o u))/\i=ys.length⟩
theorem aC2 {P:Program}{w:World}{K:PySem.W.Frag}{tg:Expr}{o:Obj}{es:Array DictEntry}{ep:Nat}{ys:List V} (a it:Addr) (od:o.ExactDict/\o.data = .dict es ep) (vl:aK ys (es.toList.map (·.key))) :
  gB P w K tg (O1 a o ys) [it] it (fun i h=>h.IsKeyIter it a i es.size ep):=by
 have hs:es.size=ys.length:=by
  have:=vl.length
  rw [bc4,bn1] at this
  exact this.symm
 refine⟨by simp,fun i h st b hb=>?_,fun i h h' st k=>st.at fun o e=>k it (by simp) o e,?_,?_,fun _ _ _ _ _ st q=>wpAny_pyIter_keyiter st q⟩
 ·obtain rfl:b=it:=by simpa using hb
  obtain ⟨o,e,c,d⟩:=st
  exact⟨o,e,fun v z=>by rw [d] at z; cases z⟩
 ·intro X hP hw hK hc i pins s σ H E I hf st hg
  subst hP hw hK
  obtain ⟨⟨u,hu⟩,hi⟩:=hg
  obtain ⟨f0,f1,f2,f3,f4,f5⟩:=hf it (by simp)
  refine Raw.turn (I.ok.hd hc) st ⟨o,(I.hok a _ hu).1,od.1,od.2⟩ (fun lt h' again sb=>?_) (fun ge=>absurd ge (by omega))
  have I1:a8 X pins σ H { s with heap:=h' }:=I.turned (t':=s.toks) (fun b o hb e=>(sb.2 b hb).trans e) f0 f1 f3 f4 f5
  have hv:=bc2 hi
  obtain ⟨key,hk,rv⟩:=vl.get hv
  obtain rfl:key=es[i].key:=by
   rw [bc9] at hk
   simp [lt] at hk
   exact hk.symm
  obtain ⟨o',e,c,d⟩:=id again
  exact⟨es[i].key,rfl,nR (s:={ s with heap:=h' }) e c d (by decide) ⟨_,H,I1,rv,⟨rfl,hv⟩,again,fun b hb=>(hf b hb).1⟩⟩
 ·intro X hP hw hK hc i pins s σ H E I hf st hg
  subst hP hw hK
  obtain ⟨⟨u,hu⟩,hi⟩:=hg
  obtain ⟨f0,f1,f2,f3,f4,f5⟩:=hf it (by simp)
  exact Raw.turn (I.ok.hd hc) st ⟨o,(I.hok a _ hu).1,od.1,od.2⟩ (fun lt=>absurd lt (by omega)) fun _ h' eb=>⟨rfl,I.turned (t':=s.toks) (fun b o hb e=>eb b o hb e) f0 f1 f3 f4 f5⟩
section
variable {X : Cx} {tg l : Expr} {tl : TE}
def O2 (tl:TE):TI:=fun σ H R=>tl σ H fun x H1=>∃ a kvs,x = .ref a/\H1 a=some (.dT kvs)/\∀ o ys,Paired (oF H1) ys (kvs.map (·.1))->R (O1 a o ys) (upd H1 a (.frz o (.dT kvs)))
theorem aC3 (hl:PE X l tl):PI X tg l (O2 tl):=by
 intro pins s σ H R I h
 refine aQ (hl pins s σ H _ I h) fun v s1 h1=>?_
 obtain ⟨x,H1,I1,r1,a,kvs,e,ha,q⟩:=h1
 subst e
 cases r1
 obtain ⟨es,ep,ys,⟨o,e1,e2,e3⟩,far,pk,vl,z⟩:=G4 I1 ha
 refine Raw.made far ⟨o,e1,e2,e3⟩ ?_
 have hf:H1 s1.heap.objs.size=none:=I1.hok.fresh (bc1 _)
 refine⟨s1.heap.objs.size,[s1.heap.objs.size],_,_,upd H1 a (.frz o (.dT kvs)),rfl,(I1.froze ha e1).kept (t':=s1.toks) fun b o e=>bb8 _ e,aC2 a _ ⟨e2,e3⟩ vl,⟨_,bd2 _ rfl,rfl,rfl⟩,fun b hb=>?_,q o ys pk⟩
 obtain rfl:b=s1.heap.objs.size:=by simpa using hb
 exact I1.fpOk (bc1 _) (by rw [aL (fun z=>by rw [z,ha] at hf; cases hf)]; exact hf)
def O3 (X:Cx) (t:TE):TE:=fun σ H Q=>t σ H fun v H'=>∃ a o u,H' a=some (.frz o u)/\(∀ o' v',X.H₀ a ≠ some (.frz o' v'))/\Q v (upd H' a u)
theorem aC4 {e:Expr}{t:TE} (h:PE X e t):PE X e (O3 X t):=by
 intro pins s σ H Q I hq
 refine aQ (h pins s σ H _ I hq) fun v s1 h1=>?_
 obtain ⟨x,H1,I1,r1,a,o,u,e,n,q⟩:=h1
 exact⟨x,_,I1.thaw e n,r1,q⟩
end
end L2
namespace Raw
open PySem PySem.W PySem.Calls PyProof.Rows
theorem lH {α β:Type} (f:α->β):∀ (j:Nat) (l:List α),(l.eraseIdx j).map f=(l.map f).eraseIdx j
 | _,[]=>rfl
 | 0,_ :: _=>rfl
 | j+1,x :: r=>by
  show f x :: (r.eraseIdx j).map f=f x :: (r.map f).eraseIdx j
  rw [lH f j r]
section
variable {prog : Program} {w : World} {K : Type} [DecidableEq K] {knd : HeapKind prog w K} {A : Around} {E : Value → Shared → Prop} {s : Shared} {d a : Addr} {k : K} {xs : List (K × Addr × Value)}
def O4 (knd:HeapKind prog w K) (h:Heap) (d:Addr) (xs:List (K × Addr × Value)) (j:Nat):Prop:=∃ o es ep,h.get? d=some o/\o.ExactDict/\o.data = .dict es ep/\es.toList=(xs.eraseIdx j).map (entryOfKey knd)
theorem aC5 {Q:Option DictEntry->Shared->Prop} (hu:knd.room A) (hkey:knd.is s.heap k a) (hm:s.heap.DictOfH knd d xs) (hz:xs.length<=sizeLine) (is:∃ (j:Nat) (p:Addr × Value),xs[j]? = some (k,p))
  (q:∀ (j:Nat) (p:Addr × Value) h',xs[j]? = some (k,p)->O4 knd h' d xs j->Heap.SameBut d s.heap h'->Q (some (entryOfKey knd (k,p))) { s with heap:=h',toks:=s.toks+knd.draws k }):wpAny (model prog w) A (Builtin.Dict.takeOut d (.ref a)) Q E s:=by
 obtain ⟨o,es,ep,e1,e2,e3,e4,e5,e6⟩:=hm
 obtain ⟨j0,p0,h0⟩:=is
 unfold Builtin.Dict.takeOut
 try with_reducible refine bk9 ?_
 apply bb7
 apply knd.pyHash hu hkey
 apply bb7
 refine wpAny_dictFind_heap (s:={ s with toks:=s.toks+knd.draws k }) hu hkey e1 e3 e4 e5 e6 (fun no=>absurd h0 (no j0 p0)) fun j p hj=>?_
 apply bb7
 apply wpAny_dictEntries (s:={ s with toks:=s.toks+knd.draws k }) e1 e3
 rw [entry_at e4 j,hj]
 have sz:=size_of_entries e4
 apply bb7
 refine wpAny_updateDictKeys (hz:=by omega) (s:={ s with toks:=s.toks+knd.draws k }) e1 e3 (bc3 (q j p _ hj ⟨_,_,ep+1,Heap.get?_update_self _ e1 (Obj.isFreed_of_dict (Obj.data_mapDictKeys e3 _)),e2.mapDictKeys _,Obj.data_mapDictKeys e3 _,?_⟩ (Heap.SameBut.update ..)))
 rw [lH,<- e4]
 obtain ⟨l⟩:=es
 simp
end
section
variable {prog : Program} {w : World} {K : Type} [DecidableEq K] (knd : HeapKind prog w K) (d a : Addr)
theorem aC6:MeetsIn prog w (Builtin.«dict.pop» ⟨[.ref d,.ref a],[]⟩) (fun A R s=>knd.room A.in1/\∃ k xs,knd.is s.heap k a/\s.heap.DictOfH knd d xs/\xs.length<=sizeLine/\(∃ (j:Nat) (p:Addr × Value),xs[j]? = some (k,p))/\
  ∀ (j:Nat) (p:Addr × Value) h',xs[j]? = some (k,p)->O4 knd h' d xs j->Heap.SameBut d s.heap h'->R (.ok (.ret p.2)) { s with heap:=h',toks:=s.toks+knd.draws k }):=
 .of_wp fun A R s h=>by
  obtain ⟨hu,k,xs,hk,hm,hz,is,q⟩:=h
  obtain ⟨o,es,ep,e1,e2,e3,e4,e5,e6⟩:=id hm
  have ne:es.isEmpty=false:=by
   obtain ⟨j,p,hj⟩:=is
   have sz:=size_of_entries e4
   have:=(bc6.mp hj).1
   rw [Array.isEmpty_eq_false_iff,ne_eq,<- Array.size_eq_zero_iff]
   omega
  unfold Builtin.«dict.pop»
  apply bb7
  unfold Builtin.Dict.keyAndDefault
  apply bb7
  apply wpAny_notOrdered_dict hm.typeIs
  change wpAny _ _ (pure (d,Value.ref a,none)) _ _ s
  apply bc3
  have kp:(keyPart (Value.ref a)).isSome=false:=rfl
  simp only [kp,be3,bi9]
  refine bb7 (wpAny_dictEntries e1 e3 (bb7 (bc3 ?_)))
  simp only [ne,be3,bi9]
  apply bb7
  refine aC5 hu hk hm hz is fun j p h' hj c sb=>?_
  simp only [Option.isNone_some,be3,bi9]
  exact bb7 (wpAny_letGo (bc3 ⟨p.2,rfl,q j p h' hj c sb⟩))
end
end Raw
namespace L2
open PySem PySem.Spec PyProof.Rows
theorem Paired.erase {α β:Type}{F:α->β->Prop}:∀ (j:Nat) {l:List α}{m:List β},Paired F l m->Paired F (l.eraseIdx j) (m.eraseIdx j)
 | _,_,_,.nil=>.nil
 | 0,_,_,.cons _ t=>t
 | j+1,_,_,.cons r t=>.cons r (Paired.erase j t)
theorem O5 {α β:Type}{F:α->β->Prop}:∀ {l:List α}{m:List β}{i:Nat}{y:β},Paired F l m->m[i]? = some y->∃ x,l[i]? = some x/\F x y
 | _,_,_,_,.nil,e=>by simp at e
 | _,_,0,_,.cons r _,e=>by simp at e; subst e; exact⟨_,rfl,r⟩
 | _,_,i+1,y,.cons _ t,e=>by
  rw [bf3] at e
  obtain ⟨x,h1,h2⟩:=O5 t e
  exact⟨x,by rw [bf3]; exact h1,h2⟩
theorem O6 {α β:Type}{F:α->β->Prop}:∀ {l:List α}{m:List β}{i:Nat}{x:α},Paired F l m->l[i]? = some x->∃ y,m[i]? = some y/\F x y
 | _,_,_,_,.nil,e=>by simp at e
 | _,_,0,_,.cons r _,e=>by simp at e; subst e; exact⟨_,rfl,r⟩
 | _,_,i+1,x,.cons _ t,e=>by
  rw [bf3] at e
  obtain ⟨y,h1,h2⟩:=O6 t e
  exact⟨y,by rw [bf3]; exact h1,h2⟩
section
variable {X : Cx} {pins : List (Addr × Obj)} {σ : St} {H : Hp} {s : Shared} {a b : Addr} {kvs : List (List aC × V)} {k : List aC} {A : Around} {E : Value → Shared → Prop}
theorem aC7 {Q:Value->Shared->Prop} (hu:A.units+1 < cLine) (I:a8 X pins σ H s) (e:H a=some (.dT kvs)) (eb:H b=some (.tup (k.map kV))) (is:∃ j:Nat,(kvs.map (·.1))[j]? = some k)
  (h:∀ (j:Nat) v w' s',(kvs.map (·.1))[j]? = some k->a8 X pins σ (upd H a (.dT (kvs.eraseIdx j))) s'->aX v w'->Q w' s'):wpAny (model X.prog X.w) A (call (.builtin "dict.pop") [.ref a,.ref b]) Q E s:=by
 obtain ⟨z,hd,xs,rel,dd⟩:=C2 I.hok e
 have hz:xs.length<=sizeLine:=by rw [<- Paired.length rel]; exact z
 refine call_meetsIn PySem.F.slot_dict_pop dd.typeIs PySem.F.entry_dict_pop (PySem.F.args_dict_pop_2 _ _) (Raw.aC6 (tupleKind (eQ X.prog X.w)) a b) ⟨tupleKind_room_in1 hu,k,xs,m9 I.hok eb,dd,hz,?_,fun j p h' hj c sb=>?_⟩
 ·obtain ⟨j,hj⟩:=is
  rw [bc9] at hj
  cases ej:kvs[j]? with
  | none=>rw [ej] at hj; cases hj
  | some kv=>
   rw [ej] at hj
   cases hj
   obtain ⟨y,hy,r⟩:=O6 rel ej
   exact⟨j,y.2,by rw [hy]; exact congrArg some (Prod.ext r.1.symm rfl)⟩
 ·obtain ⟨kv,hkv,r⟩:=O5 rel hj
  obtain ⟨o,es,ep,h1,h2,h3,h4⟩:=c
  have nd:((xs.eraseIdx j).map (·.1)).Nodup:=by
   obtain ⟨_,_,_,_,_,_,_,_,nd⟩:=dd
   exact nd.sublist ((List.eraseIdx_sublist xs j).map _)
  refine h j kv.2 p.2 _ (by rw [bc9,hkv]; exact congrArg some r.1) ?_ r.2.2
  refine pX I (by rw [e]; exact True.intro) sb ⟨o,h1⟩ ⟨bg0 (List.length_eraseIdx_le kvs j) z,hd,_,KT.keeps (Paired.erase j rel) fun c ys ec=>?_,o,es,ep,h1,h2,h3,h4,nd⟩
  rw [aL (yH ec e (fun z=>nomatch z))]
  exact ec
end
section
variable {X : Cx} {o e : Expr} {apos cpos : Pos} {td ty : TE}
def O7 (td ty:TE):TE:=fun σ H Q=>td σ H fun x H1=>∃ a,x = .ref a/\uP H1 a/\ty σ H1 fun y H2=>∃ kvs k b,H2 a=some (.dT kvs)/\y = .ref b/\H2 b=some (.tup (k.map kV))/\(∃ j:Nat,(kvs.map (·.1))[j]? = some k)/\∀ (j:Nat) v,(kvs.map (·.1))[j]? = some k->Q v (upd H2 a (.dT (kvs.eraseIdx j)))
theorem aC8 (hu:X.A.units+1 < cLine) (ho:PE X o td) (he:PE X e ty) (m:M1 X o "pop" apos e cpos):PE X (.Call (.Attribute o "pop" apos) [e] [] cpos) (O7 td ty):=by
 intro pins s σ H Q I h
 refine wpAny_Call_method m.base m.few m.line PySem.F.plainAttrs_dict PySem.F.slot_dict_pop PySem.F.type_dict_pop (aQ (ho pins s σ H _ I h) fun u s1 h1=>?_)
 obtain ⟨x,H1,I1,rx,a,ex,d,q1⟩:=h1
 subst ex
 obtain rfl:u=Value.ref a:=rx
 obtain ⟨t1,t2,_⟩:=E2 I1 d
 refine⟨t1,t2,?_⟩
 rw [m.trees]
 refine Calls.callWith_builtin rfl (Calls.evalArgs_plain (Calls.spliced_cons (aQ (he pins s1 σ H1 _ I1 q1) fun iv s2 h2=>Calls.spliced_nil ?_)))
 obtain ⟨y,H2,I2,ry,kvs,k,b,ea,ey,eb,is,q2⟩:=h2
 subst ey
 obtain rfl:iv=Value.ref b:=ry
 exact aC7 hu I2 ea eb is fun j v w' s3 hj I3 rw'=>⟨v,_,I3,rw',q2 j v hj⟩
end
section
variable {X : Cx}
def O8:V->List V->Hp->VK->Prop:=fun x vs H Q=>∃ l xs y,∃ k:Nat,x = .ref l/\vs = [.int k,y]/\H l=some (.lst xs)/\k<=xs.length/\xs.length < sizeLine/\Q .non (upd H l (.lst (xs.take k ++ y :: xs.drop k)))
theorem aC9:m8 X "list.insert" O8:=by
 intro pins s σ H x vs v us Q I rx rv h
 obtain ⟨l,xs,y,k,rfl,rfl,hH,hk,hz,q⟩:=h
 obtain ⟨u1,u2,rfl,⟨t,rfl⟩,r2⟩:=rv.two
 obtain rfl:v=Value.ref l:=rx
 obtain ⟨z,its,n,r,hl,e⟩:=I.lstM hH
 have hs:sizeLine=16777216:=sizeLine_eq
 obtain ⟨x,hx⟩:∃ x:Int,x=(k:Int):=⟨_,rfl⟩
 rw [<- hx]
 have hf : ¬(!Builtin.List.listFitsIndex x)=true:=by
  have h1:Builtin.List.listFitsIndex x=true:=by
   unfold Builtin.List.listFitsIndex
   rw [bd8]
   exact⟨bd4 (by omega),bd4 (by omega)⟩
  rw [h1]; exact be5
 have hz2:its.toArray.size<=sizeLine:=by rw [bb9]; omega
 refine call_meets PySem.F.slot_list_insert ⟨_,e,rfl⟩ PySem.F.entry_list_insert (PySem.F.args_list_insert_3 _ _ _) (AutoSeq1.list_insert_list_int_val_1 l its.toArray n x t u2 hf hz2) ⟨e,.non,_,?_,rfl,q⟩
 refine I.lset (its':=its.take k ++ u2 :: its.drop k) hH e ?_ ((r.take k).append (.cons r2 (r.drop k))) ?_
 ·have e1:(if x < 0 then (x+(its.toArray.size:Int)).toNat else min x.toNat its.toArray.size)=k:=by
   rw [if_neg (by omega),bb9]
   omega
  dsimp only
  rw [e1]
  apply Array.toList_inj.mp
  simp only [Array.toList_append,Array.toList_push,Array.toList_extract,List.extract_eq_drop_take]
  simp
  rw [bk3 (by rw [bj5]; omega)]
 ·rw [bc0,bh9,bh3,bj5]
  omega
end
end L2
namespace Core
open PySem L2 PP
def iB (ns:List Int):Bool:=((ns.zip (ns.drop 1)).map fun p=>decide (p.1 < p.2)).all id
theorem rQ {α β:Type}{l:List α}{f:α->β}{i:Nat}{x:α} (h:l[i]? = some x):(l.take (i+1)).map f=(l.take i).map f ++ [f x]:=by
 rw [bf9,h]; simp
theorem jI:∀ {ns:List Int},iB ns=true->ns.Pairwise (· < ·)
 | [],_=>.nil
 | [x],_=>bf8 _ _
 | x :: y :: r,h=>by
  have e:iB (x :: y :: r)=(decide (x < y) && iB (y :: r)):=rfl
  rw [e,bd8] at h
  have ih:=jI h.2
  refine bp1.mpr ⟨fun z hz=>?_,ih⟩
  rcases bc5.mp hz with rfl | hz
  ·exact bm8 h.1
  ·exact Int.lt_trans (bm8 h.1) (List.rel_of_pairwise_cons ih hz)
theorem O9:∀ {ns:List Int},ns.Pairwise (· < ·)->iB ns=true
 | [],_=>rfl
 | [x],_=>rfl
 | x :: y :: r,h=>by
  have e:iB (x :: y :: r)=(decide (x < y) && iB (y :: r)):=rfl
  have h':=bp1.mp h
  rw [e,O9 h'.2,bq0]
  exact bd4 (h'.1 y bd0)
def kin (ws:List Int) (ls:List (Int × Int)) (S:List Int) (h:Int):Bool:=!decide (h ∈ S) && decide (ws.getD h.toNat 0<=(((cQ ls h).filter fun x=>decide (x ∈ S)).length:Int))
def nextOf (ws:List Int) (ls:List (Int × Int)) (S:List Int):List Int:=((List.range ws.length).map fun (i:Nat)=>(i:Int)).filter (kin ws ls S)
def b7 (ws:List Int) (ls:List (Int × Int)) (S:List Int):Nat->List Int
 | 0=>S
 | k+1=>b7 ws ls S k ++ nextOf ws ls (b7 ws ls S k)
def fE (ws:List Int) (S:List Int):Nat:=(((List.range ws.length).map fun (i:Nat)=>(i:Int)).filter fun x=>!decide (x ∈ S)).length
theorem wR {α:Type} (p q:α->Bool) (h:∀ x,q x=true->p x=false):∀ L:List α,(L.filter fun x=>!p x && !q x).length+(L.filter q).length=(L.filter fun x=>!p x).length
 | []=>rfl
 | x :: r=>by
  have ih:=wR p q h r
  cases e1:p x with
  | true=>
   have e2:q x=false:=by
    cases e:q x with
    | false=>rfl
    | true=>have:=h x e; rw [e1] at this; cases this
   simp only [List.filter_cons,e1,e2,Bool.not_true,Bool.false_and,be3,bi9]
   exact ih
  | false=>
   cases e2:q x with
   | true=>
    simp only [List.filter_cons,e1,e2,Bool.not_true,Bool.not_false,bq1,be3,bi9,if_true,bh9]
    omega
   | false=>
    simp only [List.filter_cons,e1,e2,Bool.not_false,bq0,be3,bi9,if_true,bh9]
    omega
theorem oY {ws:List Int}{ls:List (Int × Int)}{S:List Int}{x:Int} (h:kin ws ls S x=true):decide (x ∈ S)=false:=by
 unfold kin at h
 cases e:decide (x ∈ S) with
 | false=>rfl
 | true=>rw [e] at h; cases h
theorem wS (ws:List Int) (ls:List (Int × Int)) (S:List Int):fE ws (S ++ nextOf ws ls S)+(nextOf ws ls S).length=fE ws S:=by
 have e:=wR (fun x=>decide (x ∈ S)) (kin ws ls S) (fun x h=>oY h) ((List.range ws.length).map fun (i:Nat)=>(i:Int))
 unfold fE
 rw [<- e]
 congr 2
 refine List.filter_congr fun x hx=>?_
 have:decide (x ∈ S ++ nextOf ws ls S)=(decide (x ∈ S) || kin ws ls S x):=by
  rw [bl7]
  unfold nextOf
  simp only [bj0,bf0,bk8,Bool.or_eq_true]
  exact⟨fun z=>z.elim .inl fun z=>.inr z.2,fun z=>z.elim .inl fun z=>.inr ⟨hx,z⟩⟩
 rw [this]
 cases decide (x ∈ S) <;> cases kin ws ls S x <;> rfl
theorem aD0 (ws:List Int) (S:List Int):fE ws S<=ws.length:=by
 unfold fE
 refine bg0 (bl6 _ _) ?_
 rw [bc4,bm7]; exact bc1 _
theorem aD1 (ws:List Int) (ls:List (Int × Int)) (S:List Int):(nextOf ws ls S).length<=ws.length:=by
 unfold nextOf
 refine bg0 (bl6 _ _) ?_
 rw [bc4,bm7]; exact bc1 _
def after (ws:List Int) (ls:List (Int × Int)) (S:List Int) (m:Nat):List (List Int):=(List.range m).map fun k=>nextOf ws ls (b7 ws ls S k)
theorem P0 (ws:List Int) (ls:List (Int × Int)) (S:List Int) (m:Nat):after ws ls S (m+1)=after ws ls S m ++ [nextOf ws ls (b7 ws ls S m)]:=by
 unfold after
 rw [List.range_succ,be7]; rfl
theorem P3 (ws:List Int) (ls:List (Int × Int)) (ns:List Int):∀ k,(b7 ws ls ns k).length+fE ws (b7 ws ls ns k)=ns.length+fE ws ns
 | 0=>rfl
 | k+1=>by
  have ih:=P3 ws ls ns k
  have cs:=wS ws ls (b7 ws ls ns k)
  show (b7 ws ls ns k ++ nextOf ws ls (b7 ws ls ns k)).length+fE ws (b7 ws ls ns k ++ nextOf ws ls (b7 ws ls ns k))=_
  rw [bc0]; omega
theorem P4 {ws ns:List Int} (hu:ns.Pairwise (· < ·)) (hin:∀ x ∈ ns,0<=x/\x < (ws.length:Int)):ns.length+fE ws ns<=ws.length:=by
 have nd:ns.Nodup:=hu.imp fun h=>Int.ne_of_lt h
 have sub:ns ⊆ ((List.range ws.length).map fun (i:Nat)=>(i:Int)).filter fun x=>decide (x ∈ ns):=fun x hx=>by
  refine bk8.mpr ⟨bj1.mpr ⟨x.toNat,bo9.mpr ?_,?_⟩,bd4 hx⟩
  ·have:=hin x hx; omega
  ·have:=hin x hx; omega
 have h1:=nd.length_le_of_subset sub
 have h2:=wR (fun _=>false) (fun x=>decide (x ∈ ns)) (fun _ _=>rfl) ((List.range ws.length).map fun (i:Nat)=>(i:Int))
 have h3:(((List.range ws.length).map fun (i:Nat)=>(i:Int)).filter fun x=>!false && !decide (x ∈ ns)).length=fE ws ns:=rfl
 have h4:(((List.range ws.length).map fun (i:Nat)=>(i:Int)).filter fun x=>!false).length<=ws.length:=by
  refine bg0 (bl6 _ _) ?_
  rw [bc4,bm7]; exact bc1 _
 rw [h3] at h2
 omega
theorem wT (ws:List Int) (ls:List (Int × Int)) (ns:List Int):∀ m,(ns :: after ws ls ns m).flatten=b7 ws ls ns m
 | 0=>by simp [after,b7]
 | m+1=>by
  rw [P0,<- List.cons_append,List.flatten_append,wT ws ls ns m]
  simp [b7]
def c7 (ws:List Int) (ls:List (Int × Int)) (ns:List Int) (m:Nat):Prop:=(∀ k < m,nextOf ws ls (b7 ws ls ns k) ≠ [])/\nextOf ws ls (b7 ws ls ns m) = []
theorem P5 {ws:List Int}{ls:List (Int × Int)}{ns:List Int}:∀ (m:Nat),(∀ k < m,nextOf ws ls (b7 ws ls ns k) ≠ [])->m+fE ws (b7 ws ls ns m)<=ws.length
 | 0,_=>by have:=aD0 ws ns; show 0+fE ws ns<=_; omega
 | m+1,h=>by
  have ih:=P5 m fun k hk=>h k (by omega)
  have cs:=wS ws ls (b7 ws ls ns m)
  have:1<=(nextOf ws ls (b7 ws ls ns m)).length:=by
   cases e:nextOf ws ls (b7 ws ls ns m) with
   | nil=>exact absurd e (h m (by omega))
   | cons _ _=>exact Nat.succ_le_succ (bh2 _)
  show m+1+fE ws (b7 ws ls ns m ++ nextOf ws ls (b7 ws ls ns m))<=_
  omega
theorem fB {ns:List Int}{i:Nat}{x:PV} (h:(intz ns)[i]? = some x):∃ n,x = .int n/\ns[i]? = some n:=by
 rw [bc9] at h
 cases e:ns[i]? with
 | none=>rw [e] at h; cases h
 | some n=>rw [e] at h; exact⟨n,(be8 h).symm,rfl⟩
theorem iC {lo:Int}{n i:Nat}{x:PV} (h:(fN lo n)[i]? = some x):x = .int (lo+i)/\i < n:=by
 have hi:i < n:=by
  have:=(bc6.mp h).1
  rwa [dN] at this
 rw [L4 hi] at h
 exact⟨(be8 h).symm,hi⟩
def rng (n:Nat):List Int:=(List.range n).map fun (i:Nat)=>(i:Int)
theorem gP (n:Nat):(rng n).length=n:=by unfold rng; rw [bc4,bm7]
theorem wU {n i:Nat} (h:i < n):(rng n)[i]? = some (i:Int):=by unfold rng; rw [bc9,List.getElem?_range h]; rfl
theorem iS {n:Nat}{x:Int}:x ∈ rng n ↔ 0<=x/\x < (n:Int):=by
 unfold rng
 rw [bj1]
 constructor
 ·rintro ⟨i,hi,rfl⟩
  have:=bo9.mp hi
  omega
 ·intro h
  exact⟨x.toNat,bo9.mpr (by omega),by omega⟩
theorem lI {α:Type}{l:List α}{p:α->Bool}{i:Nat}{x:α} (h:l[i]? = some x):(l.take (i+1)).filter p=(l.take i).filter p ++ (if p x=true then [x] else []):=by
 rw [bf9,h,List.filter_append]
 congr 1
 cases e:p x <;> simp [e]
theorem cT (a b:List Int):intz (a ++ b)=intz a ++ intz b:=be7
theorem aP (a:List Int):(intz a).length=a.length:=bc4 _
def aZ (ws:List Int) (ls:List (Int × Int)):PV:=.tup [.tup (intz ws),.tup (ls.map fun l=>.tup [.int l.1,.int l.2])]
structure Wb (ws:List Int) (ls:List (Int × Int)):Prop where
 few:ws.length<=40
 most:ls.length<=1700
 links:∀ l ∈ ls,(0<=l.1/\l.1 < ws.length)/\0<=l.2/\l.2 < ws.length
def bS (x:PV) (ns:List Int):Prop:=x = .tup (intz ns) ∨ x = .lst (intz ns)
theorem bS.seq {x:PV}{ns:List Int} (h:bS x ns):iM x=some (intz ns):=by rcases h with rfl | rfl <;> rfl
theorem bS.seqT {x:PV}{ns:List Int} (h:bS x ns):seqT x=some (intz ns):=by rcases h with rfl | rfl <;> rfl
theorem rR:∀ (ls:List (Int × Int)),flats (ls.map fun l=>PV.tup [.int l.1,.int l.2])=true
 | []=>rfl
 | l :: r=>by
  show (flat (.tup [.int l.1,.int l.2]) && flats (r.map fun l=>PV.tup [.int l.1,.int l.2]))=true
  rw [rR r]; rfl
theorem aD2 (ws:List Int) (ls:List (Int × Int)):flat (aZ ws ls)=true:=by
 show flats [.tup (intz ws),.tup (ls.map fun l=>PV.tup [.int l.1,.int l.2])]=true
 show (flat (.tup (intz ws)) && (flat (.tup (ls.map fun l=>PV.tup [.int l.1,.int l.2])) && true))=true
 show (flats (intz ws) && (flats (ls.map fun l=>PV.tup [.int l.1,.int l.2]) && true))=true
 rw [bP,rR]; rfl
theorem wV (ns:List Int):flat (.tup (intz ns))=true:=bP ns
def iT:bF:=fun xs Q=>∃ ws ls,xs = [aZ ws ls]/\Q (.int ws.length)
def P6:aH:=(bC (aB bU (a6 (cL (a5 0) (qC (.int 0))) a9)))
abbrev cU (t:aH) (N:List Str) (p:bF):Prop:=∀ xs Q,p xs Q->t { nx:=fun _=>Q .non,rt:=Q } (eY N xs)
theorem aD3:cU P6 ["web"] iT:=by
 rintro xs Q ⟨ws,ls,rfl,q⟩
 refine⟨_,rfl,_,_,_,rfl,rfl,rfl,_,_,rfl,rfl,trivial,?_⟩
 rw [aP]; exact q
def wW:bF:=fun xs Q=>∃ x ns,xs = [x]/\bS x ns/\ns.length<=1000/\Q (.bl (iB ns))
def inB (n:Nat) (x:Int):Bool:=decide (0<=x) && decide (x < (n:Int))
def nB:bF:=fun xs Q=>∃ ws ls n,xs = [aZ ws ls,.int n]/\Q (.bl (inB ws.length n))
def P7:aH:=(bC (mG (oS (a5 1) (qC (.int 0))) (lE (a5 1) (aB iT (a6 (a5 0) a9)))))
theorem aD4:cU P7 ["web","number"] nB:=by
 rintro xs Q ⟨ws,ls,n,rfl,q⟩
 refine⟨_,rfl,_,_,rfl,rfl,_,rfl,?_⟩
 unfold inB at q
 by_cases h:(0:Int)<=n
 ·rw [bd4 h] at q ⊢
  refine aV ⟨_,rfl,_,rfl,ws,ls,rfl,_,_,rfl,rfl,trivial,?_⟩
  simpa using q
 ·rw [bc8 h] at q ⊢
  exact aR ⟨trivial,by simpa using q⟩
def aW (n:Nat) (ns:List Int):Bool:=iB ns && (ns.map (inB n)).all id
def rS:bF:=fun xs Q=>∃ ws ls x ns,xs = [aZ ws ls,x]/\bS x ns/\ns.length<=1000/\Q (.bl (aW ws.length ns))
def P8:aH:=(bC (mG (aB wW (a6 (a5 1) a9)) (aB vO (a6 (cG (dE (a5 1)) [none,some 0] (bK 0) dO (aB nB (a6 (a5 1) (a6 (a5 0) a9)))) a9))))
theorem kD {x:PV}{ns:List Int} (h:bS x ns):(Slot.sh (flat x) x).tag = .rd->flat x=true:=by
 cases flat x <;> intro z <;> cases z
theorem aD5:cU P8 ["web","numbers"] rS:=by
 rintro xs Q ⟨ws,ls,x,ns,rfl,hx,hl,q⟩
 refine⟨_,rfl,x,ns,rfl,hx,hl,_,rfl,?_⟩
 unfold aW at q
 cases h:iB ns with
 | false=>rw [h] at q; exact aR ⟨trivial,q⟩
 | true=>
  rw [h] at q
  refine aV ⟨_,rfl,_,hx.seq,kD hx,by rw [aP]; omega,fun i acc=>acc=(((ns.take i).map (inB ws.length)).map PV.bl),rfl,?_,?_⟩
  ·rintro i y acc hy rfl
   obtain ⟨n,rfl,hn⟩:=fB hy
   have tk:((ns.take (i+1)).map (inB ws.length)).map PV.bl=((ns.take i).map (inB ws.length)).map PV.bl ++ [PV.bl (inB ws.length n)]:=by rw [rQ hn,be7]; rfl
   exact⟨_,rfl,_,rfl,ws,ls,n,rfl,trivial,tk.symm⟩
  ·rintro acc rfl
   rw [aP,bf1]
   exact⟨_,rfl,trivial,by simpa using q⟩
theorem bS.noscr {x:PV}{ns:List Int} (h:bS x ns):∀ ms,([x]:List PV) ≠ [.scr ms]:=by
 rcases h with rfl | rfl <;> intro ms z <;> cases z
structure DS (ps:List (aC × PV)) (S:List Int):Prop where
 has:∀ i:Int,(bV ps (Sum.inl i:aC)).isSome=decide (i ∈ S)
 len:ps.length<=S.length
 fl:flats (ps.map (·.2))=true
theorem DS.nil:DS [] []:=⟨fun i=>rfl,bc1 _,rfl⟩
section
variable {κ : Type} [DecidableEq κ]
theorem aD6 {k:κ}:bV ([]:List (κ × PV)) k=none:=rfl
theorem iU {p:κ × PV}{r:List (κ × PV)}{k:κ} (e:p.1=k):bV (p :: r) k=some p.2:=by simp [bV,bl8,e]
theorem iV {p:κ × PV}{r:List (κ × PV)}{k:κ} (e : ¬ p.1=k):bV (p :: r) k=bV r k:=by simp [bV,bl8,e]
theorem rT (k:κ):∀ kvs:List (κ × PV),(kvs.any fun kv=>decide (kv.1=k))=(bV kvs k).isSome
 | []=>rfl
 | p :: r=>by
  rw [List.any_cons]
  by_cases e:p.1=k
  ·simp only [iU e,bd4 e,Bool.true_or,Option.isSome_some]
  ·rw [iV e,bc8 e,Bool.false_or]; exact rT k r
theorem P9 (k j:κ) (y:PV):∀ kvs:List (κ × PV),bV (kvs.map fun kv=>if kv.1=k then (kv.1,y) else kv) j=(bV kvs j).map fun x=>if j=k then y else x
 | []=>rfl
 | p :: r=>by
  have ih:=P9 k j y r
  rw [bh4]
  by_cases h:p.1=k
  ·rw [if_pos h]
   by_cases e:p.1=j
   ·rw [iU (p:=(p.1,y)) e,iU e,Option.map_some,if_pos (e.symm.trans h)]
   ·rw [iV (p:=(p.1,y)) e,iV e,ih]
  ·rw [if_neg h]
   by_cases e:p.1=j
   ·rw [iU (p:=p) e,iU e,Option.map_some,if_neg (fun z=>h (e.trans z))]
   ·rw [iV (p:=p) e,iV e,ih]
theorem Q0 (k j:κ) (y:PV):∀ kvs:List (κ × PV),bV kvs k=none->bV (kvs ++ [(k,y)]) j=if j=k then some y else bV kvs j
 | [],_=>by
  by_cases e:k=j
  ·rw [if_pos e.symm]; exact iU (p:=(k,y)) e
  ·rw [if_neg (fun z=>e z.symm)]; exact iV (p:=(k,y)) e
 | p :: r,hn=>by
  rw [List.cons_append]
  have hk : ¬ p.1=k:=fun z=>by rw [iU z] at hn; cases hn
  rw [iV hk] at hn
  have ih:=Q0 k j y r hn
  by_cases e:p.1=j
  ·rw [iU e,iU e,if_neg (fun z=>hk (e.trans z))]
  ·rw [iV e,iV e,ih]
theorem wX (kvs:List (κ × PV)) (k j:κ) (y:PV):bV (cJ kvs k y) j=if j=k then some y else bV kvs j:=by
 unfold cJ
 by_cases a:(kvs.any fun kv=>decide (kv.1=k))=true
 ·rw [if_pos a,P9]
  rw [rT] at a
  by_cases e:j=k
  ·obtain ⟨x,hx⟩:=Option.isSome_iff_exists.mp a
   rw [if_pos e,e,hx,Option.map_some,if_pos rfl]
  ·rw [if_neg e]
   cases bV kvs j with
   | none=>rfl
   | some x=>rw [Option.map_some,if_neg e]
 ·rw [if_neg a]
  refine Q0 k j y kvs ?_
  rw [rT] at a
  cases q:bV kvs k with
  | none=>rfl
  | some x=>rw [q] at a; exact (a rfl).elim
theorem rV (kvs:List (κ × PV)) (k:κ) (v:PV):(cJ kvs k v).length<=kvs.length+1:=by
 unfold cJ
 split
 ·rw [bc4]; omega
 ·rw [bc0,bh9,List.length_nil]; omega
end
theorem Q2:∀ (xs:List PV),flats xs=true ↔ ∀ x ∈ xs,flat x=true
 | []=>by simp [flats]
 | x :: r=>by
  unfold flats
  rw [bd8,Q2 r]; simp
theorem aD7 {κ:Type} [DecidableEq κ] {ps:List (κ × PV)}{k:κ}{v:PV}{p:κ × PV} (h:p ∈ cJ ps k v):p.2=v ∨ p ∈ ps:=by
 unfold cJ at h
 split at h
 ·obtain ⟨q,hq,e⟩:=bj1.mp h
  split at e
  ·subst e; exact .inl rfl
  ·subst e; exact .inr hq
 ·rcases bf0.mp h with h | h
  ·exact .inr h
  ·rw [bd1.mp h]; exact .inl rfl
theorem wY {κ:Type} [DecidableEq κ] {ps:List (κ × PV)}{k:κ}{v:PV} (h:flats (ps.map (·.2))=true) (hv:flat v=true):flats ((cJ ps k v).map (·.2))=true:=by
 rw [Q2] at h ⊢
 intro x hx
 obtain ⟨p,hp,rfl⟩:=bj1.mp hx
 rcases aD7 hp with e | e
 ·rw [e]; exact hv
 ·exact h _ (bj1.mpr ⟨p,e,rfl⟩)
theorem DS.put {ps:List (aC × PV)}{S:List Int} (h:DS ps S) (x:Int) (v:PV) (hv:flat v=true):DS (cJ ps (Sum.inl x:aC) v) (S ++ [x]):=by
 refine⟨fun i=>?_,?_,wY h.fl hv⟩
 ·rw [wX]
  by_cases e:i=x
  ·subst e; rw [if_pos rfl]; simp
  ·rw [if_neg (fun z=>e (Sum.inl.inj z)),h.has]
   simp [e]
 ·have:=rV ps (Sum.inl x:aC) v
  have:=h.len
  rw [bc0,bg9]; omega
theorem DS.merge {S:List Int}:∀ {mp ps:List (aC × PV)}{T:List Int},DS ps S->DS mp T->DS (i6 ps mp) (S ++ T):=by
 have key:∀ (mp:List (aC × PV)) {ps:List (aC × PV)} (i:Int),(bV (i6 ps mp) (Sum.inl i:aC)).isSome=((bV ps (Sum.inl i:aC)).isSome || (bV mp (Sum.inl i:aC)).isSome):=fun mp=>by
  induction mp with
  | nil=>intro ps i; show (bV ps (Sum.inl i:aC)).isSome=_; rw [aD6]; simp
  | cons p r ih=>
   intro ps i
   show (bV (i6 (cJ ps p.1 p.2) r) (Sum.inl i:aC)).isSome=_
   rw [ih,wX]
   by_cases e:(Sum.inl i:aC)=p.1
   ·rw [if_pos e,iU e.symm]; simp
   ·rw [if_neg e,iV (Ne.symm e)]
 have keyl:∀ (mp:List (aC × PV)) {ps:List (aC × PV)},(i6 ps mp).length<=ps.length+mp.length:=fun mp=>by
  induction mp with
  | nil=>intro ps; exact bc1 _
  | cons p r ih=>
   intro ps
   have h1:=ih (ps:=cJ ps p.1 p.2)
   have h2:=rV ps p.1 p.2
   show (i6 (cJ ps p.1 p.2) r).length<=_
   rw [bh9]; omega
 have keyf:∀ (mp:List (aC × PV)) {ps:List (aC × PV)},flats (ps.map (·.2))=true->flats (mp.map (·.2))=true->flats ((i6 ps mp).map (·.2))=true:=fun mp=>by
  induction mp with
  | nil=>intro ps h _; exact h
  | cons p r ih=>
   intro ps h g
   have g:(flat p.2 && flats (r.map (·.2)))=true:=g
   rw [bd8] at g
   exact ih (ps:=cJ ps p.1 p.2) (wY h g.1) g.2
 intro mp ps T h g
 refine⟨fun i=>?_,?_,keyf mp h.fl g.fl⟩
 ·rw [key,h.has,g.has,bl7]; simp
 ·have:=keyl mp (ps:=ps)
  have:=h.len
  have:=g.len
  rw [bc0]; omega
def iD:bF:=fun xs Q=>∃ x ns,xs = [x]/\bS x ns/\ns.length<=1000/\∀ ps,DS ps ns->Q (.dK ps)
def Q3:aH:=(aG (dI 1 (qC (.dK [])))
 (aG (dU (dE (a5 0)) (bK 2)
  (mO 1 (a5 2) (qC (.bl true))))
 (dJ 1)))
theorem aD8:cU Q3 ["hearths","inside","hearth"] iD:=by
 rintro xs Q ⟨x,ns,rfl,hx,hl,q⟩
 refine⟨rfl,rfl,_,rfl,_,hx.seq,kD hx,fun i ρ=>∃ y ps,ρ = [some (.sh (flat x) x),some (.own (.dK ps)),y]/\DS ps (ns.take i),⟨none,[],rfl,DS.nil⟩,?_,?_⟩
 ·rintro i y ρ hy ⟨y0,ps,rfl,d⟩
  obtain ⟨n,rfl,hn⟩:=fB hy
  have hlen:=d.len
  rw [bh3] at hlen
  refine⟨_,rfl,_,rfl,Sum.inl n,rfl,trivial,by omega,_,_,rfl,?_⟩
  rw [bf9,hn]
  exact d.put n _ rfl
 ·rintro ρ ⟨y,ps,rfl,d⟩
  rw [aP,bf1] at d
  exact⟨_,rfl,trivial,q ps d⟩
def rW:bF:=fun xs Q=>∃ x ns ps S,xs = [x,.dK ps]/\bS x ns/\DS ps S/\ns.length<=10000/\Q (.int ((ns.filter fun x=>decide (x ∈ S)).length:Nat))
def Q4:aH:=(bC (aB bU (a6 (cG (dE (a5 0)) [none,some 1] (bK 0) (aU (lC false (a5 0) (a5 1))) (a5 0)) a9)))
theorem aD9:cU Q4 ["hearths","inside"] rW:=by
 rintro xs Q ⟨x,ns,ps,S,rfl,hx,d,hl,q⟩
 refine⟨_,rfl,_,hx.seq,kD hx,by rw [aP]; omega,fun i acc=>acc=intz ((ns.take i).filter fun x=>decide (x ∈ S)),rfl,?_,?_⟩
 ·rintro i y acc hy rfl
  obtain ⟨n,rfl,hn⟩:=fB hy
  have tk:=lI (p:=fun x=>decide (x ∈ S)) hn
  refine⟨_,rfl,_,rfl,_,.inl ⟨ps,Sum.inl n,rfl,rfl,rfl⟩,_,rfl,?_⟩
  show if (bV ps (Sum.inl n:aC)).isSome=true then _ else _
  rw [d.has n]
  by_cases h:n ∈ S
  ·rw [bd4 h] at tk ⊢
   refine aV ⟨_,rfl,trivial,?_⟩
   rw [if_pos rfl] at tk
   show _=intz (List.filter _ (List.take (i+1) ns))
   rw [tk,cT]; rfl
  ·rw [bc8 h] at tk ⊢
   refine aR ?_
   rw [if_neg (by decide),be6] at tk
   show _=intz (List.filter _ (List.take (i+1) ns))
   rw [tk]
 ·rintro acc rfl
  rw [aP,bf1]
  refine⟨_,_,rfl,rfl,trivial,?_⟩
  rw [aP]; exact q
def fY (n:Nat) (ls:List (Int × Int)):List PV:=(List.range n).map fun (k:Nat)=>PV.lst (intz (cQ ls k))
def jJ:bF:=fun xs Q=>∃ ws ls,xs = [aZ ws ls]/\Wb ws ls/\Q (.lst (fY ws.length ls))
theorem aE0 {n:Nat}{ls:List (Int × Int)}{h:Int} (h0:0<=h) (h1:h < (n:Int)):atI (fY n ls) h=some (.lst (intz (cQ ls h))):=by
 refine qP h0 ?_
 unfold fY
 rw [bc9,List.getElem?_range (by omega)]
 show some (PV.lst (intz (cQ ls ((h.toNat:Nat):Int))))=_
 rw [show ((h.toNat:Nat):Int)=h by omega]
def iW:bF:=fun xs Q=>∃ ws ls ps S h,xs = [aZ ws ls,.lst (fY ws.length ls),.dK ps,.int h]/\Wb ws ls/\DS ps S/\0<=h/\h < (ws.length:Int)/\Q (.bl (kin ws ls S h))
def Q5:aH:=(bC (mG (lC true (a5 3) (a5 2)) (oS (aB rW (a6 (cL (a5 1) (a5 3)) (a6 (a5 2) a9))) (cL (cL (a5 0) (qC (.int 0))) (a5 3)))))
theorem lJ {ws:List Int}{h:Int} (h0:0<=h) (h1:h < (ws.length:Int)):atI (intz ws) h=some (.int (ws.getD h.toNat 0)):=by
 refine qP h0 ?_
 have:h.toNat < ws.length:=by omega
 rw [bc9,bd6,bc2 this]; rfl
theorem aE1:cU Q5 ["web","around","burning","hearth"] iW:=by
 rintro xs Q ⟨ws,ls,ps,S,h,rfl,wb,d,h0,h1,q⟩
 refine⟨_,rfl,_,rfl,_,.inl ⟨ps,Sum.inl h,rfl,rfl,rfl⟩,_,rfl,?_⟩
 show if (!(bV ps (Sum.inl h:aC)).isSome)=true then _ else _
 rw [d.has h]
 unfold kin at q
 by_cases hm:h ∈ S
 ·rw [bd4 hm] at q ⊢
  exact aR ⟨trivial,by simpa using q⟩
 ·rw [bc8 hm] at q ⊢
  have nl:=qO ls h
  have:=wb.most
  refine aV ⟨_,rfl,_,rfl,_,_,_,rfl,rfl,aE0 h0 h1,_,rfl,_,cQ ls h,ps,S,rfl,.inr rfl,d,by omega,_,rfl,_,_,_,rfl,rfl,rfl,_,rfl,_,_,_,rfl,rfl,lJ h0 h1,_,_,rfl,rfl,trivial,?_⟩
  simpa using q
def oZ:bF:=fun xs Q=>∃ ws ls ps S,xs = [aZ ws ls,.lst (fY ws.length ls),.dK ps]/\Wb ws ls/\DS ps S/\Q (.tup (intz (nextOf ws ls S)))
def Q6:aH:=(bC (aB e9 (a6 (cG (fW (aB iT (a6 (a5 0) a9))) [none,some 0,some 1,some 2] (bK 0) (aU (aB iW (a6 (a5 1) (a6 (a5 2) (a6 (a5 3) (a6 (a5 0) a9)))))) (a5 0)) a9)))
theorem aE2:cU Q6 ["web","around","burning"] oZ:=by
 rintro xs Q ⟨ws,ls,ps,S,rfl,wb,d,q⟩
 have few:=wb.few
 refine⟨_,rfl,ws,ls,rfl,_,rfl,by omega,by omega,by rw [dN]; omega,fun i acc=>acc=intz (((rng ws.length).take i).filter (kin ws ls S)),rfl,?_,?_⟩
 ·rintro i y acc hy rfl
  obtain ⟨rfl,hi⟩:=iC hy
  have hi':i < ws.length:=by omega
  have tk:=lI (p:=kin ws ls S) (wU hi')
  have e0:(0:Int)+(i:Int)=(i:Int):=by omega
  refine⟨_,rfl,_,rfl,_,rfl,_,rfl,ws,ls,ps,S,_,rfl,wb,d,by omega,by omega,_,rfl,?_⟩
  show if kin ws ls S ((0:Int)+(i:Int))=true then _ else _
  rw [e0]
  cases h:kin ws ls S (i:Int) with
  | true=>
   refine aV ⟨_,rfl,trivial,?_⟩
   rw [h,if_pos rfl] at tk
   show _=intz (List.filter _ (List.take (i+1) _))
   rw [tk,cT]
   show _ ++ [PV.int _]=_
   rfl
  | false=>
   refine aR ?_
   rw [h,if_neg (by decide),be6] at tk
   show _=intz (List.filter _ (List.take (i+1) _))
   rw [tk]
 ·rintro acc rfl
  rw [dN,bk3 (by rw [gP]; omega)]
  exact⟨⟨_,_,rfl,rfl,bP _,trivial,q⟩,fun ns z=>by cases z⟩
def tups (rs:List (List Int)):List PV:=rs.map fun r=>PV.tup (intz r)
theorem wZ {rs:List (List Int)}{i:Nat}{x:PV} (h:(tups rs)[i]? = some x):∃ r,x = .tup (intz r)/\rs[i]? = some r:=by
 unfold tups at h
 rw [bc9] at h
 cases e:rs[i]? with
 | none=>rw [e] at h; cases h
 | some n=>rw [e] at h; exact⟨n,(be8 h).symm,rfl⟩
theorem kE (rs:List (List Int)):(tups rs).length=rs.length:=bc4 _
theorem x0:∀ (rs:List (List Int)),flats (tups rs)=true
 | []=>rfl
 | r :: t=>by
  show (flat (.tup (intz r)) && flats (tups t))=true
  rw [wV,x0 t]; rfl
theorem gQ {n:Nat}{ns:List Int} (h:aW n ns=true):iB ns=true/\∀ x ∈ ns,0<=x/\x < (n:Int):=by
 unfold aW at h
 rw [bd8,bm0] at h
 refine⟨h.1,fun x hx=>?_⟩
 have:=h.2 _ (bj1.mpr ⟨x,hx,rfl⟩)
 unfold inB at this
 simpa using this
theorem nC {n:Nat}{ns:List Int} (h:aW n ns=true):ns.length<=n:=by
 obtain ⟨h1,h2⟩:=gQ h
 have:=P4 (ws:=List.replicate n (0:Int)) (jI h1) (by rw [List.length_replicate]; exact h2)
 rw [List.length_replicate] at this
 omega
theorem x3 {ws:List Int}{ls:List (Int × Int)}{ns:List Int} (h:aW ws.length ns=true) (k:Nat):(b7 ws ls ns k).length<=ws.length:=by
 have h1:=P3 ws ls ns k
 have h2:=P4 (jI (gQ h).1) (gQ h).2
 omega
end Core
namespace PP
open PySem L2
def x4 (te:aE):aE:=fun ρ Q=>te ρ fun x _=>∃ n:Int,x = .int n/\0<=n/\n<=1000000/\Q (.lst (fN 0 n.toNat)) .fr
def x5:PV->Tg->PV->Tg->PK->Prop:=fun x _ y _ Q=>∃ xs n,x = .tup xs/\y = .int n/\flats xs=true/\xs ≠ []/\2<=n/\n<=1000000/\xs.length<=10/\Q (.tup (List.replicate n.toNat xs).flatten) .fr
abbrev aE3 (ta tb:aE):aE:=q2 x5 ta tb
def rX:List PV->(PV->Prop)->Prop:=fun xs Q=>∃ ys:List (List Int),xs = [.lst (ys.map fun r=>PV.tup (intz r))]/\ys.length < 64/\(∀ y ∈ ys,y ≠ [])/\∀ zs:List (List Int),zs.Perm ys->zs.Pairwise (fun u v=>HT.fH v u=false)->Q (.lst (zs.map fun r=>PV.tup (intz r)))
def rY:List PV->(PV->Prop)->Prop:=fun xs Q=>∃ ps:List (List aC × PV),xs = [.dT ps]/\Q (.lst (ps.map fun p=>PV.tup (p.1.map kP)))
end PP
namespace Core
open PySem L2 PP
theorem nD (g:Tg) (n:Int):Nw g (.int n):=by cases g <;> first | exact trivial | rfl
def gS (x:PV) (ns:List Int):Prop:=x = .scr ns ∨ x = .lst (intz ns)
theorem gS.seq {x:PV}{ns:List Int} (h:gS x ns):iM x=some (intz ns):=by rcases h with rfl | rfl <;> rfl
theorem gS.len {x:PV}{ns:List Int} (h:gS x ns):vN x=some ns.length:=by
 rcases h with rfl | rfl
 ·rfl
 ·show some (intz ns).length=_
  rw [aP]
def lK:bF:=fun xs Q=>∃ x ns k,xs = [x,.int k]/\gS x ns/\0<=k/\Q (.int (ns.getD k.toNat 0))
def Q7:aH:=(aG (bL (aU (lE (a5 1) (aB bU (a6 (a5 0) a9)))) (bC (cL (a5 0) (a5 1))) cC)
 (bC (qC (.int 0))))
theorem aE4:cU Q7 ["script","k"] lK:=by
 rintro xs Q ⟨x,ns,k,rfl,hx,h0,q⟩
 refine⟨_,rfl,_,rfl,_,_,rfl,hx.len,_,_,rfl,rfl,_,rfl,?_⟩
 by_cases h:k < (ns.length:Int)
 ·rw [bd4 h]
  exact aV ⟨_,rfl,_,rfl,_,_,_,hx.seq,rfl,lJ h0 h,nD _ _,q⟩
 ·rw [bc8 h]
  rw [bd6,List.getElem?_eq_none (by omega)] at q
  exact aR ⟨trivial,q⟩
def dL (ls:List (Int × Int)):List PV:=ls.map fun l=>PV.tup [.int l.1,.int l.2]
theorem Q8 (ls:List (Int × Int)):(dL ls).length=ls.length:=bc4 _
def x6 (l m:Int × Int):Prop:=l.1 < m.1 ∨ (l.1=m.1/\l.2 < m.2)
structure lM (n:Int) (ws:List Int) (ls:List (Int × Int)):Prop where
 many:(ws.length:Int)=n
 inn:∀ l ∈ ls,0<=l.1/\l.1 < l.2/\l.2 < n
 most:ls.length<=63
 ord:ls.Pairwise x6
 pos:∀ w ∈ ws,0<=w
abbrev si (n:Int):Option Slot:=some (.sh true (.int n))
theorem bS.len {x:PV}{ns:List Int} (h:bS x ns):vN x=some ns.length:=by
 rcases h with rfl | rfl <;> (show some (intz ns).length=_; rw [aP])
theorem aE5 {ls:List (Int × Int)}{i:Nat}{x:PV} (h:(dL ls)[i]? = some x):∃ l,x = .tup [.int l.1,.int l.2]/\ls[i]? = some l:=by
 unfold dL at h
 rw [bc9] at h
 cases e:ls[i]? with
 | none=>rw [e] at h; cases h
 | some n=>rw [e] at h; exact⟨n,(be8 h).symm,rfl⟩
end Core
namespace PySem
theorem aE6:fillsNumberSlot (.type "tuple") "mul" = pure false:=
 fillsNumberSlot_seq (id:="tuple.__mul__") (r:=some (.builtin "tuple.__rmul__")) F.slot_tuple_mul.lookup (by decide +kernel) F.slot_tuple_rmul.lookup (by decide +kernel)
theorem aE7:seqRepeat? (.type "tuple")=pure (some (.builtin "tuple.__mul__")):=by
 unfold seqRepeat?
 rw [seqSlot_of (T:="tuple") (name:="__mul__") (id:="tuple.__mul__") F.slot_tuple_mul.lookup (by decide +kernel),seqSlot_of (T:="tuple") (name:="__rmul__") (id:="tuple.__rmul__") F.slot_tuple_rmul.lookup (by decide +kernel)]
 rfl
theorem aE8 (a:Int) (t:Tok) (l:Addr) (items:Array Value) (n:Nat) (dd:Option Addr) (sl:Array (Option Value)) :
  Meets (Builtin.«int.__rmul__» ⟨[.int a t,.ref l],[]⟩) (fun _ R s=>s.heap.get? l=some { cls:=.type "tuple",dict:=dd,data:=.seq items n,slots:=sl }/\R (.ok (.ret Value.notImplemented)) s):=
 .of_wp fun prog w A R s h=>by obtain ⟨hp,g,d,tk,os⟩:=s; obtain ⟨hl,h⟩:=h; wp_walk; exact⟨_,rfl,h⟩
theorem aE9 (l:Addr) (items:Array Value) (n:Nat) (dd:Option Addr) (sl:Array (Option Value)) (x:Int) (u:Tok) (h0:items.isEmpty=false) (h1:2<=x) (h2:items.size * x.toNat<=sizeLine) (h3:x<=1000000) :
  Meets (Builtin.«tuple.__mul__» ⟨[.ref l,.int x u],[]⟩) (fun _ R s=>s.heap.get? l=some { cls:=.type "tuple",dict:=dd,data:=.seq items n,slots:=sl }/\R (.ok (.ret (Value.ref s.heap.objs.size))) { s with heap:=s.heap.push { cls:=Value.type "tuple",data:=Data.seq (List.foldl (fun x1 x2=>x1 ++ x2) #[] (List.replicate x.toNat items)) } }):=
 .of_wp fun prog w A R s h=>by
  obtain ⟨hp,g,d,tk,os⟩:=s; obtain ⟨hl,h⟩:=h
  have c1:(decide (x < -(2 ^ 63)) || decide (x >= 2 ^ 63))=false:=by
   rw [Bool.or_eq_false_iff]; exact⟨bc8 (by omega),bc8 (by omega)⟩
  have c2:(items.isEmpty || x == 1)=false:=by rw [h0,Bool.false_or]; exact bn0.mpr (by omega)
  have c3:(decide (x<=0) || items.isEmpty)=false:=by rw [h0,Bool.or_false]; exact bc8 (by omega)
  have hsz:((items.size:Nat):Int) * x=((items.size * x.toNat:Nat):Int):=by rw [Int.natCast_mul]; congr 1; omega
  have hl63:(sizeLine:Nat)<=(2 ^ 63 - 1) / 8:=by decide
  have c4:decide (((items.size:Nat):Int) * x > (2 ^ 63 - 1) / 8)=false:=bc8 (by rw [hsz]; omega)
  have c5:Builtin.Tuple.tupleTooMany (((items.size:Nat):Int) * x)=false:=by
   rw [hsz]
   unfold Builtin.Tuple.tupleTooMany
   exact bc8 (by omega)
  wp_walk
  refine wpAny_ite_false (by rw [c1]; rfl) ?_
  wp_walk
  refine wpAny_ite_false (by rw [c2]; rfl) ?_
  wp_walk
  refine wpAny_ite_false (by rw [c3]; rfl) ?_
  wp_walk
  refine wpAny_ite_false c4 ?_
  wp_walk
  refine wpAny_ite_false (by rw [c5]; rfl) ?_
  wp_walk
  have f0:∀ (m:Nat) (acc:Array Value),(List.foldl (fun x1 x2=>x1 ++ x2) acc (List.replicate m items)).size=acc.size+m * items.size:=fun m=>by
   induction m with
   | zero=>intro acc; simp
   | succ m ih=>intro acc; rw [bl3,List.foldl_cons,ih,Array.size_append,Nat.succ_mul]; omega
  have c6:decide ((List.foldl (fun x1 x2=>x1 ++ x2) #[] (List.replicate x.toNat items)).size > sizeLine)=false:=bc8 (by
   rw [f0 x.toNat #[]]
   have:x.toNat * items.size=items.size * x.toNat:=Nat.mul_comm _ _
   simp only [Array.size_empty]
   omega)
  refine wpAny_ite_false c6 ?_
  wp_walk
  exact⟨_,rfl,h⟩
end PySem
namespace PP
open PySem L2 PyProof.Rows
def Q9 (K:PySem.W.Frag):R2:=fun x y H Q=>∃ l k xs,x = .ref l/\y = .int k/\aO K H l xs/\xs ≠ []/\2<=k/\k<=1000000/\xs.length * k.toNat<=sizeLine/\∀ p,H p=none->Q (.ref p) (upd H p (.tup (List.replicate k.toNat xs).flatten))
theorem aF0 {X:Cx}:cF X (binaryOp .Mult) (Q9 X.K):=by
 intro pins s σ H x y v u Q I rx ry h
 obtain ⟨l,k,xs,rfl,rfl,hH,hne,h1,h2,hz,q⟩:=h
 cases rx
 obtain ⟨t,rfl⟩:=ry
 obtain ⟨its,r,p,_⟩:=I.tuple hH
 obtain ⟨⟨cls,dd,data,sl⟩,ho,hc,n,hd⟩:=id p
 simp only at hc hd
 subst hc hd
 have hl:=r.length
 have hemp:its.toArray.isEmpty=false:=by
  cases its with
  | nil=>exact absurd (r.nil_iff.mp rfl) hne
  | cons a b=>rfl
 refine wpAny_binaryOp_repeat_ref (T:="tuple") (U:="int") (by decide) ⟨_,ho,rfl⟩ (fun s'=>typeIs_int s' k t) aE6 F.fills_int_mul F.slot_int_rmul aE7 F.slot_int_index.lookup
  (call_meets F.slot_int_rmul (typeIs_int s k t) F.entry_int_rmul (F.args_int_rmul_2 _ _) (aE8 k t l its.toArray n dd sl)
   ⟨ho,rfl,⟨_,ho,rfl⟩,call_meets F.slot_tuple_mul ⟨_,ho,rfl⟩ F.entry_tuple_mul (F.args_tuple_mul_2 _ _) (aE9 l its.toArray n dd sl k t hemp h1 (by rw [bb9,<- hl]; exact hz) h2) ⟨ho,?_⟩⟩)
 have f0:List.foldl (fun x1 x2=>x1 ++ x2) #[] (List.replicate k.toNat its.toArray)=(List.replicate k.toNat its).flatten.toArray:=by
  have:=B3 its k.toNat []
  rw [List.nil_append] at this
  exact this
 rw [f0]
 refine⟨.ref s.heap.objs.size,_,I.laid (t':=s.toks) (o:=.tup (List.replicate k.toNat xs).flatten) (fun b ob q=>bb8 _ q) (bc1 _) ?_,rfl,q _ (I.hok.fresh (bc1 _))⟩
 exact⟨by rw [an0,Nat.mul_comm]; exact hz,_,r.rep k.toNat,IsTup.new _ _⟩
theorem Reps.rep {K:PySem.W.Frag}{M:Addr->Prop}{H:Hp}{us:List V}{xs:List PV} (r:Reps K M H us xs):∀ k:Nat,Reps K M H (List.replicate k us).flatten (List.replicate k xs).flatten
 | 0=>.nil
 | k+1=>by rw [bl3,bl3,bm4,bm4]; exact r.append (Reps.rep r k)
section
variable {X : Cx} {a b e : Expr} {ta tb te : aE} {tr : cI} {pos p2 p3 pos2 : Pos}
theorem aF1:eU X x5 (Q9 X.K):=by
 rintro W Hs H u v x y g g' Q Q' s n r1 r2 ⟨xs,m,rfl,rfl,f,ne,h1,h2,hl,q⟩ k
 cases r2
 obtain ⟨a,us,rfl,h,r⟩:=r1.sqT
 have lr:=r.length
 refine⟨a,m,us,rfl,rfl,aO.of h,fun z=>ne (by cases xs with | nil=>rfl | cons _ _=>rw [z] at lr; cases lr),h1,h2,lim ?_,fun p hp=>k _ _ _ .fr (bB hp _) (.tup b8 (((r.flat f).rep m.toNat).same (bB hp _) fun _ z=>z)) q⟩
 have h3:us.length<=10:=by omega
 have h4:m.toNat<=1000000:=by omega
 calc us.length * m.toNat<=10 * 1000000:=Nat.mul_le_mul h3 h4
  _<=16000000:=by decide
theorem aF2 (ha:QE X a ta) (hb:QE X b tb):QE X (.BinOp a .Mult b pos) (q2 x5 ta tb):=iP aF0 aF1 ha hb
theorem aF3 {tA:TA} (hg:Gl X "range") (hm:X.mg "range" = none) (ha:PA X [a] tA) (hs:starEach [a] X.env = [(false,eval a X.env)]:=by rfl) :
  PE X (.Call (.Name "range" p2) [a] [] pos) (fun σ H Q=>tA σ H fun vs H1=>∃ j:Int,vs = [.int j]/\∀ r,H1 r=none->Q (.ref r) (upd H1 r (.rng 0 j))):=by
 intro pins s σ H Q I h
 refine Call_ (iI I hg hm boot_range (bh6 (aQ (ha pos pins s σ H _ I h) fun us s1 ⟨vs,H1,I1,r1,q1⟩=>?_) hs rfl))
 obtain ⟨j,e,q⟩:=q1
 subst e
 cases r1 with
 | cons r rr=>
  cases rr
  obtain ⟨t,rfl⟩:=r
  refine call_range_1 ?_
  exact⟨.ref s1.heap.objs.size,_,I1.laid (o:=.rng 0 j) (fun b ob q=>bb8 _ q) (bc1 _) ⟨_,_,_,bd2 _ rfl⟩,rfl,q _ (I1.hok.fresh (bc1 _))⟩
theorem R3:∀ {xs:List V}{us:List Value},xs.length=us.length->(∀ (i:Nat) x u,xs[i]? = some x->us[i]? = some u->aX x u)->aK xs us
 | [],[],_,_=>.nil
 | x :: xs,u :: us,hl,h=>.cons (h 0 x u rfl rfl) (R3 (by simpa using hl) fun i y w h1 h2=>h (i+1) y w (by rw [bf3]; exact h1) (by rw [bf3]; exact h2))
theorem aF4 {n:Nat}{acc:Array Value} (h:ItemsOf (fun i v=>∃ t,v = .int (0+(i:Int) * 1) t) acc n):aK (jB 0 n) acc.toList:=by
 obtain ⟨h1,h2⟩:=h
 refine R3 (by rw [uW]; simp [h1]) fun i x u hx hu=>?_
 have hi:i < n:=by
  have:=(bc6.mp hx).1
  rwa [uW] at this
 unfold jB at hx
 rw [bc9,List.getElem?_range hi] at hx
 cases hx
 obtain ⟨t,rfl⟩:=h2 i u (by rw [<- Array.getElem?_toList]; exact hu)
 exact⟨t,by congr 1; omega⟩
theorem aF5 (hc:X.calm=true):cZ X (.type "list") (fun xs H Q=>∃ r j,xs = [.ref r]/\H r=some (.rng 0 j)/\0<=j/\j<=1000000/\∀ l,H l=none->Q (.ref l) (upd H l (.lst (jB 0 j.toNat)))):=by
 intro pins s σ H xs us Q I r h
 obtain ⟨p,j,rfl,hq,h0,h1,q⟩:=h
 obtain ⟨u,rfl,rx⟩:=gC r
 cases rx
 obtain ⟨t,u,v,ho⟩:=(show bZ X.prog X.w H s.heap p (.rng 0 j) from I.hok p _ hq)
 refine PySem.call_list_range (a:=0) (b:=j) (c:=1) (n:=j.toNat) (I.ok.hd hc) ho (small_one (by decide) (by decide) (by omega) (by omega)) (by rw [rangeSize_one]; split <;> omega) (by omega) fun h' tk acc' c' kp e it=>?_
 have vv:=aF4 it
 have eq:acc'.toList.toArray=acc':=by simp
 exact⟨.ref s.heap.objs.size,_,I.laid (t':=tk) (o:=.lst (jB 0 j.toNat)) kp (bc1 _) ⟨by rw [uW]; exact lim (by omega),acc'.toList,c',vv,by rw [eq]; exact e⟩,rfl,q _ (I.hok.fresh (bc1 _))⟩
theorem aF6 {K:PySem.W.Frag}{M:Addr->Prop}{H:Hp} (lo:Int) (n:Nat):Reps K M H (jB lo n) (fN lo n):=by
 unfold jB fN
 generalize List.range n=l
 induction l with
 | nil=>exact .nil
 | cons a r ih=>exact .cons (.int _) ih
theorem R4 (B:Bt X.mg) (ha:QE X a ta) (hc:X.calm=true:=by rfl) (hg:Gl X "list":=by rfl) (hgr:Gl X "range":=by rfl) (hs:starEach [a] X.env = [(false,eval a X.env)]:=by rfl)
  (he:starEach [.Call (.Name "range" p3) [a] [] pos2] X.env=(false,eval (.Call (.Name "range" p3) [a] [] pos2) X.env) :: starEach [] X.env:=by rfl) (hpl:(backTo pos (starEach [] X.env)).any (·.1)=false:=by rfl) :
  QE X (.Call (.Name "list" p2) [.Call (.Name "range" p3) [a] [] pos2] [] pos) (x4 ta):=
 bY (zU (aF5 hc) hg B.list PyProof.Rows.boot_list (dD (aF3 hgr B.range (dD ha dY hs) hs) dY he) (he:=he) (hpl:=hpl)) fun σ H Q' h=>by
  obtain ⟨W,ρ,Q,px,q,k⟩:=h
  refine⟨W,ρ,_,px,q,?_⟩
  rintro v H1 x g s r ⟨n,rfl,h0,h1,q⟩
  cases r
  refine⟨n,rfl,fun r hr=>⟨r,n,rfl,b8,h0,h1,fun l hl=>?_⟩⟩
  have S:aD H (upd (upd H1 r (.rng 0 n)) l (.lst (jB 0 n.toNat))):=(s.trans (bB hr _)).trans (bB hl _)
  exact k _ _ _ .fr S (.lst (((s.trans (bB hr _))).free hl) b8 (aF6 0 n.toNat)) q
theorem aF7:fM X rY (fun xs H Q=>∃ a kvs,xs = [.ref a]/\H a=some (.dT kvs)/\∀ l ys,H l=none->Paired (oF H) ys (kvs.map (·.1))->Q (.ref l) (upd H l (.lst ys))):=by
 rintro H vs xs Q Q' r ⟨ps,rfl,q⟩ k
 obtain ⟨v,rfl,r1⟩:=r.one
 cases r1 with
 | @dT a kvs _ m h e r2=>
  refine⟨a,kvs,rfl,h,fun l ys hl pr=>k _ _ _ (bB hl _) (.lst hl b8 ?_) q⟩
  have kv:∀ (k:List aC),Reps X.K (fun a=>H a=none) H (k.map kV) (k.map kP):=fun k=>by
   induction k with
   | nil=>exact .nil
   | cons a r ih=>exact .cons (by cases a <;> constructor) ih
  have go:∀ {ys:List V}{ks:List (List aC)},Paired (oF H) ys ks->Reps X.K (fun a=>H a=none) H ys (ks.map fun k=>PV.tup (k.map kP)):=fun {ys ks} pr=>by
   induction pr with
   | nil=>exact .nil
   | cons h t ih=>
    obtain ⟨q,rfl,hq⟩:=h
    exact .cons (.tup hq (kv _)) ih
  have e2:(ps.map fun p=>PV.tup (p.1.map kP))=(kvs.map (·.1)).map fun k=>PV.tup (k.map kP):=by rw [e,bk5]; rfl
  rw [e2]
  exact (go pr).same (bB hl _) fun _ z=>z
theorem aF8 (B:Bt X.mg) (hc:X.calm=true) (ha:QA X [e] tr) (hg:Gl X "list":=by rfl) (he:starEach [e] X.env=(false,eval e X.env) :: starEach [] X.env:=by rfl) (hpl:(backTo pos (starEach [] X.env)).any (·.1)=false:=by rfl):QE X (.Call (.Name "list" p2) [e] [] pos) (aB rY tr):=
 wE (ar2 hc) aF7 hg B.list PyProof.Rows.boot_list ha (he:=he) (hpl:=hpl)
def x8:V->Int
 | .int i=>i
 | _=>0
def lN (H:Hp):V->List Int
 | .ref a=>match H a with
  | some (.tup us)=>us.map x8
  | _=>[]
 | _=>[]
theorem aF9 {H:Hp}{a:Addr}{ns:List Int} (h:H a=some (.tup (ns.map V.int))):lN H (.ref a)=ns:=by
 show (match H a with | some (.tup us)=>us.map x8 | _=>[])=ns
 rw [h]
 show (ns.map V.int).map x8=ns
 rw [bk5]
 exact List.map_id _
theorem R5 {K:PySem.W.Frag}{M:Addr->Prop}{H:Hp}:∀ {us:List V}{ys:List (List Int)},Reps K M H us (ys.map fun r=>PV.tup (intz r))->us.map (lN H)=ys/\∀ u ∈ us,∃ b,u = .ref b/\H b=some (.tup ((lN H u).map V.int))
 | _,[],.nil=>⟨rfl,fun u h=>nomatch h⟩
 | _,y :: ys,.cons r t=>by
  obtain ⟨a,us,rfl,h,r1⟩:=r.sqT
  obtain rfl:=r1.ofInts
  obtain ⟨h1,h2⟩:=R5 t
  have hk:=aF9 h
  refine⟨by rw [bh4,h1,hk],fun u hu=>?_⟩
  rcases bc5.mp hu with rfl | hu
  ·exact⟨a,rfl,by rw [hk]; exact h⟩
  ·exact h2 u hu
theorem R6 {K:PySem.W.Frag}{M:Addr->Prop}{H:Hp}:∀ {us:List V},(∀ u ∈ us,∃ b,u = .ref b/\H b=some (.tup ((lN H u).map V.int)))->Reps K M H us ((us.map (lN H)).map fun r=>PV.tup (intz r))
 | [],_=>.nil
 | u :: us,h=>by
  obtain ⟨b,rfl,hb⟩:=h u bd0
  exact .cons (.tup hb (Reps.intz _)) (R6 fun v hv=>h v (be4 _ hv))
theorem aG0:fM X rX (G2 X.K):=by
 rintro H vs xs Q Q' r ⟨ys,rfl,hl,hne,q⟩ k
 obtain ⟨v,rfl,r1⟩:=r.one
 obtain ⟨a,us,rfl,_,h,r2⟩:=r1.sqL
 obtain ⟨h1,h2⟩:=R5 r2
 have lr:=r2.length
 rw [bc4] at lr
 refine⟨a,us,lN H,rfl,aN.of h,by omega,fun y hy=>?_,fun l zs hl' pm so=>?_⟩
 ·obtain ⟨b,rfl,hb⟩:=h2 y hy
  refine⟨b,rfl,aO.of hb,hne _ ?_⟩
  rw [<- h1]; exact bj1.mpr ⟨_,hy,rfl⟩
 ·have hz:∀ u ∈ zs,∃ b,u = .ref b/\H b=some (.tup ((lN H u).map V.int)):=fun u hu=>h2 u (pm.mem_iff.mp hu)
  refine k _ _ _ (bB hl' _) (.lst hl' b8 ((R6 hz).same (bB hl' _) fun _ z=>z)) (q _ ?_ ?_)
  ·rw [<- h1]; exact pm.map _
  ·rw [bl5]; exact so
theorem aG1 (B:Bt X.mg) (ha:QA X [e] tr) (hg:Gl X "sorted":=by rfl) (he:starEach [e] X.env=(false,eval e X.env) :: starEach [] X.env:=by rfl) (hpl:(backTo pos (starEach [] X.env)).any (·.1)=false:=by rfl):QE X (.Call (.Name "sorted" p2) [e] [] pos) (aB rX tr):=
 kB aq9 aG0 hg B.sorted PyProof.Rows.boot_sorted ha (he:=he) (hpl:=hpl)
end
def R7 (K:PySem.W.Frag):Sp:=fun vs H Q _=>∃ (a:Addr) (ns:List Int),vs = [.ref a]/\(aO K H a (ns.map V.int) ∨ aN K H a (ns.map V.int))/\ns.length<=1000/\∀ H',aD H H'->Q (.bl (Core.iB ns)) H'
def R8:Sp:=fun vs H Q _=>∃ v ws ls,vs = [v]/\G7 H v ws ls/\ws.length<=1000/\ls.length<=2000/\(∀ l ∈ ls,(0<=l.1/\l.1 < ws.length)/\0<=l.2/\l.2 < ws.length)/\
 ∀ (r:Addr) (bs:List Addr) (H':Hp),bs.length=ws.length->jC H H' r bs (fun k=>cQ ls k)->Q (.ref r) H'
section
variable {P : Program} {w : World} {K : PySem.W.Frag} {mg : Str → Option Value} {base : Heap} {f : Addr} {fd : FuncData} {k : Nat}
theorem aG2 (F:cW P w K mg base dG k f fd ["things"] (R7 K)) (b:hG K fd ["things"] []) (kp:PySem.W.keepIn K (.ref f)=true) (m:mg "rises" = some (.ref f)):Df P w K mg base k "rises" ["things"] Core.wW:=by
 refine⟨f,fd,F.imp fun vs H Q E h=>?_,b,kp,m⟩
 obtain ⟨xs,Qp,r,⟨x,ns,rfl,hx,hl,q⟩,k⟩:=h
 obtain ⟨v,rfl,r1⟩:=r.one
 rcases hx with rfl | rfl
 ·obtain ⟨a,us,rfl,h,r2⟩:=r1.sqT
  obtain rfl:=r2.ofInts
  exact⟨a,ns,rfl,.inl (aO.of h),hl,fun H' s=>k _ H' _ s (.bl _) q⟩
 ·obtain ⟨a,us,rfl,_,h,r2⟩:=r1.sqL
  obtain rfl:=r2.ofInts
  exact⟨a,ns,rfl,.inr (aN.of h),hl,fun H' s=>k _ H' _ s (.bl _) q⟩
theorem qR {M:Addr->Prop}{H:Hp}:∀ {us:List V}{ls:List (Int × Int)},Reps K M H us (ls.map fun l=>PV.tup [.int l.1,.int l.2])->mC H us ls
 | _,[],.nil=>.nil
 | _,l :: ls,.cons r t=>by
  obtain ⟨a,us,rfl,h,r1⟩:=r.sqT
  obtain ⟨u1,u2,rfl,q1,q2⟩:=r1.two
  cases q1; cases q2
  exact .cons ⟨a,rfl,h⟩ (qR t)
theorem aG3 {M:Addr->Prop}{H:Hp}{v:V}{ws:List Int}{ls:List (Int × Int)} (r:aJ K M H v (Core.aZ ws ls)):G7 H v ws ls:=by
 obtain ⟨a,us,rfl,h,r1⟩:=aJ.sqT r
 obtain ⟨u1,u2,rfl,q1,q2⟩:=r1.two
 obtain ⟨p,up,rfl,hp,rp⟩:=q1.sqT
 obtain ⟨q,uq,rfl,hq,rq⟩:=q2.sqT
 obtain rfl:=rp.ofInts
 exact⟨a,p,q,uq,rfl,h,hp,hq,qR rq⟩
theorem R9 {M:Addr->Prop}{H:Hp}:∀ {bs:List Addr}{ls:List (Int × Int)} (off:Nat),(∀ b ∈ bs,M b)->(∀ (k:Nat) b,bs[k]? = some b->H b=some (.lst ((cQ ls ((off+k:Nat):Int)).map V.int)))->Reps K M H (bs.map V.ref) ((List.range' off bs.length).map fun (k:Nat)=>PV.lst (intz (cQ ls k)))
 | [],_,_,_,_=>.nil
 | b :: bs,ls,off,hm,h=>by
  refine .cons (.lst (hm b bd0) (h 0 b rfl) (Reps.intz _)) (R9 (off+1) (fun c hc=>hm c (be4 _ hc)) fun k c hk=>?_)
  have:=h (k+1) c (by rw [bf3]; exact hk)
  rw [show off+1+k=off+(k+1) by omega]; exact this
theorem aG4 (F:cW P w K mg base dG k f fd ["web"] R8) (b:hG K fd ["web"] []) (kp:PySem.W.keepIn K (.ref f)=true) (m:mg "near_lists" = some (.ref f)):Df P w K mg base k "near_lists" ["web"] Core.jJ:=by
 refine⟨f,fd,F.imp fun vs H Q E h=>?_,b,kp,m⟩
 obtain ⟨xs,Qp,r,⟨ws,ls,rfl,wb,q⟩,k⟩:=h
 obtain ⟨v,rfl,r1⟩:=r.one
 have:=wb.few
 have:=wb.most
 refine⟨v,ws,ls,rfl,aG3 r1,by omega,by omega,wb.links,fun t bs H' hb R=>k _ H' _ R.same (.lst R.new R.row ?_) q⟩
 have:=R9 (K:=K) (M:=fun a=>H a=none) (H:=H') (bs:=bs) (ls:=ls) 0 (fun b hb=>(R.news b hb).1) fun k b hk=>by rw [Nat.zero_add]; exact R.rows k b hk
 rw [hb,<- List.range_eq_range'] at this
 exact this
end
end PP
namespace Core
open PySem L2 PP
theorem S0 (n:Nat):fN 0 n=intz (rng n):=by
 unfold fN rng
 show _=List.map PV.int (List.map (fun (i:Nat)=>(i:Int)) (List.range n))
 rw [bk5]
 refine List.map_congr_left fun i _=>?_
 show PV.int (0+(i:Int))=PV.int (i:Int)
 rw [Int.zero_add]
theorem x9 (n:Nat):(rng n).Nodup:=by
 unfold rng
 rw [List.nodup_iff_pairwise_ne,bl5]
 exact (List.nodup_range (n:=n)).imp fun h e=>h (by omega)
def two (l:Int × Int):List Int:=[l.1,l.2]
def p5 (r:List Int):Int × Int:=(r.getD 0 0,r.getD 1 0)
theorem S2 (ls:List (Int × Int)):dL ls=(ls.map two).map fun r=>PV.tup (intz r):=by
 unfold dL
 rw [bk5]; rfl
theorem aG5 {zs:List (List Int)}{ls:List (Int × Int)} (h:zs.Perm (ls.map two)):∃ ls':List (Int × Int),zs=ls'.map two/\ls'.Perm ls:=by
 refine⟨zs.map p5,?_,?_⟩
 ·rw [bk5]
  have:∀ z ∈ zs,(two ∘ p5) z=z:=fun z hz=>by
   obtain ⟨l,_,rfl⟩:=bj1.mp (h.mem_iff.mp hz)
   rfl
  rw [List.map_congr_left this,List.map_id']
 ·have:=h.map p5
  rw [bk5] at this
  have e:ls.map (p5 ∘ two)=ls:=by
   have:∀ l ∈ ls,(p5 ∘ two) l=id l:=fun l _=>rfl
   rw [List.map_congr_left this,List.map_id]
  rw [e] at this
  exact this
theorem S3 (f:Int->PV):∀ (l:List Int) (i:Nat),(l.map f).eraseIdx i=(l.eraseIdx i).map f
 | [],_=>rfl
 | _ :: _,0=>rfl
 | a :: r,i+1=>by
  show f a :: (r.map f).eraseIdx i=f a :: (r.eraseIdx i).map f
  rw [S3 f r i]
theorem aG6 {ls:List (Int × Int)} (so:(ls.map two).Pairwise fun u v=>HT.fH v u=false) (nd:ls.Nodup):ls.Pairwise x6:=by
 rw [bl5] at so
 refine (List.pairwise_and_iff.mpr ⟨so,nd⟩).imp fun {a b} h=>?_
 obtain ⟨h1,h2⟩:=h
 unfold two at h1
 rw [HT.nY] at h1
 unfold x6
 by_cases e:b.1=a.1
 ·rw [if_pos e,HT.nY] at h1
  by_cases e2:b.2=a.2
  ·exact absurd (Prod.ext e.symm e2.symm) h2
  ·rw [if_neg e2] at h1
   have:=bl9 h1
   omega
 ·rw [if_neg e] at h1
  have:=bl9 h1
  omega
theorem lM.perm {n:Int}{ws:List Int}{ls ls':List (Int × Int)} (h1:(ws.length:Int)=n) (h2:∀ l ∈ ls,0<=l.1/\l.1 < l.2/\l.2 < n) (h3:ls.length<=63) (nd:ls.Nodup) (h4:∀ w ∈ ws,0<=w) (p:ls'.Perm ls) (so:(ls'.map two).Pairwise fun u v=>HT.fH v u=false):lM n ws ls':=
 ⟨h1,fun l hl=>h2 l (p.mem_iff.mp hl),by rw [p.length_eq]; exact h3,aG6 so (p.nodup_iff.mpr nd),h4⟩
theorem aG7 (ws:List Int) (ls:List (Int × Int)):flats [.tup (intz ws),.tup (dL ls)]=true:=aD2 ws ls
theorem aG8 {a b c d:PV}{i:Int} (h0:0<=i) (h1:i < 4):∃ z,atI [a,b,c,d] i=some z/\(z=a ∨ z=b ∨ z=c ∨ z=d):=by
 have:i=0 ∨ i=1 ∨ i=2 ∨ i=3:=by omega
 rcases this with rfl | rfl | rfl | rfl
 ·exact⟨a,rfl,.inl rfl⟩
 ·exact⟨b,rfl,.inr (.inl rfl)⟩
 ·exact⟨c,rfl,.inr (.inr (.inl rfl))⟩
 ·exact⟨d,rfl,.inr (.inr (.inr rfl))⟩
theorem S4 {a b c d:Int}{i:Int} (h0:0<=i) (h1:i < 4):∃ z:Int,atI [PV.int a,PV.int b,PV.int c,PV.int d] i=some (.int z)/\(z=a ∨ z=b ∨ z=c ∨ z=d):=by
 obtain ⟨z,h,e⟩:=aG8 (a:=PV.int a) (b:=PV.int b) (c:=PV.int c) (d:=PV.int d) h0 h1
 rcases e with rfl | rfl | rfl | rfl
 ·exact⟨a,h,.inl rfl⟩
 ·exact⟨b,h,.inr (.inl rfl)⟩
 ·exact⟨c,h,.inr (.inr (.inl rfl))⟩
 ·exact⟨d,h,.inr (.inr (.inr rfl))⟩
def fP (l:Int × Int):List aC:=[Sum.inl l.1,Sum.inl l.2]
structure DL (n:Int) (ps:List (List aC × PV)) (i:Nat):Prop where
 key:∀ p ∈ ps,∃ l:Int × Int,p.1=fP l/\0<=l.1/\l.1 < l.2/\l.2 < n
 len:ps.length<=i
 fl:flats (ps.map (·.2))=true
 nd:(ps.map (·.1)).Nodup
theorem aG9 {κ:Type} [DecidableEq κ] {ps:List (κ × PV)} (k:κ) (v:PV) (h:(ps.map (·.1)).Nodup):((cJ ps k v).map (·.1)).Nodup:=by
 unfold cJ
 split
 ·rw [bk5]
  have:((fun x:κ × PV=>x.1) ∘ fun kv:κ × PV=>if kv.1=k then (kv.1,v) else kv)=fun x=>x.1:=by
   funext x
   show (if x.1=k then (x.1,v) else x).1=x.1
   split <;> rfl
  rw [this]; exact h
 ·rename_i hn
  rw [be7]
  refine bg7.mpr ⟨h,bf8 _ _,fun x hx y hy e=>hn ?_⟩
  obtain ⟨p,hp,rfl⟩:=bj1.mp hx
  rw [bd1.mp hy] at e
  exact List.any_eq_true.mpr ⟨p,hp,bd4 e⟩
theorem aH0 {κ:Type} [DecidableEq κ] {ps:List (κ × PV)}{k:κ}{v:PV}{p:κ × PV} (h:p ∈ cJ ps k v):p.1=k ∨ ∃ q ∈ ps,q.1=p.1:=by
 unfold cJ at h
 split at h
 ·obtain ⟨q,hq,e⟩:=bj1.mp h
  split at e
  ·subst e; exact .inr ⟨q,hq,rfl⟩
  ·subst e; exact .inr ⟨q,hq,rfl⟩
 ·rcases bf0.mp h with h | h
  ·exact .inr ⟨p,h,rfl⟩
  ·rw [bd1.mp h]; exact .inl rfl
theorem DL.put {n:Int}{ps:List (List aC × PV)}{i:Nat} (h:DL n ps i) (l:Int × Int) (hl:0<=l.1/\l.1 < l.2/\l.2 < n):DL n (cJ ps (fP l) (.bl true)) (i+1):=by
 refine⟨fun p hp=>?_,?_,wY h.fl rfl,aG9 _ _ h.nd⟩
 ·rcases aH0 hp with e | ⟨q,hq,e⟩
  ·exact⟨l,e,hl⟩
  ·obtain ⟨l',e',h'⟩:=h.key q hq
   exact⟨l',e ▸ e',h'⟩
 ·have:=rV ps (fP l) (.bl true)
  have:=h.len
  omega
theorem DL.links {n:Int}:∀ {ps:List (List aC × PV)},(∀ p ∈ ps,∃ l:Int × Int,p.1=fP l/\0<=l.1/\l.1 < l.2/\l.2 < n)->∃ ls:List (Int × Int),(ps.map fun p=>PV.tup (p.1.map kP))=dL ls/\(∀ l ∈ ls,0<=l.1/\l.1 < l.2/\l.2 < n)/\ls.length=ps.length/\ps.map (·.1)=ls.map fP
 | [],_=>⟨[],rfl,(fun _ h=>nomatch h),rfl,rfl⟩
 | p :: ps,h=>by
  obtain ⟨l,e,hl⟩:=h p bd0
  obtain ⟨ls,h1,h2,h3,h4⟩:=DL.links (ps:=ps) fun q hq=>h q (be4 _ hq)
  refine⟨l :: ls,?_,fun m hm=>?_,by rw [bh9,bh9,h3],by rw [bh4,bh4,h4,e]⟩
  ·rw [bh4,h1,e]; rfl
  ·rcases bc5.mp hm with rfl | hm
   ·exact hl
   ·exact h2 m hm
theorem aH1 {x:PV}{ns:List Int} (h:gS x ns):(Slot.sh (flat x) x).tag = .rd->flat x=true:=by
 cases flat x <;> intro z <;> cases z
theorem xA (ns:List Int) {k:Int} (h:0<=k):fO (intz ns) (some k) none=intz (ns.drop k.toNat):=by
 unfold fO
 have e1:HT.aY (intz ns).length 0 (some k)=min k.toNat (intz ns).length:=by
  have:=HT.zV (intz ns).length 0 k.toNat
  rw [show ((k.toNat:Nat):Int)=k by omega] at this
  exact this
 have e2:HT.aY (intz ns).length (intz ns).length none=(intz ns).length:=rfl
 rw [e1,e2,aP]
 rw [bk3 (by rw [bj5,aP]; omega)]
 show _=List.map PV.int _
 rw [List.map_drop]
 by_cases hk:k.toNat<=ns.length
 ·rw [Nat.min_eq_left hk]
 ·rw [Nat.min_eq_right (by omega),List.drop_of_length_le (by rw [aP]; omega),List.drop_of_length_le (by rw [aP]; omega)]
theorem p6:∀ {a b:List Int},a.Perm b->a.Pairwise (· <= ·)->b.Pairwise (· <= ·)->a=b:=by
 intro a b h ha hb
 exact h.eq_of_pairwise (fun x y _ _ h1 h2=>Int.le_antisymm h1 h2) ha hb
def S5:bF:=fun xs Q=>∃ ns:List Int,xs = [.scr ns]/\ns.length<=63/\Q (.bl true)
theorem lM.wb {n:Int}{ws:List Int}{ls:List (Int × Int)} (h:lM n ws ls) (hn:n<=40):Wb ws ls:=
 ⟨by have:=h.many; omega,by have:=h.most; omega,fun l hl=>by have:=h.inn l hl; have:=h.many; omega⟩
end Core
namespace PP
open PySem L2 PyProof.Rows
theorem aH2 {P:Program}{w:World}{K:PySem.W.Frag}{mg:Str->Option Value}{base:Heap}{k:Nat}{x:Str}{ps N:List Str}{p:bF}{st:Stmt}{f:Addr}{fd:FuncData} (F:eS K x x st f fd) (S:FnScope N ps (aS st))
  (len:∀ xs Q,p xs Q->xs.length=ps.length)
  (body:∀ (cdv:Value) (A:Around) (outer:List Env) (s:Shared) (H:Hp) (E:XK),c8 k (A.deeper (envOfC x (aS st) s.heap.objs.size f cdv))->
   ∃ t,eZ (dA dG P w K mg base N x (aS st) f cdv A outer s H E).nox (dZ st) t/\∀ xs Q,p xs Q->t { nx:=fun _=>Q .non,rt:=Q } (eY N xs)):cW P w K mg base dG (k+1) f fd ps (oO K p):=by
 refine F.ok S (fun vs H Q E h=>?_) (fun cdv A outer s H vs Q E hr h=>?_)
 ·obtain ⟨xs,Qp,r,q,_⟩:=h
  rw [r.length]; exact len xs Qp q
 ·obtain ⟨xs,Qp,r,q,k⟩:=h
  obtain ⟨t,ht,hq⟩:=body cdv A outer s H E hr
  refine⟨_,ht,fun _=>False,eY N xs,_,rM r,hq xs Qp q,?_,?_,?_,?_⟩
  ·exact fun W' σ' H' ρ' e px q=>k _ _ _ px.same .non q
  ·exact fun v H' x s r q=>k _ _ _ s r q
  ·exact fun W' σ' H' ρ' e px q=>q
  ·exact fun W' σ' H' ρ' e px q=>q
def rZ (K:PySem.W.Frag):Sp:=fun vs H Q _=>∃ (a:Addr) (ns:List Int),vs = [.ref a]/\jD K H a ns/\ns.length<=63/\∀ H',Q (.bl true) H'
theorem aH3 {P:Program}{w:World}{K:PySem.W.Frag}{mg:Str->Option Value}{base:Heap}{k:Nat}{f:Addr}{fd:FuncData} (F:cW P w K mg base dG k f fd ["script"] (oO K Core.S5)):cW P w K mg base dG k f fd ["script"] (rZ K):=
 F.imp fun vs H Q E h=>by
  obtain ⟨a,ns,rfl,hs,hl,q⟩:=h
  refine⟨[.scr ns],fun z=>z = .bl true,.cons (.scr hs) .nil,⟨ns,rfl,hl,rfl⟩,?_⟩
  rintro v H' x _ r rfl
  cases r
  exact q H'
theorem aH4 {K:PySem.W.Frag}{H:Hp}{a:Addr}{ns:List Int} (hO:pY H) (h:aN K H a (ns.map V.int)):jD K H a ns:=by
 rcases h with (h | ⟨o,h⟩) | h
 ·rcases hO a with e | ⟨o,xs,e⟩ <;> (rw [h] at e; cases e)
 ·exact .inl ⟨o,h⟩
 ·exact .inr h
end PP
namespace PyProof.Rows
open PySem
section
variable {prog : Program} {w : World} {A : Around} {E : Value → Shared → Prop} {s : Shared}
theorem aH5 {l:Addr}{vs:List Value}{Q:List Value->Shared->Prop} (hl:s.heap.IsTuple l vs.toArray)
  (h:Q vs { s with heap:=(s.heap.push (seqObj "list" #[] 0)).update s.heap.objs.size (Obj.mapSeq (· ++ vs.toArray)) }) (hsz:vs.length<=sizeLine) :
  wpAny (model prog w) A (collect (.ref l)) Q E s:=by
 obtain ⟨o,ho,hc,n,hd⟩:=id hl
 unfold collect
 refine bb7 (wpAny_runValue (codeAny_builtin entry_proto_collect' ?_))
 show wpAny _ _ (do again (.builtin "list.__iadd__" ⟨[<- newList [],.ref l],[]⟩)) _ _ s
 refine bb7 (wpAny_newList (bc3 ⟨Code.quiet_builtin _ (by decide +kernel),codeAny_builtin entry_list_iadd' ?_⟩))
 show wpAny _ _ (Builtin.List.listExtendWith (.ref s.heap.objs.size) (.ref l) (.ref s.heap.objs.size)) _ _ { s with heap:=s.heap.push (seqObj "list" #[] 0) }
 unfold Builtin.List.listExtendWith
 have ho':(s.heap.push (seqObj "list" #[] 0)).get? l=some o:=bb8 _ ho
 refine bb7 (wpAny_typeOf (T:="tuple") ⟨o,ho',hc⟩ ?_)
 have ht:(Value.type "tuple" == Value.type "tuple")=true:=by rfl
 rw [if_pos (by rw [ht]; simp)]
 refine bb7 (listItems_at ho' hd ?_)
 refine bb7 (listItems_at (xs:=#[]) (n:=0) (bd2 _ rfl) rfl ?_)
 rw [if_neg (by simp)]
 refine bb7 (listUpdate_at (xs:=#[]) (n:=0) (bd2 _ rfl) rfl ?_ (bh2 _) (by show (#[] ++ vs.toArray).size<=sizeLine+1; simp only [Array.size_append,bb9,List.length_nil]; omega))
 refine bc3 ?_
 show wpAny (model prog w) A (do
   let o <- load s.heap.objs.size
   match o.data with
   | .seq xs _=>pure xs.toList
   | _=>unsupported "internal:collect") Q E { s with heap:=(s.heap.push (seqObj "list" #[] 0)).update s.heap.objs.size (Obj.mapSeq (· ++ vs.toArray)) }
 refine bb7 (wpAny_load (get?_update_seq (bd2 _ rfl) _) ?_)
 show wpAny _ _ (pure ((#[]:Array Value) ++ vs.toArray).toList) Q E _
 rw [show ((#[]:Array Value) ++ vs.toArray).toList=vs by simp]
 exact bc3 h
theorem aH6 {l:Addr}{vs:List Value}{ns:List Int}{Q:Value->Shared->Prop} (hl:s.heap.IsTuple l vs.toArray) (hI:IntsAre vs ns) (h64:vs.length < 64)
  (h:∀ (out:Array Value) (ns':List Int),IntsAre out.toList ns'->ns'.Perm ns->ns'.Pairwise (· <= ·)->Q (.ref (s.heap.objs.size+1)) { s with heap:=sortedAll s.heap vs out }) :
  wpAny (model prog w) A (call (.builtin "sorted") [.ref l]) Q E s:=by
 have hsl:vs.length<=sizeLine:=bg0 (bi2 h64) (by decide)
 refine Calls.call_function_entry kind_sorted plain_sorted entry_sorted (args_sorted1 _) ?_
 unfold Builtin.«sorted»
 refine bb7 (m:=checkCount "sorted" 1 1 _) (bc3 ?_)
 refine bb7 (aH5 hl ?_ hsl)
 refine bb7 (wpAny_newList ?_)
 have hsz:((s.heap.push (seqObj "list" #[] 0)).update s.heap.objs.size (Obj.mapSeq (· ++ vs.toArray))).objs.size=s.heap.objs.size+1:=by
  rw [Heap.size_update,size_push']
 have hoL:(((s.heap.push (seqObj "list" #[] 0)).update s.heap.objs.size (Obj.mapSeq (· ++ vs.toArray))).push (seqObj "list" vs.toArray 0)).get? (s.heap.objs.size+1)=some (seqObj "list" vs.toArray 0):=by
  rw [<- hsz]; exact bd2 _ rfl
 show wpAny _ _ _ _ _ { s with heap:=((s.heap.push (seqObj "list" #[] 0)).update s.heap.objs.size (Obj.mapSeq (· ++ vs.toArray))).push (seqObj "list" vs.toArray 0) }
 rw [hsz]
 refine bb7 (bk9 (bi6 slot_list_sort ⟨_,hoL,rfl⟩ entry_list_sort (list_sort_tree hoL hI h64 fun out ns' a1 a2 a3=>⟨_,rfl,?_⟩) (args_list_sort _)))
 exact bc3 ⟨_,rfl,h out ns' a1 a2 a3⟩
end
end PyProof.Rows
namespace PP
open PySem L2 PyProof.Rows
section
variable {X : Cx} {a b e : Expr} {ta tb te : aE} {tr : cI} {pos p2 : Pos}
theorem aH7:cZ X (.builtin "sorted") (fun xs H Q=>∃ a ns,xs = [.ref a]/\(aN X.K H a (ns.map V.int) ∨ aO X.K H a (ns.map V.int))/\ns.length < 64/\∀ l (ms:List Int),H l=none->ms.Perm ns->ms.Pairwise (· <= ·)->Q (.ref l) (upd H l (.lst (ms.map V.int)))):=by
 intro pins s σ H xs us Q I r h
 obtain ⟨a,ns,rfl,hs,h64,q⟩:=h
 rcases hs with hs | hs
 ·exact aq7 pins s σ H _ us Q I r ⟨a,ns,rfl,hs,h64,q⟩
 obtain ⟨u,rfl,ru⟩:=gC r
 cases ru
 obtain ⟨its,rv,p,hz⟩:=I.tuple hs
 have hl:=rv.length
 rw [bc4] at hl
 refine aH6 p (nZ rv) (by omega) fun out ns' a1 a2 a3=>?_
 obtain ⟨e,he⟩:=sortedAll_at s.heap its out
 have hn:s.heap.objs.size<=s.heap.objs.size+1:=Nat.le_succ _
 have hlen:ns'.length=ns.length:=a2.length_eq
 refine⟨.ref (s.heap.objs.size+1),upd H (s.heap.objs.size+1) (.lst (ns'.map V.int)),I.laid (t':=s.toks) (fun _ _=>sortedAll_old) hn ⟨?_,out.toList,e,o9 a1,by simpa using he⟩,rfl,q _ ns' (I.hok.fresh hn) a2 a3⟩
 rw [bc4,hlen]
 exact bi2 (oA (by omega))
def p9:List PV->(PV->Prop)->Prop:=fun xs Q=>∃ x ns,xs = [x]/\iM x=some (intz ns)/\ns.length < 64/\∀ ms:List Int,ms.Perm ns->ms.Pairwise (· <= ·)->Q (.lst (intz ms))
theorem aH8:fM X p9 (fun xs H Q=>∃ a ns,xs = [.ref a]/\(aN X.K H a (ns.map V.int) ∨ aO X.K H a (ns.map V.int))/\ns.length < 64/\∀ l (ms:List Int),H l=none->ms.Perm ns->ms.Pairwise (· <= ·)->Q (.ref l) (upd H l (.lst (ms.map V.int)))):=by
 rintro H vs xs Q Q' r ⟨x,ns,rfl,e,hl,q⟩ k
 obtain ⟨v,rfl,r1⟩:=r.one
 obtain ⟨a,us,rfl,hs,r2⟩:=r1.seq e
 obtain rfl:=r2.ofInts
 exact⟨a,ns,rfl,hs,hl,fun l ms hl' p o=>k _ _ _ (bB hl' _) (.lst hl' b8 (Reps.intz ms)) (q ms p o)⟩
theorem xB (B:Bt X.mg) (ha:QA X [e] tr) (hg:Gl X "sorted":=by rfl) (he:starEach [e] X.env=(false,eval e X.env) :: starEach [] X.env:=by rfl) (hpl:(backTo pos (starEach [] X.env)).any (·.1)=false:=by rfl):QE X (.Call (.Name "sorted" p2) [e] [] pos) (aB p9 tr):=
 kB aH7 aH8 hg B.sorted PyProof.Rows.boot_sorted ha (he:=he) (hpl:=hpl)
def S6:PV->Tg->PV->Tg->PK->Prop:=fun x _ y _ Q=>∃ xs ys,x = .lst xs/\y = .lst ys/\flats xs=true/\flats ys=true/\xs.length+ys.length<=16000000/\Q (.lst (xs ++ ys)) .fr
abbrev xC (ta tb:aE):aE:=q2 S6 ta tb
theorem aH9:eU X S6 B8:=by
 rintro W Hs H u v x y g g' Q Q' s n r1 r2 ⟨xs,ys,rfl,rfl,f1,f2,hl,q⟩ k
 obtain ⟨a,us,rfl,_,h1,q1⟩:=r1.sqL
 obtain ⟨b,ws,rfl,_,h2,q2⟩:=r2.sqL
 have l1:=q1.length
 have l2:=q2.length
 refine⟨a,b,us,ws,rfl,rfl,h1,h2,lim (by omega),fun p hp=>k _ _ _ .fr (bB hp _) (.lst (s.free hp) b8 (((q1.flat f1).append (q2.flat f2)).same (bB hp _) fun _ z=>z)) q⟩
theorem S7 (ha:QE X a ta) (hb:QE X b tb):QE X (.BinOp a .Add b pos) (xC ta tb):=iP am9 aH9 ha hb
end
end PP
namespace L2
open PySem PySem.Spec PyProof.Rows
def xD (K:PySem.W.Frag) (a:Addr):It:=
  ⟨fun i H=>∃ xs x,aN K H a xs/\xs[i]? = some x,
   fun i H v H'=>∃ T x,H T=none/\v = .ref T/\H'=upd H T (.tup [.int i,x])/\∀ xs,aN K H a xs->xs[i]? = some x,
   fun i H=>∃ xs,aN K H a xs/\xs.length<=i⟩
structure aI0 (e it a:Addr) (i:Nat) (h:Heap):Prop where
 ee:∃ old,IsEnum h e it i old
 s1:h.IsListIter it a i
theorem aI1 {P:Program}{w:World}{K:PySem.W.Frag}{elts:List Expr}{k:Nat}{pos:Pos} (a e it:Addr) (d:e ≠ it) :
  gB P w K (.Tuple elts k pos) (xD K a) [e,it] e (aI0 e it a):=by
 refine⟨by simp,fun i h st c hc=>?_,fun i h h' st kp=>?_,?_,?_,fun A i s Q E st q=>?_⟩
 ·simp only [bc5,bc7,bg5] at hc
  obtain ⟨old,ee⟩:=st.ee
  obtain ⟨o1,f1,g1,d1⟩:=st.s1
  rcases hc with rfl | rfl
  ·exact⟨_,ee,fun v q=>by cases q⟩
  ·exact⟨_,f1,fun v q=>by rw [d1] at q; cases q⟩
 ·obtain ⟨old,ee⟩:=st.ee
  exact⟨⟨old,kp e (by simp) _ ee⟩,st.s1.at fun o z=>kp it (by simp) o z⟩
 ·intro X hP hw hK hc i pins s σ H E I hf st hg
  subst hP hw hK
  obtain ⟨xs,x,ha,hx⟩:=hg
  obtain ⟨us,ru,pu,lu⟩:=I.list ha
  obtain ⟨ux,eux,rux⟩:=ru.get hx
  obtain ⟨old,ee⟩:=st.ee
  refine wpAny_pyNext_enum_item ee st.s1 pu.isList (by simpa using eux) d fun h' eo it' pr sz kp=>⟨_,rfl,?_⟩
  refine wpAny_letOwnedTupleGo_enum (s:={ s with heap:=h',toks:=s.toks+1 }) eo fun g zz sb=>?_
  have hzl:e < s.heap.objs.size:=bd3 ee
  have up:∀ c o,c ≠ e->c ≠ it->s.heap.get? c=some o->g.get? c=some o:=fun c o c1 c2 z=>sb.extBut c o c1 (kp c o c1 c2 z)
  have hT:H s.heap.objs.size=none:=I.hok.fresh (bc1 _)
  have prG:g.get? s.heap.objs.size=some { cls:=.type "tuple",data:=.seq #[.int i s.toks,ux] }:=sb.extBut _ _ (bk2 hzl) pr
  have fpn:∀ c u,H c=some u->c ∉ [e,it]:=fun c u z hm=>by rw [(hf c hm).1] at z; cases z
  have upH:∀ c o u,H c=some u->s.heap.get? c=some o->g.get? c=some o:=fun c o u q z=>by
   have:=fpn c u q
   simp only [bc5,bc7,bg5,not_or] at this
   exact up c o this.1 this.2 z
  have ns:∀ m,s.heap.Ns X.env.locals m->g.Ns X.env.locals m:=fun m hm=>by
   obtain ⟨o,es,ep,e1,e2⟩:=hm
   exact⟨o,es,ep,up _ o (Ne.symm (hf e (by simp)).2.1) (Ne.symm (hf it (by simp)).2.1) e1,e2⟩
  have I2:a8 X pins σ (upd H s.heap.objs.size (.tup [.int i,x])) { s with heap:=g,toks:=s.toks+1 }:=by
   refine I.step (g':=s.gens) (d':=s.drawn) (ch:=[e,it]) (fun c hc'=>?_) (fun c o _ _ hc' z _=>?_) (fun c o _ _ hc' z _=>⟨o.slots,?_⟩) (fun c o _ z n=>?_) (fun c o hc' z=>⟨o,?_⟩)
    (fun c zs z=>by rw [aL (cE z hT)]; exact z) (fun c u zs z=>by rw [aL (cE z hT)]; exact z) (fun c ps z=>⟨#[],by rw [aL (cE z hT),z]; simp⟩) ns (fun c u z=>?_) I.bare
   ·exact⟨(hf c hc').2.2.2.1,(hf c hc').2.1,(hf c hc').2.2.2.2.1,(hf c hc').2.2.2.2.2⟩
   ·simp only [bc5,bc7,bg5,not_or] at hc'
    exact up c o hc'.1 hc'.2 z
   ·simp only [bc5,bc7,bg5,not_or] at hc'
    exact up c o hc'.1 hc'.2 z
   ·rw [aL (bf4 (bd3 z))]; exact n
   ·simp only [bc5,bc7,bg5,not_or] at hc'
    exact up c o hc'.1 hc'.2 z
   ·by_cases hcT:c=s.heap.objs.size
    ·subst hcT
     rw [b8] at z; cases z
     exact⟨by show 2<=sizeLine; decide,[.int i s.toks,ux],.cons ⟨_,rfl⟩ (.cons rux .nil),⟨_,prG,rfl,_,rfl⟩⟩
    ·rw [aL hcT] at z
     refine (I.hok c u z).stay (fun c' o' hc2 q'=>?_) (fun c' q'=>by rw [aL (cE q' hT)]; exact q') fun c' zs q'=>by rw [aL (cE q' hT)]; exact q'
     rcases hc2 with rfl | hc2
     ·exact upH _ _ _ z q'
     ·exact upH _ _ _ hc2 q'
  refine⟨.ref s.heap.objs.size,_,I2,rfl,⟨_,x,hT,rfl,rfl,fun xs' ha'=>?_⟩,⟨⟨ux,by push_cast; exact zz⟩,it'.at fun o z=>sb.extBut _ o (Ne.symm d) z⟩,fun c hc'=>?_⟩
  ·rw [I.list_inj ha' ha]; exact hx
  ·obtain ⟨o,z⟩:∃ o,s.heap.get? c=some o:=by
    simp only [bc5,bc7,bg5] at hc'
    obtain ⟨o1,f1,_⟩:=st.s1
    rcases hc' with rfl | rfl
    ·exact⟨_,ee⟩
    ·exact⟨_,f1⟩
   rw [aL (bf4 (bd3 z))]; exact (hf c hc').1
 ·intro X hP hw hK hc i pins s σ H E I hf st hg
  subst hP hw hK
  obtain ⟨xs,ha,hi⟩:=hg
  obtain ⟨us,ru,pu,lu⟩:=I.list ha
  obtain ⟨old,ee⟩:=st.ee
  have hh:X.A.handled=none:=I.ok.hd hc
  have e1:=ru.length
  refine wpAny_pyNext_enum_end hh ee st.s1 pu.isList (by rw [Array.getElem?_eq_none]; simp only [bb9]; omega) fun g kp=>⟨rfl,?_⟩
  have fpn:∀ c u,H c=some u->c ∉ [e,it]:=fun c u z hm=>by rw [(hf c hm).1] at z; cases z
  have upH:∀ c o u,H c=some u->s.heap.get? c=some o->g.get? c=some o:=fun c o u q z=>by
   have:=fpn c u q
   simp only [bc5,bc7,bg5,not_or] at this
   exact kp c o this.2 z
  have ns:∀ m,s.heap.Ns X.env.locals m->g.Ns X.env.locals m:=fun m hm=>by
   obtain ⟨o,es,ep,e1,e2⟩:=hm
   exact⟨o,es,ep,kp _ o (Ne.symm (hf it (by simp)).2.1) e1,e2⟩
  refine I.step (g':=s.gens) (d':=s.drawn) (ch:=[it]) (fun c hc'=>?_) (fun c o _ _ hc' z _=>?_) (fun c o _ _ hc' z _=>⟨o.slots,?_⟩) (fun c o _ z n=>n) (fun c o hc' z=>⟨o,?_⟩)
   (fun c zs z=>z) (fun c u zs z=>z) (fun c ps z=>⟨#[],by rw [z]; simp⟩) ns (fun c u z=>?_) I.bare
  ·have hm:c ∈ [e,it]:=be4 _ hc'
   exact⟨(hf c hm).2.2.2.1,(hf c hm).2.1,(hf c hm).2.2.2.2.1,(hf c hm).2.2.2.2.2⟩
  ·exact kp c o (fun y=>hc' (by rw [y]; simp)) z
  ·exact kp c o (fun y=>hc' (by rw [y]; simp)) z
  ·exact kp c o (fun y=>hc' (by rw [y]; simp)) z
  ·refine (I.hok c u z).stay (fun c' o' hc2 q'=>?_) (fun _ q'=>q') fun _ _ q'=>q'
   rcases hc2 with rfl | hc2
   ·exact upH _ _ _ z q'
   ·exact upH _ _ _ hc2 q'
 ·obtain ⟨old,ee⟩:=st.ee
  exact wpAny_pyIter_enum ee q
end L2
namespace Zp
open PySem PyProof.Rows
section
variable {prog : Program} {w : World} {A : Around} {E : Value → Shared → Prop} {s : Shared}
theorem aI2 {e it t:Addr}{i:Nat}{items:Array Value}{x old:Value}{Q:Option Value->Shared->Prop} (he:IsEnum s.heap e it i old) (hi:s.heap.IsTupleIter it t i) (ht:s.heap.IsTuple t items) (hx:items[i]? = some x) (ne:e ≠ it)
  (q:∀ h',IsEnumOut h' e it ((i:Int)+1) x s.heap.objs.size->h'.IsTupleIter it t (i+1)->h'.get? s.heap.objs.size=some { cls:=.type "tuple",data:=.seq #[.int i s.toks,x] }->h'.objs.size=s.heap.objs.size+1->
   (∀ b o,b ≠ e->b ≠ it->s.heap.get? b=some o->h'.get? b=some o)->Q (some (.ref s.heap.objs.size)) { s with heap:=h',toks:=s.toks+1 }):wpAny (model prog w) A (pyNext (.ref e)) Q E s:=by
 have T:s.TypeIs (.ref e) "enumerate":=⟨_,he,rfl⟩
 have slot:=PySem.F.slot_enumerate_next
 unfold pyNext
 apply bb7
 apply wpAny_attempt
 apply bi4 (name:=Str.ofString "__next__") T slot
 apply bi6 slot T PySem.F.entry_enumerate_next _ (PySem.F.args_enumerate_next_1 _)
 change wpAny _ _ (field (.ref e) 2 >>= _) _ _ _
 apply bb7
 refine bi3 he rfl (x:=.ref it) rfl ?_
 apply bb7
 refine G9 hi ht hx fun g1 it1 sb1=>?_
 have e1:IsEnum g1 e it i old:=sb1.extBut _ _ ne he
 change wpAny _ _ (field (.ref e) 3 >>= _) _ _ _
 apply bb7
 refine bi3 e1 rfl (x:=rawInt i) rfl ?_
 change wpAny _ _ (field (.ref e) 4 >>= _) _ _ _
 apply bb7
 refine bi3 e1 rfl (x:=.none) rfl ?_
 change wpAny _ _ (mkInt i >>= _) _ _ _
 apply bb7
 refine wpAny_mkInt ?_
 change wpAny _ _ (setField (.ref e) 3 (rawInt ((i:Int)+1)) >>= _) _ _ _
 apply bb7
 refine bj3 e1 (by simp) fun g2 e2 sb2=>?_
 apply bb7
 refine bj3 e2 (by simp) fun g3 e3 sb3=>?_
 have e3:IsEnum g3 e it ((i:Int)+1) old:=e3
 apply bb7
 refine wpAny_newTuple ?_ (by show 2<=sizeLine; decide)
 have e4:IsEnum (g3.push { cls:=.type "tuple",data:=.seq #[.int i s.toks,x] }) e it ((i:Int)+1) old:=bb8 _ e3
 have size:g3.objs.size=s.heap.objs.size:=by rw [sb3.1,sb2.1,sb1.1]
 change wpAny _ _ (Builtin.SmallTypes.ownedTupleIsFree (.ref e) >>= _) _ _ _
 apply bb7
 unfold Builtin.SmallTypes.ownedTupleIsFree
 apply bb7
 refine bi3 e4 rfl (x:=.none) rfl (bc3 ?_)
 simp only [if_true]
 apply bb7
 apply wpAny_rule
 apply bb7
 refine bi3 e4 rfl (x:=old) rfl ?_
 apply bb7
 refine bj3 e4 (by simp) fun g5 e5 sb5=>?_
 apply bb7
 unfold Builtin.SmallTypes.ownedTupleHandOut
 apply bb7
 refine bj3 e5 (by simp) fun g6 e6 sb6=>?_
 refine bj3 e6 (by simp) fun g7 e7 sb7=>?_
 have e7:IsEnumOut g7 e it ((i:Int)+1) x g3.objs.size:=e7
 have elt:e < g3.objs.size:=bd3 e3
 have up:∀ c o,c ≠ e->(g3.push { cls:=.type "tuple",data:=.seq #[.int i s.toks,x] }).get? c=some o->g7.get? c=some o:=fun c o c1 z=>sb7.extBut c o c1 (sb6.extBut c o c1 (sb5.extBut c o c1 z))
 have up3:∀ c o,c ≠ e->g1.get? c=some o->g7.get? c=some o:=fun c o c1 z=>up c o c1 (bb8 _ (sb3.extBut c o c1 (sb2.extBut c o c1 z)))
 have p7:g7.get? g3.objs.size=some { cls:=.type "tuple",data:=.seq #[.int i s.toks,x] }:=up _ _ (bk2 elt) (bd2 _ rfl)
 have s7:g7.objs.size=g3.objs.size+1:=by rw [sb7.1,sb6.1,sb5.1,bm6]
 apply bb7
 apply wpAny_letGo
 apply bc3
 rw [size] at e7 p7 s7
 refine⟨_,rfl,bc3 ?_⟩
 change Q (some (.ref g3.objs.size)) _
 rw [size]
 exact q g7 e7 (it1.at fun o z=>up3 it o (Ne.symm ne) z) p7 s7 fun b o b1 b2 z=>up3 b o b1 (sb1.extBut b o b2 z)
theorem aI3 {e it t:Addr}{i:Nat}{items:Array Value}{old:Value}{Q:Option Value->Shared->Prop} (hh:A.handled=none) (he:IsEnum s.heap e it i old) (hi:s.heap.IsTupleIter it t i) (ht:s.heap.IsTuple t items) (hx:items[i]? = none)
  (q:∀ h',Heap.ExtBut it s.heap h'->Q none { s with heap:=h' }):wpAny (model prog w) A (pyNext (.ref e)) Q E s:=by
 have T:s.TypeIs (.ref e) "enumerate":=⟨_,he,rfl⟩
 have slot:=PySem.F.slot_enumerate_next
 unfold pyNext
 apply bb7
 apply wpAny_attempt
 apply bi4 (name:=Str.ofString "__next__") T slot
 apply bi6 slot T PySem.F.entry_enumerate_next _ (PySem.F.args_enumerate_next_1 _)
 change wpAny _ _ (field (.ref e) 2 >>= _) _ _ _
 apply bb7
 refine bi3 he rfl (x:=.ref it) rfl ?_
 apply bb7
 refine J0 hh hi ht hx fun g2 ex eb exo=>?_
 obtain ⟨oe,eo,co⟩:=exo
 apply bb7
 refine wpAny_isInstance (T:="StopIteration") (b:=true) ⟨oe,eo,co⟩ isSubtype_stop ?_
 exact bc3 (q g2 eb)
theorem aI4 {M:Model}{A:Around}{E:Value->Shared->Prop}{s:Shared}{α:Type}{c:Prop} [Decidable c] {m n:Sem α}{Q:α->Shared->Prop} (h1:wpAny M A m Q E s) (h2:wpAny M A n Q E s):wpAny M A (if c then m else n) Q E s:=by
 split
 ·exact h1
 ·exact h2
theorem aI5 (t:Addr) (xs:Array Value):Meets (Builtin.«enumerate.__new__» ⟨[.type "enumerate",.ref t],[]⟩) (fun _ R s=>s.heap.IsTuple t xs/\R (.ok (.ret (.ref (s.heap.objs.size+1)))) { s with heap:=(s.heap.push { cls:=.type "tuple_iterator",data:=.fields #[.ref t,.int 0 0] }).push { cls:=.type "enumerate",data:=.fields #[.none,.bool false,.ref s.heap.objs.size,rawInt 0,.none,.none] } }):=
 .of_wp fun prog w A R s h=>by
  obtain ⟨hp,g,d,tk,os⟩:=s
  obtain ⟨ht,h⟩:=h
  have sub:=sub_enumerate
  have a1:Heap.IsTuple (Shared.heap ⟨hp,g,d,tk,os⟩) t xs:=ht
  wp_walk using bn6 a1
  refine wpAny_stack_any fun st=>bc3 ?_
  refine aI4 ?_ ?_
  all_goals
   apply bb7
   refine wpAny_of_eq (a:=(Value.ref t,none)) rfl ?_
   wp_walk using bn6 a1
   have e:∀ (o:Obj) (k:Heap),(k.push o).objs.size=k.objs.size+1:=fun o k=>bm6 ..
   refine⟨_,rfl,?_⟩
   simp only [e] at h ⊢
   exact h
theorem aI6 {t:Addr}{xs:Array Value}{Q:Value->Shared->Prop} (ht:s.heap.IsTuple t xs)
  (q:∀ h',IsEnum h' (s.heap.objs.size+1) s.heap.objs.size 0 .none->h'.IsTupleIter s.heap.objs.size t 0->h'.objs.size=s.heap.objs.size+2->(∀ c o,s.heap.get? c=some o->h'.get? c=some o)->Q (.ref (s.heap.objs.size+1)) { s with heap:=h' }) :
  wpAny (model prog w) A (call (.type "enumerate") [.ref t]) Q E s:=by
 refine callType_new PySem.F.called_enumerate (by decide) (PySem.F.typeCall_enumerate_1 _) (PySem.F.newCall_enumerate_1 _) (fun obj=>PySem.F.args_object_init_2 obj _) PySem.F.entry_enumerate_new (aI5 t xs) ⟨ht,?_⟩
 have e:∀ (o:Obj) (k:Heap),(k.push o).objs.size=k.objs.size+1:=fun o k=>bm6 ..
 have g0:((s.heap.push { cls:=.type "tuple_iterator",data:=.fields #[.ref t,.int 0 0] }).push { cls:=.type "enumerate",data:=.fields #[.none,.bool false,.ref s.heap.objs.size,rawInt 0,.none,.none] }).get? s.heap.objs.size=some { cls:=.type "tuple_iterator",data:=.fields #[.ref t,.int 0 0] }:=bb8 _ (bd2 _ rfl)
 have g1:((s.heap.push { cls:=.type "tuple_iterator",data:=.fields #[.ref t,.int 0 0] }).push { cls:=.type "enumerate",data:=.fields #[.none,.bool false,.ref s.heap.objs.size,rawInt 0,.none,.none] }).get? (s.heap.objs.size+1)=some { cls:=.type "enumerate",data:=.fields #[.none,.bool false,.ref s.heap.objs.size,rawInt 0,.none,.none] }:=by
  have:=bd2 (h:=s.heap.push { cls:=.type "tuple_iterator",data:=.fields #[.ref t,.int 0 0] }) (o:={ cls:=.type "enumerate",data:=.fields #[.none,.bool false,.ref s.heap.objs.size,rawInt 0,.none,.none] }) rfl
  rw [e] at this; exact this
 exact⟨⟨_,g1,rfl⟩,q _ g1 ⟨_,g0,rfl,rfl⟩ (by rw [e,e]) fun c o z=>bb8 _ (bb8 _ z)⟩
end
end Zp
namespace L2
open PySem PySem.Spec PyProof.Rows
def xE (K:PySem.W.Frag) (a:Addr):It:=
  ⟨fun i H=>∃ xs x,aO K H a xs/\xs[i]? = some x,
   fun i H v H'=>∃ T x,H T=none/\v = .ref T/\H'=upd H T (.tup [.int i,x])/\∀ xs,aO K H a xs->xs[i]? = some x,
   fun i H=>∃ xs,aO K H a xs/\xs.length<=i⟩
structure aI7 (e it a:Addr) (i:Nat) (h:Heap):Prop where
 ee:∃ old,IsEnum h e it i old
 s1:h.IsTupleIter it a i
theorem aI8 {P:Program}{w:World}{K:PySem.W.Frag}{elts:List Expr}{k:Nat}{pos:Pos} (a e it:Addr) (d:e ≠ it) :
  gB P w K (.Tuple elts k pos) (xE K a) [e,it] e (aI7 e it a):=by
 refine⟨by simp,fun i h st c hc=>?_,fun i h h' st kp=>?_,?_,?_,fun A i s Q E st q=>?_⟩
 ·simp only [bc5,bc7,bg5] at hc
  obtain ⟨old,ee⟩:=st.ee
  obtain ⟨o1,f1,g1,d1⟩:=st.s1
  rcases hc with rfl | rfl
  ·exact⟨_,ee,fun v q=>by cases q⟩
  ·exact⟨_,f1,fun v q=>by rw [d1] at q; cases q⟩
 ·obtain ⟨old,ee⟩:=st.ee
  exact⟨⟨old,kp e (by simp) _ ee⟩,st.s1.at fun o z=>kp it (by simp) o z⟩
 ·intro X hP hw hK hc i pins s σ H E I hf st hg
  subst hP hw hK
  obtain ⟨xs,x,ha,hx⟩:=hg
  obtain ⟨us,ru,pu,lu⟩:=I.tuple ha
  obtain ⟨ux,eux,rux⟩:=ru.get hx
  obtain ⟨old,ee⟩:=st.ee
  refine Zp.aI2 ee st.s1 pu (by simpa using eux) d fun h' eo it' pr sz kp=>⟨_,rfl,?_⟩
  refine wpAny_letOwnedTupleGo_enum (s:={ s with heap:=h',toks:=s.toks+1 }) eo fun g zz sb=>?_
  have hzl:e < s.heap.objs.size:=bd3 ee
  have up:∀ c o,c ≠ e->c ≠ it->s.heap.get? c=some o->g.get? c=some o:=fun c o c1 c2 z=>sb.extBut c o c1 (kp c o c1 c2 z)
  have hT:H s.heap.objs.size=none:=I.hok.fresh (bc1 _)
  have prG:g.get? s.heap.objs.size=some { cls:=.type "tuple",data:=.seq #[.int i s.toks,ux] }:=sb.extBut _ _ (bk2 hzl) pr
  have fpn:∀ c u,H c=some u->c ∉ [e,it]:=fun c u z hm=>by rw [(hf c hm).1] at z; cases z
  have upH:∀ c o u,H c=some u->s.heap.get? c=some o->g.get? c=some o:=fun c o u q z=>by
   have:=fpn c u q
   simp only [bc5,bc7,bg5,not_or] at this
   exact up c o this.1 this.2 z
  have ns:∀ m,s.heap.Ns X.env.locals m->g.Ns X.env.locals m:=fun m hm=>by
   obtain ⟨o,es,ep,e1,e2⟩:=hm
   exact⟨o,es,ep,up _ o (Ne.symm (hf e (by simp)).2.1) (Ne.symm (hf it (by simp)).2.1) e1,e2⟩
  have I2:a8 X pins σ (upd H s.heap.objs.size (.tup [.int i,x])) { s with heap:=g,toks:=s.toks+1 }:=by
   refine I.step (g':=s.gens) (d':=s.drawn) (ch:=[e,it]) (fun c hc'=>?_) (fun c o _ _ hc' z _=>?_) (fun c o _ _ hc' z _=>⟨o.slots,?_⟩) (fun c o _ z n=>?_) (fun c o hc' z=>⟨o,?_⟩)
    (fun c zs z=>by rw [aL (cE z hT)]; exact z) (fun c u zs z=>by rw [aL (cE z hT)]; exact z) (fun c ps z=>⟨#[],by rw [aL (cE z hT),z]; simp⟩) ns (fun c u z=>?_) I.bare
   ·exact⟨(hf c hc').2.2.2.1,(hf c hc').2.1,(hf c hc').2.2.2.2.1,(hf c hc').2.2.2.2.2⟩
   ·simp only [bc5,bc7,bg5,not_or] at hc'
    exact up c o hc'.1 hc'.2 z
   ·simp only [bc5,bc7,bg5,not_or] at hc'
    exact up c o hc'.1 hc'.2 z
   ·rw [aL (bf4 (bd3 z))]; exact n
   ·simp only [bc5,bc7,bg5,not_or] at hc'
    exact up c o hc'.1 hc'.2 z
   ·by_cases hcT:c=s.heap.objs.size
    ·subst hcT
     rw [b8] at z; cases z
     exact⟨by show 2<=sizeLine; decide,[.int i s.toks,ux],.cons ⟨_,rfl⟩ (.cons rux .nil),⟨_,prG,rfl,_,rfl⟩⟩
    ·rw [aL hcT] at z
     refine (I.hok c u z).stay (fun c' o' hc2 q'=>?_) (fun c' q'=>by rw [aL (cE q' hT)]; exact q') fun c' zs q'=>by rw [aL (cE q' hT)]; exact q'
     rcases hc2 with rfl | hc2
     ·exact upH _ _ _ z q'
     ·exact upH _ _ _ hc2 q'
  refine⟨.ref s.heap.objs.size,_,I2,rfl,⟨_,x,hT,rfl,rfl,fun xs' ha'=>?_⟩,⟨⟨ux,by push_cast; exact zz⟩,it'.at fun o z=>sb.extBut _ o (Ne.symm d) z⟩,fun c hc'=>?_⟩
  ·rw [I.tuple_inj ha' ha]; exact hx
  ·obtain ⟨o,z⟩:∃ o,s.heap.get? c=some o:=by
    simp only [bc5,bc7,bg5] at hc'
    obtain ⟨o1,f1,_⟩:=st.s1
    rcases hc' with rfl | rfl
    ·exact⟨_,ee⟩
    ·exact⟨_,f1⟩
   rw [aL (bf4 (bd3 z))]; exact (hf c hc').1
 ·intro X hP hw hK hc i pins s σ H E I hf st hg
  subst hP hw hK
  obtain ⟨xs,ha,hi⟩:=hg
  obtain ⟨us,ru,pu,lu⟩:=I.tuple ha
  obtain ⟨old,ee⟩:=st.ee
  have hh:X.A.handled=none:=I.ok.hd hc
  have e1:=ru.length
  refine Zp.aI3 hh ee st.s1 pu (by rw [Array.getElem?_eq_none]; simp only [bb9]; omega) fun g kp=>⟨rfl,?_⟩
  have fpn:∀ c u,H c=some u->c ∉ [e,it]:=fun c u z hm=>by rw [(hf c hm).1] at z; cases z
  have upH:∀ c o u,H c=some u->s.heap.get? c=some o->g.get? c=some o:=fun c o u q z=>by
   have:=fpn c u q
   simp only [bc5,bc7,bg5,not_or] at this
   exact kp c o this.2 z
  have ns:∀ m,s.heap.Ns X.env.locals m->g.Ns X.env.locals m:=fun m hm=>by
   obtain ⟨o,es,ep,e1,e2⟩:=hm
   exact⟨o,es,ep,kp _ o (Ne.symm (hf it (by simp)).2.1) e1,e2⟩
  refine I.step (g':=s.gens) (d':=s.drawn) (ch:=[it]) (fun c hc'=>?_) (fun c o _ _ hc' z _=>?_) (fun c o _ _ hc' z _=>⟨o.slots,?_⟩) (fun c o _ z n=>n) (fun c o hc' z=>⟨o,?_⟩)
   (fun c zs z=>z) (fun c u zs z=>z) (fun c ps z=>⟨#[],by rw [z]; simp⟩) ns (fun c u z=>?_) I.bare
  ·have hm:c ∈ [e,it]:=be4 _ hc'
   exact⟨(hf c hm).2.2.2.1,(hf c hm).2.1,(hf c hm).2.2.2.2.1,(hf c hm).2.2.2.2.2⟩
  ·exact kp c o (fun y=>hc' (by rw [y]; simp)) z
  ·exact kp c o (fun y=>hc' (by rw [y]; simp)) z
  ·exact kp c o (fun y=>hc' (by rw [y]; simp)) z
  ·refine (I.hok c u z).stay (fun c' o' hc2 q'=>?_) (fun _ q'=>q') fun _ _ q'=>q'
   rcases hc2 with rfl | hc2
   ·exact upH _ _ _ z q'
   ·exact upH _ _ _ hc2 q'
 ·obtain ⟨old,ee⟩:=st.ee
  exact wpAny_pyIter_enum ee q
section
variable {X : Cx}
def S8 (K:PySem.W.Frag) (ta:TA):TI:=fun σ H R=>ta σ H fun vs H1=>∃ a,vs = [.ref a]/\((∃ xs,aN K H1 a xs/\R (xD K a) H1) ∨ (∃ xs,aO K H1 a xs/\R (xE K a) H1))
theorem aI9 {elts:List Expr}{kt:Nat}{pt:Pos}{a:Expr}{ta:TA}{p pos:Pos} (hg:Gl X "enumerate") (hm:X.mg "enumerate" = none) (ha:PA X [a] ta) (hs:starEach [a] X.env = [(false,eval a X.env)]:=by rfl) :
  PI X (.Tuple elts kt pt) (.Call (.Name "enumerate" p) [a] [] pos) (S8 X.K ta):=by
 intro pins s σ H R I h
 refine Call_ (iI I hg hm PyProof.Rows.boot_enumerate (bh6 (aQ (ha pos pins s σ H _ I h) fun us s1 ⟨vs,H1,I1,r1,q1⟩=>?_) (by rw [hs]; rfl) (by rfl)))
 obtain ⟨a',e,q⟩:=q1
 subst e
 have fresh:∀ k,H1 (s1.heap.objs.size+k)=none:=fun k=>I1.hok.fresh (bi8 _ _)
 cases r1 with
 | cons r rr=>
  cases rr
  cases r
  rcases q with ⟨xs,h1,q⟩ | ⟨xs,h1,q⟩
  ·obtain ⟨us,_,p1,_⟩:=I1.list h1
   refine call_enumerate_list p1.isList fun h' z s1' sz kp=>wpAny_pyIter_enum z ?_
   refine⟨s1.heap.objs.size+1,[s1.heap.objs.size+1,s1.heap.objs.size],_,_,H1,rfl,I1.kept (t':=s1.toks) kp,
    aI1 a' _ _ (Nat.succ_ne_self _),⟨⟨_,z⟩,s1'⟩,fun c hc=>?_,q⟩
   simp only [bc5,bc7,bg5] at hc
   rcases hc with rfl | rfl
   ·exact I1.fpOk (bi8 _ _) (fresh 1)
   ·exact I1.fpOk (bc1 _) (fresh 0)
  ·obtain ⟨us,_,p1,_⟩:=I1.tuple h1
   refine Zp.aI6 p1 fun h' z s1' sz kp=>wpAny_pyIter_enum z ?_
   refine⟨s1.heap.objs.size+1,[s1.heap.objs.size+1,s1.heap.objs.size],_,_,H1,rfl,I1.kept (t':=s1.toks) kp,
    aI8 a' _ _ (Nat.succ_ne_self _),⟨⟨_,z⟩,s1'⟩,fun c hc=>?_,q⟩
   simp only [bc5,bc7,bg5] at hc
   rcases hc with rfl | rfl
   ·exact I1.fpOk (bi8 _ _) (fresh 1)
   ·exact I1.fpOk (bc1 _) (fresh 0)
end
end L2
namespace Zp
open PySem PyProof.Rows
theorem aJ0 (t b:Addr) (xs ys:Array Value) (n n2:Nat) (dd dd2:Option Addr) (sl sl2:Array (Option Value)) (hx:xs.isEmpty=true):Meets (Builtin.«tuple.__add__» ⟨[.ref t,.ref b],[]⟩)
  (fun _ R s=>s.heap.get? t=some { cls:=.type "tuple",dict:=dd,data:=.seq xs n,slots:=sl }/\s.heap.get? b=some { cls:=.type "tuple",dict:=dd2,data:=.seq ys n2,slots:=sl2 }/\R (.ok (.ret (.ref b))) s):=
 .of_wp fun prog w A R s h=>by
  obtain ⟨h1,h2,h⟩:=h
  have sub:isSubtype (Value.type "tuple") (Value.type "tuple")=pure true:=rfl
  wp_walk
  exact⟨_,rfl,h⟩
end Zp
namespace L2
open PySem PySem.Spec PyProof.Rows
section
variable {X : Cx}
def S9 (K:PySem.W.Frag):R2:=fun x y H Q=>∃ a b xs ys,x = .ref a/\y = .ref b/\aO K H a xs/\aO K H b ys/\xs.length+ys.length<=sizeLine/\
 (xs = []->Q (.ref b) H)/\(xs ≠ []->ys = []->Q (.ref a) H)/\(xs ≠ []->ys ≠ []->∀ p,H p=none->Q (.ref p) (upd H p (.tup (xs ++ ys))))
theorem aJ1:cF X (binaryOp .Add) (S9 X.K):=by
 intro pins s σ H x y v u Q I rx ry h
 obtain ⟨a,b,xs,ys,ex,ey,ha,hb,hz,q0,q1,q2⟩:=h
 by_cases hx:xs = []
 ·subst ex ey
  cases rx
  cases ry
  obtain ⟨its,r1,p1,_⟩:=I.tuple ha
  obtain ⟨its2,r2,p2,_⟩:=I.tuple hb
  have hi:its = []:=r1.nil_iff.mpr hx
  obtain ⟨⟨cls,dd,data,sl⟩,ho,hc,n,hd⟩:=id p1
  obtain ⟨⟨cls2,dd2,data2,sl2⟩,ho2,hc2,n2,hd2⟩:=id p2
  simp only at hc hd hc2 hd2
  subst hc hd hc2 hd2
  exact concat_meets ⟨_,ho,rfl⟩ ⟨_,ho2,rfl⟩ noFill_tuple_add seq_tuple_add PySem.F.slot_tuple_add PySem.F.entry_tuple_add (PySem.F.args_tuple_add_2 _ _)
   (Zp.aJ0 a b its.toArray its2.toArray n n2 dd dd2 sl sl2 (by simp [hi])) ⟨ho,ho2,⟨.ref b,H,I,rfl,q0 hx⟩⟩
 ·exact al0 pins s σ H x y v u Q I rx ry ⟨a,b,xs,ys,ex,ey,ha,hb,hx,hz,q1 hx,q2 hx⟩
end
end L2
namespace PP
open PySem L2 PyProof.Rows
def jK (xs:List PV):List PV:=xs.mapIdx fun i x=>PV.tup [.int (i:Int),x]
theorem s0 (xs:List PV):(jK xs).length=xs.length:=by unfold jK; rw [List.length_mapIdx]
theorem T0 {xs:List PV}{i:Nat}{x:PV} (h:xs[i]? = some x):(jK xs)[i]? = some (.tup [.int (i:Int),x]):=by
 unfold jK; rw [List.getElem?_mapIdx,h]; rfl
theorem T1 {xs:List PV}{i:Nat}{z:PV} (h:(jK xs)[i]? = some z):∃ x,xs[i]? = some x/\z = .tup [.int (i:Int),x]:=by
 unfold jK at h
 rw [List.getElem?_mapIdx] at h
 cases e:xs[i]? with
 | none=>rw [e] at h; cases h
 | some x=>rw [e] at h; exact⟨x,rfl,(be8 h).symm⟩
def sA (te:aE):eJ:=fun ρ Q=>te ρ fun x g=>∃ xs,(x = .lst xs ∨ x = .tup xs)/\(g = .rd->flat x=true)/\Q (jK xs) (l9 g xs)
theorem aJ2 {K:PySem.W.Frag}{H0:Hp}{W:Addr->Prop}{g:Bool}{H1:Hp}{a:Addr}{us:List V}{xs:List PV} (tw:∀ a,W a->∃ o,H1 a=some o/\fV o=true) (ha:∀ W' H',Ev W H1 W' H'->aN K H' a us) (r:Reps K (Ms H0 W g) H1 us xs):mL K H0 W g H1 (xD K a) (jK xs):=by
 have lr:=r.length
 have ll:=s0 xs
 refine⟨fun W' H' i e hi=>⟨us,us[i]'(by omega),ha W' H' e,by simp⟩,fun W' H' i v H2 e y hi=>?_,fun W' H' e=>⟨us,ha W' H' e,by omega⟩⟩
 obtain ⟨T,x,hT,rfl,rfl,y⟩:=y
 obtain ⟨z,hz,rz⟩:=r.get (y us (ha W' _ e))
 have sm:=bB hT (HO.tup [.int (i:Int),x])
 exact⟨sm,_,T0 hz,.tup b8 (.cons (.int _) (.cons ((rz.keep (e.keep tw)).same sm fun _ q=>q) .nil))⟩
theorem aJ3 {K:PySem.W.Frag}{H0:Hp}{W:Addr->Prop}{g:Bool}{H1:Hp}{a:Addr}{us:List V}{xs:List PV} (tw:∀ a,W a->∃ o,H1 a=some o/\fV o=true) (ha:∀ W' H',Ev W H1 W' H'->aO K H' a us) (r:Reps K (Ms H0 W g) H1 us xs):mL K H0 W g H1 (xE K a) (jK xs):=by
 have lr:=r.length
 have ll:=s0 xs
 refine⟨fun W' H' i e hi=>⟨us,us[i]'(by omega),ha W' H' e,by simp⟩,fun W' H' i v H2 e y hi=>?_,fun W' H' e=>⟨us,ha W' H' e,by omega⟩⟩
 obtain ⟨T,x,hT,rfl,rfl,y⟩:=y
 obtain ⟨z,hz,rz⟩:=r.get (y us (ha W' _ e))
 have sm:=bB hT (HO.tup [.int (i:Int),x])
 exact⟨sm,_,T0 hz,.tup b8 (.cons (.int _) (.cons ((rz.keep (e.keep tw)).same sm fun _ q=>q) .nil))⟩
section
variable {X : Cx} {σ : L2.St} {H : Hp} {te : aE} {R : It → Hp → Prop}
theorem aJ4 (h:LI X (sA te) σ H R):S8 X.K (gZ (LE X te) j5) σ H R:=by
 obtain ⟨W,ρ,Q,px,q,k⟩:=h
 refine⟨W,ρ,_,px,q,?_⟩
 rintro v H1 x g s r ⟨xs,hx,hg,q⟩
 have px1:=px.mono s
 have tw:∀ a,W a->∃ o,H1 a=some o/\fV o=true:=fun a z=>(px1.wm a z).2
 rcases hx with rfl | rfl
 ·obtain ⟨a,us,rfl,m,h,r⟩:=r.sqL
  have wa : ¬ W a:=by
   cases g with
   | fr=>exact (px.new m).1
   | nw=>exact m.1
   | sh=>exact m
   | rd=>have:=hg rfl; unfold flat at this; cases this
  exact⟨a,rfl,.inl ⟨us,aN.of h,k _ _ _ _ s (aJ2 tw (fun W' H' e=>aN.of (e _ _ h wa).1) (lA px (fun z=>by have:=hg z; unfold flat at this; cases this) r)) q⟩⟩
 ·obtain ⟨a,us,rfl,h,r⟩:=r.sqT
  refine⟨a,rfl,.inr ⟨us,aO.of h,k _ _ _ _ s (aJ3 tw (fun W' H' e=>aO.of (e _ _ h fun z=>?_).1) (lA px (fun z=>by have:=hg z; unfold flat at this; exact this) r)) q⟩⟩
  obtain ⟨o,h',mu⟩:=tw _ z; rw [h] at h'; cases h'; cases mu
theorem T2 {elts:List Expr}{kt:Nat}{pt p2 pos:Pos}{a:Expr}{ta:aE} (hg:Gl X "enumerate") (hm:X.mg "enumerate" = none) (ha:QE X a ta) (hs:starEach [a] X.env = [(false,eval a X.env)]:=by rfl):QI X (.Tuple elts kt pt) (.Call (.Name "enumerate" p2) [a] [] pos) (sA ta):=
 oU (aI9 hg hm (dD ha dY hs) hs) fun _ _ _=>aJ4
end
section
variable {X : Cx} {e : Expr} {te : aE} {pos p2 : Pos} {scope : Scope} {N : List Str} {fr : List (Option Nat)} {x y : Str} {tp xp yp : Pos} {kt : Nat} {iter elt : Expr} {ti : eJ}
abbrev kF (x y:Str) (xp yp:Pos) (kt:Nat) (tp:Pos):Expr:=.Tuple [.Name x xp,.Name y yp] kt tp
theorem xF {ifs:List Expr}{tcs:bT} (hc:X.calm=true) (he:∀ (s:Shared) (H:Hp) (C:Addr) (fp:List Addr),QE (b9 X scope N s H C fp bH) elt te) (hi:∀ (s:Shared) (H:Hp) (C:Addr) (fp:List Addr),jA (b9 X scope N s H C fp bH) ifs (LT (b9 X scope N s H C fp bH) tcs))
  (hN:N.Nodup) (h0:N[0]? = some x) (h1:N[1]? = some y) (hl:∀ (s:Shared) (H:Hp) (C:Addr) (fp:List Addr),(b9 X scope N s H C fp bH).env.scope.names.lookup x=some .local) (hl2:∀ (s:Shared) (H:Hp) (C:Addr) (fp:List Addr),(b9 X scope N s H C fp bH).env.scope.names.lookup y=some .local) (s:Shared) (H:Hp) :
  kU X scope N (kF x y xp yp kt tp) ifs elt s H (iK X.K 2 (dR (bX 0) (dR (bX 1) iJ))) (LT (X.frm H) tcs) (LE (X.frm H) te):=
 ⟨fun C fp=>m5 (X:=b9 X scope N s H C fp bH) hc (g9 (eR hN h0 (.inl (hl s H C fp)) (.inr (hl s H C fp))) (g9 (eR hN h1 (.inl (hl2 s H C fp)) (.inr (hl2 s H C fp))) m3)),fun C fp=>hi s H C fp,fun C fp=>he s H C fp⟩
theorem aJ5 (hi:QI X (kF x y xp yp kt tp) iter ti) (he:∀ (s:Shared) (H:Hp) (C:Addr) (fp:List Addr),QE (b9 X scope N s H C fp bH) elt te)
  (hc:X.calm=true:=by rfl) (S:cA X scope N fr:=by exact cA.of rfl rfl) (hN:N.Nodup:=by decide +kernel) (h0:N[0]? = some x:=by rfl) (h1:N[1]? = some y:=by rfl) (hl:∀ (s:Shared) (H:Hp) (C:Addr) (fp:List Addr),(b9 X scope N s H C fp bH).env.scope.names.lookup x=some .local:=by intro _ _ _ _; rfl) (hl2:∀ (s:Shared) (H:Hp) (C:Addr) (fp:List Addr),(b9 X scope N s H C fp bH).env.scope.names.lookup y=some .local:=by intro _ _ _ _; rfl) (hf:fr[0]? = some none:=by rfl) (hf2:fr[1]? = some none:=by rfl)
  (hs:∀ x,foldedSetIterable iter X.env x=pure x:=by intro _; rfl):QE X (.ListComp elt [⟨kF x y xp yp kt tp,iter,[],0⟩] scope pos) (cG ti fr (i5 0 1) dO te):=
 bY (oD (gh:=fun _=>iK X.K 2 (dR (bX 0) (dR (bX 1) iJ))) (tch:=fun H=>LT (X.frm H) dO) (teh:=fun H=>LE (X.frm H) te) hc S hi (xF hc he (fun _ _ _ _=>rN) hN h0 h1 hl hl2) hs) fun _ _ _=>jZ (qZ _ 0 1) (fun i e=>by rcases e with e | e <;> (subst e; assumption))
theorem aJ6 {c:Expr}{tcs:bT} (hi:QI X (kF x y xp yp kt tp) iter ti) (ht:∀ (s:Shared) (H:Hp) (C:Addr) (fp:List Addr),QT (b9 X scope N s H C fp bH) c tcs) (he:∀ (s:Shared) (H:Hp) (C:Addr) (fp:List Addr),QE (b9 X scope N s H C fp bH) elt te)
  (hc:X.calm=true:=by rfl) (S:cA X scope N fr:=by exact cA.of rfl rfl) (hN:N.Nodup:=by decide +kernel) (h0:N[0]? = some x:=by rfl) (h1:N[1]? = some y:=by rfl) (hl:∀ (s:Shared) (H:Hp) (C:Addr) (fp:List Addr),(b9 X scope N s H C fp bH).env.scope.names.lookup x=some .local:=by intro _ _ _ _; rfl) (hl2:∀ (s:Shared) (H:Hp) (C:Addr) (fp:List Addr),(b9 X scope N s H C fp bH).env.scope.names.lookup y=some .local:=by intro _ _ _ _; rfl) (hf:fr[0]? = some none:=by rfl) (hf2:fr[1]? = some none:=by rfl)
  (hs:∀ x,foldedSetIterable iter X.env x=pure x:=by intro _; rfl):QE X (.ListComp elt [⟨kF x y xp yp kt tp,iter,[c],0⟩] scope pos) (cG ti fr (i5 0 1) tcs te):=
 bY (oD (gh:=fun _=>iK X.K 2 (dR (bX 0) (dR (bX 1) iJ))) (tch:=fun H=>LT (X.frm H) tcs) (teh:=fun H=>LE (X.frm H) te) hc S hi (xF hc he (fun s H C fp=>oB (ht s H C fp)) hN h0 h1 hl hl2) hs) fun _ _ _=>jZ (qZ _ 0 1) (fun i e=>by rcases e with e | e <;> (subst e; assumption))
theorem aJ7 {c:Expr}{tcs:bT}{i:Nat}{z:Str}{zp:Pos} (nd:X.N.Nodup) (hi:QI X (kF x y xp yp kt tp) iter ti) (ht:∀ (s:Shared) (H:Hp) (C:Addr) (fp:List Addr),QT (b9 X scope N s H C fp bH) c tcs) (he:∀ (s:Shared) (H:Hp) (C:Addr) (fp:List Addr),QE (b9 X scope N s H C fp bH) elt te)
  (hz:X.N[i]? = some z:=by rfl) (hzl:X.env.scope.names.lookup z=some .local:=by rfl) (hsw:swapsWith (.ListComp elt [⟨kF x y xp yp kt tp,iter,[c],0⟩] scope p2) (some (.Name z zp)) pos.line X.env=pure true:=by rfl)
  (hc:X.calm=true:=by rfl) (S:cA X scope N fr:=by exact cA.of rfl rfl) (hN:N.Nodup:=by decide +kernel) (h0:N[0]? = some x:=by rfl) (h1:N[1]? = some y:=by rfl) (hl:∀ (s:Shared) (H:Hp) (C:Addr) (fp:List Addr),(b9 X scope N s H C fp bH).env.scope.names.lookup x=some .local:=by intro _ _ _ _; rfl) (hl2:∀ (s:Shared) (H:Hp) (C:Addr) (fp:List Addr),(b9 X scope N s H C fp bH).env.scope.names.lookup y=some .local:=by intro _ _ _ _; rfl) (hf:fr[0]? = some none:=by rfl) (hf2:fr[1]? = some none:=by rfl)
  (hs:∀ x,foldedSetIterable iter X.env x=pure x:=by intro _; rfl):QS X (.Assign [.Name z zp] (.ListComp elt [⟨kF x y xp yp kt tp,iter,[c],0⟩] scope p2) pos) (b5 i (cG ti fr (i5 0 1) tcs te)):=
 cO (qJ (gh:=fun _=>iK X.K 2 (dR (bX 0) (dR (bX 1) iJ))) (tch:=fun H=>LT (X.frm H) tcs) (teh:=fun H=>LE (X.frm H) te) hc S hi (xF hc he (fun s H C fp=>oB (ht s H C fp)) hN h0 h1 hl hl2) nd hz hzl hsw hs) fun D σ H h=>jZ (qZ _ 0 1) (fun i e=>by rcases e with e | e <;> (subst e; assumption)) (qW h)
end
section
variable {X : Cx} {a b e o f : Expr} {ta tb te td tk tx : aE} {pos p2 apos cpos : Pos} {σ : L2.St} {H : Hp} {Q' : VK}
theorem aJ8 {x:Str}{n:Int}{t:Nat} (hg:Gl X x) (hm:X.mg x=some (.int n t)) (hd:(x == ("__debug__" : Str))=false:=by decide):QE X (.Name x pos) (qC (.int n)):=
 bY (yJ (v:=.int n) hg hm ⟨t,rfl⟩ hd) fun _ _ _=>oH fun _=>.int n
end
section
variable {X : Cx} {a b : Expr} {ta tb : aE} {pos : Pos}
def T3:PV->Tg->PV->Tg->PK->Prop:=fun x _ y _ Q=>∃ xs ys,x = .tup xs/\y = .tup ys/\flats xs=true/\flats ys=true/\xs.length+ys.length<=16000000/\Q (.tup (xs ++ ys)) .fr
abbrev pA (ta tb:aE):aE:=q2 T3 ta tb
theorem aJ9:eU X T3 (S9 X.K):=by
 rintro W Hs H u v x y g g' Q Q' s n r1 r2 ⟨xs,ys,rfl,rfl,f1,f2,hl,q⟩ k
 obtain ⟨a,us,rfl,h1,q1⟩:=r1.sqT
 obtain ⟨b,ws,rfl,h2,q2⟩:=r2.sqT
 have l1:=q1.length
 have l2:=q2.length
 refine⟨a,b,us,ws,rfl,rfl,aO.of h1,aO.of h2,lim (by omega),fun z=>?_,fun _ z=>?_,fun _ _ p hp=>k _ _ _ .fr (bB hp _) (.tup b8 (((q1.flat f1).append (q2.flat f2)).same (bB hp _) fun _ z=>z)) q⟩
 ·obtain rfl:xs = []:=by cases xs with
   | nil=>rfl
   | cons _ _=>rw [z] at l1; cases l1
  exact k _ _ _ .fr (aD.refl _) (.tup h2 (q2.flat f2)) q
 ·obtain rfl:ys = []:=by cases ys with
   | nil=>rfl
   | cons _ _=>rw [z] at l2; cases l2
  rw [be6] at q
  exact k _ _ _ .fr (aD.refl _) (.tup h1 (q1.flat f1)) q
theorem sB (ha:QE X a ta) (hb:QE X b tb):QE X (.BinOp a .Add b pos) (pA ta tb):=iP aJ1 aJ9 ha hb
end
end PP
namespace Core
open PySem L2 PP
section
variable (ws : List Int) (ls : List (Int × Int)) (os ns : List Int)
def cV:Nat->List Int
 | 0=>[]
 | k+1=>cV k ++ (os.find? (kin ws ls (ns ++ cV k))).toList
def iE (k:Nat):Option Int:=os.find? (kin ws ls (ns ++ cV ws ls os ns k))
def pB (k:Nat):Prop:=(∀ j < k,iE ws ls os ns j ≠ none)/\iE ws ls os ns k=none
end
section
variable {ws : List Int} {ls : List (Int × Int)} {os ns : List Int}
theorem aK0 {m n:Nat} (h:pB ws ls os ns m) (g:pB ws ls os ns n):m=n:=by
 rcases Nat.lt_trichotomy m n with z | z | z
 ·exact absurd h.2 (g.1 m z)
 ·exact z
 ·exact absurd g.2 (h.1 n z)
theorem T4 {k:Nat}{h:Int} (e:iE ws ls os ns k=some h):cV ws ls os ns (k+1)=cV ws ls os ns k ++ [h]:=by
 show cV ws ls os ns k ++ (iE ws ls os ns k).toList=_
 rw [e]; rfl
theorem sC {S T:List Int}{h:Int} (hk:kin ws ls S h=true) (st:∀ x ∈ S,x ∈ T) (hn:h ∉ T):kin ws ls T h=true:=by
 unfold kin at hk ⊢
 rw [bd8] at hk ⊢
 refine⟨by rw [bc8 hn]; rfl,bd4 ?_⟩
 have h1:=bm8 hk.2
 have h2:((cQ ls h).filter fun x=>decide (x ∈ S)).length<=((cQ ls h).filter fun x=>decide (x ∈ T)).length:=by
  rw [<- List.countP_eq_length_filter,<- List.countP_eq_length_filter]
  exact List.countP_mono_left fun x _ hx=>bd4 (st x (bm8 hx))
 omega
def eO (ws:List Int) (ls:List (Int × Int)) (T:List Int):Prop:=∀ h ∈ rng ws.length,kin ws ls T h=false
theorem T5 {T:List Int} (sh:eO ws ls T) (st:∀ x ∈ ns,x ∈ T):∀ k,∀ x ∈ b7 ws ls ns k,x ∈ T
 | 0,x,hx=>st x hx
 | k+1,x,hx=>by
  have ih:=T5 sh st k
  rcases bf0.mp (show x ∈ b7 ws ls ns k ++ nextOf ws ls (b7 ws ls ns k) from hx) with hx | hx
  ·exact ih x hx
  ·have hx:=bk8.mp hx
   by_cases e:x ∈ T
   ·exact e
   ·have:=sC hx.2 ih e
    rw [sh x hx.1] at this; cases this
theorem aK1 {k:Nat}{h:Int} (e:iE ws ls os ns k=some h):h ∈ os/\h ∉ ns ++ cV ws ls os ns k:=
 ⟨List.mem_of_find?_eq_some e,bl9 (oY (List.find?_some e))⟩
theorem xG (po:os.Perm (rng ws.length)) (hs:aW ws.length ns=true):∀ k,(ns ++ cV ws ls os ns k).Nodup/\∀ x ∈ ns ++ cV ws ls os ns k,x ∈ rng ws.length
 | 0=>by
  rw [show cV ws ls os ns 0 = [] from rfl,be6]
  exact⟨(jI (gQ hs).1).imp fun h=>Int.ne_of_lt h,fun x hx=>iS.mpr ((gQ hs).2 x hx)⟩
 | k+1=>by
  obtain ⟨i1,i2⟩:=xG po hs k
  cases e:iE ws ls os ns k with
  | none=>
   have:cV ws ls os ns (k+1)=cV ws ls os ns k:=by
    show cV ws ls os ns k ++ (iE ws ls os ns k).toList=_
    rw [e]; exact be6 _
   rw [this]; exact⟨i1,i2⟩
  | some h=>
   obtain ⟨n1,n2⟩:=aK1 e
   rw [T4 e,<- bf5]
   refine⟨bg7.mpr ⟨i1,bf8 _ _,fun x hx y hy=>?_⟩,fun x hx=>?_⟩
   ·rw [bd1.mp hy]; intro z; subst z; exact n2 hx
   ·rcases bf0.mp hx with hx | hx
    ·exact i2 x hx
    ·rw [bd1.mp hx]; exact po.mem_iff.mp n1
theorem xH (po:os.Perm (rng ws.length)) (hs:aW ws.length ns=true) (k:Nat):ns.length+(cV ws ls os ns k).length<=ws.length:=by
 obtain ⟨i1,i2⟩:=xG (ls:=ls) po hs k
 have:=i1.length_le_of_subset i2
 rw [gP,bc0] at this
 exact this
theorem xI (hs:aW ws.length ns=true):∀ k,(b7 ws ls ns k).Nodup
 | 0=>(jI (gQ hs).1).imp fun h=>Int.ne_of_lt h
 | k+1=>by
  show (b7 ws ls ns k ++ nextOf ws ls (b7 ws ls ns k)).Nodup
  refine bg7.mpr ⟨xI hs k,(x9 ws.length).filter _,fun x hx y hy=>?_⟩
  intro z; subst z
  exact bl9 (oY (bk8.mp hy).2) hx
end
def sD:bF:=fun xs Q=>∃ ws ls x os,xs = [aZ ws ls,x]/\ws.length<=40/\bS x os/\os.Perm (rng ws.length)/\Q (.bl true)
def T6:aH:=(bC (q2 (i8 2 false) (aB p9 (a6 (a5 1) a9)) (x4 (aB iT (a6 (a5 0) a9)))))
theorem T7 (n:Nat):(rng n).Pairwise (· <= ·):=by
 unfold rng
 rw [bl5]
 exact List.pairwise_lt_range.imp fun h=>by omega
theorem aK2:cU T6 ["web","numbers"] sD:=by
 rintro xs Q ⟨ws,ls,x,os,rfl,few,hx,po,q⟩
 have lo:=po.length_eq
 rw [gP] at lo
 refine⟨_,rfl,_,os,rfl,hx.seq,by omega,fun ms pm sm=>?_⟩
 obtain rfl:ms=rng ws.length:=p6 (pm.trans po) sm (T7 _)
 refine⟨_,rfl,ws,ls,rfl,_,rfl,by omega,by omega,?_⟩
 rw [S0]
 refine⟨.inr ⟨_,_,rfl,rfl⟩,M4 2 _ _,trivial,?_⟩
 show Q (.bl (cN 3 (.lst (intz (rng ws.length))) (.lst (intz (rng ((ws.length:Int).toNat))))))
 rw [show ((ws.length:Int).toNat)=ws.length from rfl,M0,bd4 rfl]
 exact q
def T8:Option Int->PV
 | none=>.non
 | some h=>.int h
def pC:bF:=fun xs Q=>∃ ws ls ps S x os,xs = [aZ ws ls,.lst (fY ws.length ls),.dK ps,x]/\Wb ws ls/\DS ps S/\bS x os/\(∀ h ∈ os,h ∈ rng ws.length)/\Q (T8 (os.find? (kin ws ls S)))
def T9:aH:=(aG (dU (dE (a5 3)) (bK 4)
  (bL (aU (aB iW (a6 (a5 0) (a6 (a5 1) (a6 (a5 2) (a6 (a5 4) a9)))))) (dJ 4) cC))
 (bC (qC .non)))
theorem aK3 {os:List Int}{p:Int->Bool}{i:Nat}{h:Int} (e:(os.take i).find? p=none) (hh:os[i]? = some h):(p h=true->os.find? p=some h)/\(p h=false->(os.take (i+1)).find? p=none):=by
 constructor
 ·intro hp
  have h1:os=os.take (i+1) ++ os.drop (i+1):=(bn4 _ _).symm
  rw [h1,List.find?_append,bf9,hh,List.find?_append,e]
  simp [hp]
 ·intro hp
  rw [bf9,hh,List.find?_append,e]
  simp [hp]
theorem aK4:cU T9 ["web","around","burning","order","hearth"] pC:=by
 rintro xs Q ⟨ws,ls,ps,S,x,os,rfl,wb,d,hx,inn,q⟩
 refine⟨_,rfl,_,hx.seq,kD hx,fun i ρ=>∃ y,ρ = [some (.sh (flat (aZ ws ls)) (aZ ws ls)),some (.sh (flat (.lst (fY ws.length ls))) (.lst (fY ws.length ls))),some (.sh (flat (.dK ps)) (.dK ps)),some (.sh (flat x) x),y]/\(os.take i).find? (kin ws ls S)=none,⟨none,rfl,rfl⟩,?_,?_⟩
 ·rintro i y ρ hy ⟨y0,rfl,fn⟩
  obtain ⟨h,rfl,hh⟩:=fB hy
  have hm:=iS.mp (inn h (be1 hh))
  have ft:=aK3 fn hh
  refine⟨_,rfl,_,rfl,_,rfl,_,rfl,ws,ls,ps,S,h,rfl,wb,d,hm.1,hm.2,_,rfl,?_⟩
  cases hk:kin ws ls S h with
  | true=>
   refine aV ⟨_,rfl,?_,?_⟩
   ·show Slot.nw (.sh (_ || true) _)
    rw [Bool.or_true]; trivial
   ·rw [ft.1 hk] at q; exact q
  | false=>exact aR ⟨some (.sh (_ || true) (.int h)),rfl,ft.2 hk⟩
 ·rintro ρ ⟨y,rfl,fn⟩
  rw [aP,bf1] at fn
  rw [fn] at q
  exact⟨trivial,q⟩
theorem lO {i:Nat}{h:Int}{g:Bool}{ρ:bG}{Q:bG->Prop} (q:Q (ρ.set i (some (.sh true (.int h))))):bK i (.int h) g ρ Q:=by
 show Q (ρ.set i (some (.sh (g || true) (.int h))))
 rw [Bool.or_true]; exact q
def aK5 (ns S:List Int):Int:=(ns.length:Int) - (((ns.filter fun x=>decide (x ∈ S)).length:Nat):Int)
def aK6 (ws:List Int) (ls:List (Int × Int)) (S:List Int) (h:Int):Bool:=decide (aK5 (cQ ls h) S < ws.getD h.toNat 0)
def stay (ws:List Int) (ls:List (Int × Int)) (S:List Int):List Int:=S.filter (aK6 ws ls S)
end Core
namespace Raw
open PySem PySem.W PyProof.Rows
section
variable {prog : Program} {w : World} {A : Around} {E : Value → Shared → Prop} {s : Shared} {T : String} {r d : Addr} {n : Nat} {P : Nat → Value → Prop} {OK : Heap → Prop}
theorem aK7 {R:Result->Shared->Prop} (K:KdlSrc prog w T r d n P OK) (hh:A.handled=none) (hok:OK s.heap) (hn:n<=sizeLine)
  (hR:∀ h' tk acc c,(∀ b o,b ≠ s.heap.objs.size->(s.heap.push { cls:=.type "list",data:=.seq ([]:List Value).toArray }).get? b=some o->h'.get? b=some o)->h'.get? s.heap.objs.size=some { cls:=.type "list",dict:=none,data:=.seq acc c,slots:=#[] }->ItemsOf P acc n->R (.ok (.ret (.ref s.heap.objs.size))) { s with heap:=h',toks:=tk }) :
  codeAny (model prog w) A (.builtin "proto.collect" ⟨[.ref r],[]⟩) R s:=by
 have lt:=K.there _ hok
 refine codeAny_builtin PySem.F.entry_proto_collect ?_
 rw [Around.under_plainId PySem.F.plain_proto_collect _]
 show wpAny _ A.in1 (newList [] >>= fun l=>again (.builtin "list.__iadd__" ⟨[l,.ref r],[]⟩)) _ _ s
 refine bb7 (bk0 ?_)
 refine bc3 ⟨plainId_quiet PySem.F.plain_list_iadd _,codeAny_builtin PySem.F.entry_list_iadd ?_⟩
 rw [Around.under_plainId PySem.F.plain_list_iadd _]
 show wpAny _ A.in1 (Builtin.List.listExtendWith (.ref s.heap.objs.size) (.ref r) (.ref s.heap.objs.size)) _ _ _
 exact kdl_extend (s:={ s with heap:=s.heap.push { cls:=.type "list",data:=.seq ([]:List Value).toArray } }) (R:=R) K hh (K.keep _ _ hok fun b _ o e=>bb8 _ e) s.heap.objs.size (bk2 lt.1) (bk2 lt.2) _ 0 (bd2 _ rfl) hR hn
theorem aK8 {Q:List Value->Shared->Prop} (K:KdlSrc prog w T r d n P OK) (hh:A.handled=none) (hok:OK s.heap) (hn:n<=sizeLine)
  (hQ:∀ h' tk acc,(∀ b o,s.heap.get? b=some o->h'.get? b=some o)->s.heap.objs.size<=h'.objs.size->ItemsOf P acc n->Q acc.toList { s with heap:=h',toks:=tk }) :
  wpAny (model prog w) A (collect (.ref r)) Q E s:=by
 unfold collect
 refine bb7 (wpAny_runValue (aK7 (s:=s) K hh hok hn fun h' tk acc c kp at1 it=>?_))
 show wpAny _ A (load s.heap.objs.size >>= _) _ _ _
 refine bb7 (wpAny_load at1 ?_)
 exact bc3 (hQ h' tk acc (fun b o e=>kp b o (bf4 (bd3 e)) (bb8 _ e)) (bi2 (bd3 at1)) it)
theorem aK9 {Q:Value->Shared->Prop}{G:List Int->Prop} (K:KdlSrc prog w T r d n P OK) (hh:A.handled=none) (hok:OK s.heap) (hn:n < 64)
  (hI:∀ acc,ItemsOf P acc n->∃ ns,IntsAre acc.toList ns/\G ns)
  (h:∀ h' tk a (out:Array Value) (ns ns':List Int) e,(∀ b o,s.heap.get? b=some o->h'.get? b=some o)->s.heap.objs.size<=a->h'.get? a=some (seqObj "list" out e)->IntsAre out.toList ns'->G ns->ns'.Perm ns->ns'.Pairwise (· <= ·)->Q (.ref a) { s with heap:=h',toks:=tk }) :
  wpAny (model prog w) A (call (.builtin "sorted") [.ref r]) Q E s:=by
 have hsl:n<=sizeLine:=bg0 (bi2 hn) (by decide)
 refine Calls.call_function_entry kind_sorted plain_sorted entry_sorted (args_sorted1 _) ?_
 unfold Builtin.«sorted»
 refine bb7 (m:=checkCount "sorted" 1 1 _) (bc3 ?_)
 refine bb7 (aK8 (s:=s) K hh hok hsl fun h' tk acc kp hs it=>?_)
 obtain ⟨ns,hi,g⟩:=hI acc it
 have hz:acc.toList.length < 64:=by rw [bn1,it.1]; exact hn
 refine bb7 (wpAny_newList ?_ (bg0 (bi2 hz) (by decide)))
 have hoL:(h'.push (seqObj "list" acc.toList.toArray 0)).get? h'.objs.size=some (seqObj "list" acc.toList.toArray 0):=bd2 _ rfl
 show wpAny _ _ _ _ _ { s with heap:=h'.push (seqObj "list" acc.toList.toArray 0),toks:=tk }
 refine bb7 (bk9 (bi6 slot_list_sort ⟨_,hoL,rfl⟩ entry_list_sort (list_sort_tree hoL hi hz fun out ns' a1 a2 a3=>⟨_,rfl,?_⟩) (args_list_sort _)))
 obtain ⟨e,he⟩:=sortedHeap_at (vs:=acc.toList) (out:=out) hoL
 refine bc3 ⟨_,rfl,h _ tk h'.objs.size out ns ns' e (fun b o hb=>?_) hs he a1 g a2 a3⟩
 have lt:=bd3 (kp b o hb)
 rw [sortedHeap_old (bf4 lt) (by rw [size_push']; exact Nat.lt_succ_of_lt lt)]
 exact bb8 _ (kp b o hb)
end
end Raw
namespace L2
open PySem PySem.Spec PyProof.Rows
section
variable {X : Cx}
theorem aL0 (hc:X.calm=true):cZ X (.builtin "sorted") (fun xs H Q=>∃ a kvs ns,xs = [.ref a]/\H a=some (.dK kvs)/\kvs.map (·.1)=ns.map Sum.inl/\ns.length < 64/\∀ l (ms:List Int),H l=none->ms.Perm ns->ms.Pairwise (· <= ·)->Q (.ref l) (upd H l (.lst (ms.map V.int)))):=by
 intro pins s σ H xs us Q I r h
 obtain ⟨a,kvs,ns,rfl,ha,hk,h64,q⟩:=h
 obtain ⟨u,rfl,ru⟩:=gC r
 cases ru
 obtain ⟨es,ep,rd,far,vk,z⟩:=ar1 I ha
 have hl:=vk.length
 have hl2:=congrArg List.length hk
 rw [bc4,bc4] at hl hl2
 have hsz:es.toList.length=es.size:=bn1
 have e1:(kvs.map fun p=>kV p.1)=ns.map V.int:=by
  have:(kvs.map fun p=>kV p.1)=(kvs.map (·.1)).map kV:=by rw [bk5]; rfl
  rw [this,hk,bk5]; rfl
 rw [e1] at vk
 refine Raw.aK9 (G:=fun ms=>ms=ns) (Raw.G3 far) (I.ok.hd hc) rd (by omega) (fun acc it=>⟨ns,by rw [G5 it]; exact nZ vk,rfl⟩) fun h' tk l out ns1 ns' e kp hn he a1 g a2 a3=>?_
 subst g
 have hlen:ns'.length=ns1.length:=a2.length_eq
 refine⟨.ref l,upd H l (.lst (ns'.map V.int)),I.laid (t':=tk) kp hn ⟨?_,out.toList,e,o9 a1,by simpa using he⟩,rfl,q _ ns' (I.hok.fresh hn) a2 a3⟩
 rw [bc4,hlen]
 exact bi2 (oA (by omega))
end
end L2
namespace PP
open PySem L2 PyProof.Rows
section
variable {X : Cx} {a b e : Expr} {ta tb te : aE} {tr : cI} {pos p2 : Pos}
def xJ:List PV->(PV->Prop)->Prop:=fun xs Q=>∃ (ps:List (aC × PV)) (ns:List Int),xs = [.dK ps]/\ps.map (·.1)=ns.map Sum.inl/\ns.length < 64/\∀ ms:List Int,ms.Perm ns->ms.Pairwise (· <= ·)->Q (.lst (intz ms))
theorem aL1:fM X xJ (fun xs H Q=>∃ a kvs ns,xs = [.ref a]/\H a=some (.dK kvs)/\kvs.map (·.1)=ns.map Sum.inl/\ns.length < 64/\∀ l (ms:List Int),H l=none->ms.Perm ns->ms.Pairwise (· <= ·)->Q (.ref l) (upd H l (.lst (ms.map V.int)))):=by
 rintro H vs xs Q Q' r ⟨ps,ns,rfl,e,hl,q⟩ k
 obtain ⟨v,rfl,r1⟩:=r.one
 cases r1 with
 | @dK a kvs _ m h e2 r2=>
  exact⟨a,kvs,ns,rfl,h,e2.trans e,hl,fun l ms hl' p o=>k _ _ _ (bB hl' _) (.lst hl' b8 (Reps.intz ms)) (q ms p o)⟩
theorem aL2 (B:Bt X.mg) (hc:X.calm=true) (ha:QA X [e] tr) (hg:Gl X "sorted":=by rfl) (he:starEach [e] X.env=(false,eval e X.env) :: starEach [] X.env:=by rfl) (hpl:(backTo pos (starEach [] X.env)).any (·.1)=false:=by rfl):QE X (.Call (.Name "sorted" p2) [e] [] pos) (aB xJ tr):=
 kB (aL0 hc) aL1 hg B.sorted PyProof.Rows.boot_sorted ha (he:=he) (hpl:=hpl)
end
end PP
namespace Core
open PySem L2 PP
def gT (k:Nat) (r:List Int):List (aC × PV):=r.map fun h=>((Sum.inl h:aC),PV.int (k:Int))
def jL (rs:List (List Int)):List (aC × PV):=(rs.mapIdx gT).flatten
theorem aL3 (rs:List (List Int)) (r:List Int):jL (rs ++ [r])=jL rs ++ gT rs.length r:=by
 unfold jL
 rw [List.mapIdx_append,List.flatten_append]
 simp
theorem U0 (k:Nat) (r:List Int):(gT k r).map (·.1)=r.map Sum.inl:=by
 unfold gT; rw [bk5]; rfl
theorem U1:∀ (rs:List (List Int)) (g:Nat->Nat),((rs.mapIdx fun i r=>gT (g i) r).flatten).map (·.1)=rs.flatten.map (Sum.inl:Int->aC)
 | [],_=>rfl
 | r :: t,g=>by
  rw [List.mapIdx_cons,bm4,bm4,be7,be7,U0,U1 t fun i=>g (i+1)]
theorem U2 (rs:List (List Int)):(jL rs).map (·.1)=rs.flatten.map (Sum.inl:Int->aC):=U1 rs fun i=>i
theorem aL4 {ps:List (aC × PV)}{h:Int}{v:PV}{S:List Int} (e:ps.map (·.1)=S.map Sum.inl) (hn:h ∉ S):cJ ps (Sum.inl h:aC) v=ps ++ [(Sum.inl h,v)]:=by
 unfold cJ
 rw [if_neg]
 intro z
 rw [List.any_eq_true] at z
 obtain ⟨p,hp,hq⟩:=z
 have:p.1 ∈ ps.map (·.1):=bj1.mpr ⟨p,hp,rfl⟩
 rw [e,bm8 hq] at this
 obtain ⟨y,hy,e2⟩:=bj1.mp this
 exact hn (Sum.inl.inj e2 ▸ hy)
theorem aL5 {k:Nat}{r:List Int}{i:Nat}{n:Int} (h:r[i]? = some n):gT k (r.take (i+1))=gT k (r.take i) ++ [(Sum.inl n,PV.int (k:Int))]:=by
 unfold gT
 rw [bf9,h,be7]; rfl
theorem aL6 {xs:List PV}{w:Int} (h:0<=w):fO xs none (some w)=xs.take w.toNat:=by
 unfold fO
 rw [HT.aj9,List.drop_zero,Nat.sub_zero]
 have:HT.aY xs.length xs.length (some w)=min w.toNat xs.length:=by
  show (if w < 0 then (w+(xs.length:Int)).toNat else min w.toNat xs.length)=_
  rw [if_neg (by omega)]
 rw [this,<- List.take_take,bf1]
theorem aL7 (g:Tg) (n:Int):vL g (.int n):=by cases g <;> first | exact trivial | rfl
end Core
namespace L2
open PySem PySem.Spec PyProof.Rows
theorem U3:∀ (n:Nat) (ns:List Int),n<=ns.length->preSum (fun i=>ns.getD i 0) n=(ns.take n).sum
 | 0,_,_=>by simp [preSum]
 | n+1,ns,h=>by
  show preSum (fun i=>ns.getD i 0) n+ns.getD n 0=_
  have h1:ns[n]? = some (ns[n]'(by omega)):=bc2 (by omega)
  have h2:ns.take (n+1)=ns.take n ++ [ns[n]'(by omega)]:=by rw [bf9,h1]; rfl
  have h3:ns.getD n 0=ns[n]'(by omega):=by rw [bd6,h1]; rfl
  rw [U3 n ns (by omega),h2,h3,List.sum_append,List.sum_cons,List.sum_nil]
  omega
section
variable {X : Cx}
theorem aL8 (hc:X.calm=true):cZ X (.builtin "sum") (fun xs H Q=>∃ (a:Addr) (ns:List Int),xs = [.ref a]/\(aN X.K H a (ns.map V.int) ∨ aO X.K H a (ns.map V.int))/\Q (.int ns.sum) H):=by
 intro pins s σ H xs us Q I r h
 obtain ⟨a,ns,rfl,hq,q⟩:=h
 obtain ⟨u,rfl,ru⟩:=gC r
 cases ru
 have hh:X.A.in1.handled=none:=I.ok.hd hc
 have fin:∀ (its:List Value) (o:Obj) (wr:List Addr) (hw:∀ b ∈ wr,s.heap.objs.size<=b),aK (ns.map V.int) its->∀ s' t',Moved wr (fun a b=>b=a) { s with heap:=s.heap.push o } s'->
   ∃ x H',a8 X pins σ H' s'/\aX x (.int (preSum (fun i=>ns.getD i 0) its.toArray.size) t')/\Q x H':=fun its o wr hw rv s' t' hm=>by
  have hl:=rv.length
  rw [bc4] at hl
  have e:=Moved.eq_with hm
  have e2:preSum (fun i=>ns.getD i 0) its.toArray.size=ns.sum:=by rw [bb9,<- hl,U3 _ _ (bc1 _),bf1]
  rw [e2,e]
  refine⟨.int ns.sum,H,I.kept (t':=s'.toks) (h':=s'.heap) fun b o' eb=>hm.heap b o' (fun z=>?_) (bb8 _ eb),⟨t',rfl⟩,q⟩
  exact absurd (bd3 eb) (Nat.not_lt.mpr (hw b z))
 have val:∀ (its:List Value),aK (ns.map V.int) its->∀ (i:Nat) (v:Value),its.toArray[i]? = some v->∃ t,v = .int (ns.getD i 0) t:=fun its rv i v hv=>by
  have hi:its[i]? = some v:=by simpa using hv
  have hl:=rv.length
  rw [bc4] at hl
  have hil:i < ns.length:=by rw [hl]; exact (bc6.mp hi).1
  obtain ⟨u,e1,e2⟩:=rv.get (i:=i) (x:=.int ns[i]) (by simp [hil])
  rw [hi] at e1; cases e1
  obtain ⟨t,rfl⟩:=e2
  exact⟨t,by rw [bd6,bc2 hil]; rfl⟩
 rcases hq with hq | hq
 ·obtain ⟨its,rv,p,hz⟩:=I.list hq
  have hlt:a < s.heap.objs.size:=by obtain ⟨o,e,_⟩:=p.isList; exact bd3 e
  refine call_sum_walkAnyS (wpAny_pyIter_list p.isList ?_)
  refine⟨s.heap.objs.size,_,_,_,_,_,_,fun i=>ns.getD i 0,rfl,(Walks.list hh s.heap.objs.size a (bf4 hlt) its.toArray).toS,⟨⟨_,bd2 _ rfl,rfl,rfl⟩,p.isList.push _⟩,?_,val its rv,fun s' t' hm=>fin its _ _ ?_ rv s' t' hm⟩
  ·intro b hb
   have hs:(s.heap.push { cls:=.type "list_iterator",data:=.fields #[.ref a,.int 0 0] }).objs.size=s.heap.objs.size+1:=size_push' _ _
   show b < (s.heap.push _).objs.size
   rw [size_push']
   rcases bc5.mp hb with rfl | hb
   ·exact Nat.lt_succ_self _
   ·rw [bd1.mp hb]; exact Nat.lt_succ_of_lt hlt
  ·intro b hb
   rw [bd1.mp hb]; exact bc1 _
 ·obtain ⟨its,rv,p,hz⟩:=I.tuple hq
  have hlt:a < s.heap.objs.size:=by obtain ⟨o,e,_⟩:=p; exact bd3 e
  refine call_sum_walkAnyS (bn6 p ?_)
  refine⟨s.heap.objs.size,_,_,_,_,_,_,fun i=>ns.getD i 0,rfl,(Walks.tuple hh s.heap.objs.size a (bf4 hlt) its.toArray).toS,⟨⟨_,bd2 _ rfl,rfl,rfl⟩,?_⟩,?_,val its rv,fun s' t' hm=>fin its _ _ ?_ rv s' t' hm⟩
  ·obtain ⟨o,e,h⟩:=p
   exact⟨o,bb8 _ e,h⟩
  ·intro b hb
   show b < (s.heap.push _).objs.size
   rw [size_push']
   rcases bc5.mp hb with rfl | hb
   ·exact Nat.lt_succ_self _
   ·rw [bd1.mp hb]; exact Nat.lt_succ_of_lt hlt
  ·intro b hb
   rw [bd1.mp hb]; exact bc1 _
end
end L2
namespace PP
open PySem L2 PyProof.Rows
section
variable {X : Cx} {a b e : Expr} {ta tb te : aE} {tr : cI} {pos p2 : Pos}
def sE:List PV->(PV->Prop)->Prop:=fun xs Q=>∃ x ns,xs = [x]/\iM x=some (intz ns)/\Q (.int ns.sum)
theorem aL9:fM X sE (fun xs H Q=>∃ (a:Addr) (ns:List Int),xs = [.ref a]/\(aN X.K H a (ns.map V.int) ∨ aO X.K H a (ns.map V.int))/\Q (.int ns.sum) H):=by
 rintro H vs xs Q Q' r ⟨x,ns,rfl,e,q⟩ k
 obtain ⟨v,rfl,r1⟩:=r.one
 obtain ⟨a,us,rfl,hs,r2⟩:=r1.seq e
 obtain rfl:=r2.ofInts
 exact⟨a,ns,rfl,hs,k _ _ _ (aD.refl _) (.int _) q⟩
theorem U4 (B:Bt X.mg) (hc:X.calm=true) (ha:QA X [e] tr) (hg:Gl X "sum":=by rfl) (he:starEach [e] X.env=(false,eval e X.env) :: starEach [] X.env:=by rfl) (hpl:(backTo pos (starEach [] X.env)).any (·.1)=false:=by rfl):QE X (.Call (.Name "sum" p2) [e] [] pos) (aB sE tr):=
 kB (aL8 hc) aL9 hg B.sum PyProof.Rows.boot_sum ha (he:=he) (hpl:=hpl)
end
end PP
namespace Core
open PySem L2 PP
theorem v7 {ls:List (Int × Int)}{wts:List Int} (e:wts.length=ls.length):(ls.zip wts).map (·.2)=wts:=by
 rw [List.map_snd_zip]; omega
section
variable {ws : List Int} {ls : List (Int × Int)} {ns wts : List Int} {m : Nat}
def loose (ls:List (Int × Int)) (wts ns:List Int):List ((Int × Int) × Int):=(ls.zip wts).filter fun z=>!(decide (z.1.1 ∈ ns) && decide (z.1.2 ∈ ns))
end
end Core
set_option maxHeartbeats 1000000
set_option maxHeartbeats 1000000
set_option maxHeartbeats 1000000
set_option maxHeartbeats 1000000
namespace PP
open PySem L2 PyProof.Rows
abbrev cX:=(Str->Prop)->bF
def EX (K:PySem.W.Frag) (H0:Hp) (Ep:Str->Prop):XK:=fun c d H'=>d=none/\aD H0 H'/\∃ n C,c = .ref C/\PySem.W.nsIn K mainGlobals n=some (some (.ref C))/\Ep n
def U5 (K:PySem.W.Frag) (p:cX):Sp:=fun vs H Q E=>∃ xs Qp Ep,Reps K (fun _=>True) H vs xs/\p Ep xs Qp/\(∀ v H' x,aD H H'->aJ K (fun a=>H a=none) H' v x->Qp x->Q v H')/\
 ∀ n C H',aD H H'->PySem.W.nsIn K mainGlobals n=some (some (.ref C))->Ep n->E (.ref C) none H'
structure bA (P:Program) (w:World) (K:PySem.W.Frag) (mg:Str->Option Value) (base:Heap) (k:Nat) (x:Str) (ps:List Str) (p:cX):Prop where
 ex:∃ f fd,cW P w K mg base (eB P w) k f fd ps (U5 K p)/\hG K fd ps []/\PySem.W.keepIn K (.ref f)=true/\mg x=some (.ref f)
section
variable {X : Cx} {σ : L2.St} {H : Hp} {D : c7} {tr : cI} {Q' : VK} {a b c e : Expr} {es : List Expr} {pos p2 cp np hp : Pos} {t : aH} {te : aE} {tc : bT}
def fF (Ep:Str->Prop) (p:cX) (t:cI):aE:=aB (p Ep) t
theorem U6 {p:cX}{Ep:Str->Prop} (h:LE X (fF Ep p tr) σ H Q'):u7 (U5 X.K p) [] (EX X.K X.H₀ Ep) (LA X tr) σ H Q':=by
 obtain ⟨W,ρ,Q,px,q,k⟩:=h
 refine⟨W,ρ,_,px,q,fun vs H1 xs s1 r1 q1=>⟨_,_,Ep,by rw [be6]; exact r1.any,q1,fun v H' x s2 r2 q2=>k v H' x .fr (s1.trans s2) (r2.same (aD.refl _) fun _ z=>s1.free z) q2,fun n C H' s2 z1 z2=>⟨rfl,(px.same.trans s1).trans s2,n,C,rfl,z1,z2⟩⟩⟩
theorem fZ {Ep:Str->Prop}{k j:Nat}{x:Str}{ps:List Str}{p:cX} (hX:nA X (EX X.K X.H₀ Ep)) (d:bA X.prog X.w X.K X.mg X.base k x ps p) (hr:c8 j X.A) (ha:QA X (e :: es) tr) (hkj:k<=j:=by decide) (hg:Gl X x:=by rfl) (hdb:(x == ("__debug__" : Str))=false:=by decide)
  (he:starEach (e :: es) X.env=(false,eval e X.env) :: starEach es X.env:=by rfl) (hpl:(backTo pos (starEach es X.env)).any (·.1)=false:=by rfl):QE X (.Call (.Name x p2) (e :: es) [] pos) (fF Ep p tr):=by
 obtain ⟨f,fd,F,b,kp,m⟩:=d.ex
 exact bY (pS F (hr.mono hkj) hg m kp b .nil hX.pass ha hdb he hpl) fun _ _ _=>U6
theorem aM0 {k j:Nat}{x:Str}{ps:List Str}{p:cX} (d:bA X.prog X.w X.K X.mg X.base k x ps p) (hr:c8 j X.A) (ha:QA X (e :: es) tr) (hkj:k<=j:=by decide) (hg:Gl X x:=by rfl) (hdb:(x == ("__debug__" : Str))=false:=by decide)
  (he:starEach (e :: es) X.env=(false,eval e X.env) :: starEach es X.env:=by rfl) (hpl:(backTo pos (starEach es X.env)).any (·.1)=false:=by rfl):QE X (.Call (.Name x p2) (e :: es) [] pos) (aB (p fun _=>False) tr):=by
 obtain ⟨f,fd,F,b,kp,m⟩:=d.ex
 refine bY (pS F (E:=EX X.K X.H₀ fun _=>False) (hr.mono hkj) hg m kp b .nil (fun _ _ _ _ _ _ _ h=>?_) ha hdb he hpl) fun _ _ _ h=>U6 (Ep:=fun _=>False) h
 obtain ⟨_,_,_,_,_,_,_,_,_,_,_,_,z⟩:=h
 exact z.elim
def lP (Ep:Str->Prop) (n:Str) (t:cI):aH:=fun _ ρ=>t ρ fun xs=>xs.length<=1000/\Ep n
theorem aM1 {Ep:Str->Prop}{n:Str}{C:Addr} (hn:PySem.W.nsIn X.K mainGlobals n=some (some (.ref C))) (h:LS X (lP Ep n tr) D σ H):N8 (EX X.K X.H₀ Ep) C (LA X tr) D σ H:=by
 obtain ⟨W,ρ,D',px,q,k⟩:=h
 exact⟨W,ρ,_,px,q,fun vs H1 xs s1 r z=>⟨by rw [r.length]; exact oK z.1,rfl,px.same.trans s1,n,C,rfl,hn,z.2⟩⟩
structure Xc (K:PySem.W.Frag) (mg:Str->Option Value) (base:Heap) (n:Str):Prop where
 ex:∃ C B newId initId bm,OwnCls n C bm newId mg base/\ExcBaseFacts B newId initId bm/\PySem.W.nsIn K mainGlobals n=some (some (.ref C))
theorem pD {Ep:Str->Prop}{n:Str} (hX:nA X (EX X.K X.H₀ Ep)) (x:Xc X.K X.mg X.base n) (ha:QA X (e :: es) tr) (hc:X.calm=true:=by rfl) (hg:Gl X n:=by rfl) (hd:(n == ("__debug__" : Str))=false:=by decide)
  (he:starEach (e :: es) X.env=(false,eval e X.env) :: starEach es X.env:=by rfl) (hpl:(backTo cp (starEach es X.env)).any (·.1)=false:=by rfl):QS X (.Raise (some (.Call (.Name n np) (e :: es) [] cp)) none pos) (lP Ep n tr):=by
 obtain ⟨C,B,newId,initId,bm,O,FB,hn⟩:=x.ex
 exact cO (aA7 hX hc O FB ha hg hd he hpl) fun _ _ _=>aM1 hn
abbrev jM:=jF->(Str->Prop)->bG->Prop
def LB (X:Cx) (t:jM):TB:=fun D Ex σ H=>∃ (W:Addr->Prop) (ρ:bG) (D':jF) (Ep:Str->Prop),PX X.K X.H₀ W σ ρ H/\t D' Ep ρ/\mH X W H D' D/\∀ n C H',aD H H'->PySem.W.nsIn X.K mainGlobals n=some (some (.ref C))->Ep n->Ex (.ref C) none H'
def QB (X:Cx) (sts:List Stmt) (t:jM):Prop:=PB X sts (LB X t)
theorem U7 {sts:List Stmt}{t t':TB} (h:PB X sts t) (m:∀ D Ex σ H,t' D Ex σ H->t D Ex σ H):PB X sts t':=fun pins s σ H D Ex I q=>h pins s σ H D Ex I (m D Ex σ H q)
def sF (p:cX) (t:cI):jM:=fun D Ep ρ=>t ρ fun xs=>p Ep (xs.map (·.1)) fun _=>D.nx ρ
def xK (c:bT) (t u:jM):jM:=fun D Ep ρ=>c ρ fun b=>if b=true then t D Ep ρ else u D Ep ρ
theorem xL {k j:Nat}{x:Str}{ps:List Str}{p:cX} (d:bA X.prog X.w X.K X.mg X.base k x ps p) (hr:c8 j X.A) (ha:∀ E,QA (X.wish E) (e :: es) tr) (hkj:k<=j:=by decide) (hg:Gl X x:=by rfl) (hdb:(x == ("__debug__" : Str))=false:=by decide)
  (he:starEach (e :: es) X.env=(false,eval e X.env) :: starEach es X.env:=by rfl) (hpl:(backTo cp (starEach es X.env)).any (·.1)=false:=by rfl) (hsw:swapsWith (.Call (.Name x p2) (e :: es) [] cp) none pos.line X.env=pure false:=by rfl):QB X [.Expr (.Call (.Name x p2) (e :: es) [] cp) pos] (sF p tr):=by
 obtain ⟨f,fd,F,b,kp,m⟩:=d.ex
 refine U7 (aB2 (t:=LA X tr) F (hr.mono hkj) hg m kp b (fun E=>ha E) hdb he hpl hsw) fun D Ex σ H h=>?_
 obtain ⟨W,ρ,D',Ep,px,q,k,ke⟩:=h
 exact⟨W,ρ,_,px,q,fun vs H1 xs s1 r q1=>⟨_,_,Ep,r.any,q1,fun v H' x s2 r2 q2=>k.nx W σ H' ρ (Ev.same (s1.trans s2)) (px.mono (s1.trans s2)) q2,fun n C H' s2 z1 z2=>ke n C H' (s1.trans s2) z1 z2⟩⟩
theorem U8 {sa sb:List Stmt}{tb ub:jM} (hc:∀ E,QT (X.wish E) c tc) (ha:QB X sa tb) (hb:QB X sb ub):QB X [.If c sa sb pos] (xK tc tb ub):=by
 refine U7 (aB3 (tc:=LT X tc) (fun E=>hc E) ha hb) fun D Ex σ H h=>?_
 obtain ⟨W,ρ,D',Ep,px,q,k,ke⟩:=h
 refine⟨W,ρ,_,px,q,fun b H1 s1 q1=>?_⟩
 have ke':∀ n C H',aD H1 H'->PySem.W.nsIn X.K mainGlobals n=some (some (.ref C))->Ep n->Ex (.ref C) none H':=fun n C H' s2 z1 z2=>ke n C H' (s1.trans s2) z1 z2
 cases b with
 | true=>exact aV ⟨W,ρ,D',Ep,px.mono s1,by simpa using q1,k.step (Ev.same s1),ke'⟩
 | false=>exact aR ⟨W,ρ,D',Ep,px.mono s1,by simpa using q1,k.step (Ev.same s1),ke'⟩
def xM (D:jF) (i:Nat):jF:={ nx:=fun ρ=>D.nx (ρ.set i none),rt:=D.rt,bk:=fun ρ=>D.bk (ρ.set i none),ct:=fun ρ=>D.ct (ρ.set i none) }
def kG:List Str:=["BadWeb","BadSet","BadOrder","BadPrices","BadBoard","BadDeed","NotWood","NoPaper","NoSuch","TooMany","NoText","OddRound"]
def fQ (n m:Str):Option Bool:=if kG.contains n then some (n == m || m == "HearthError" || m == "ValueError") else none
def xN (m:Str) (i:Nat) (tb:jM) (ts:aH):aH:=fun D ρ=>tb D (fun n=>fQ n m=some true/\ts (xM D i) (ρ.set i (some (.sh true (.exc n))))) ρ
theorem aM2 {m:Str}{Ch:Addr}{i:Nat}{tb:jM}{ts:aH} (hs:∀ n C,fQ n m=some true->PySem.W.nsIn X.K mainGlobals n=some (some (.ref C))->PySem.W.subIn X.K (.ref C) (.ref Ch)=some true) (h:LS X (xN m i tb ts) D σ H):O0 X.K Ch i (LB X tb) (LS X ts) D σ H:=by
 obtain ⟨W,ρ,D',px,q,k⟩:=h
 refine⟨W,ρ,D',_,px,q,k,fun n C H' s z1 z2 a C' oe hc na hcl=>?_⟩
 cases hc
 refine⟨hs n C z2.1 z1,W,_,xM D' i,(px.mono (s.trans (bB na _))).setSh (g:=true) (.exc b8 z1 hcl),z2.2,?_⟩
 have k':=k.step (Ev.same (W:=W) (s.trans (bB na (.frz oe (.own a)))))
 exact⟨fun W' σ' H2 ρ' ev px' q'=>k'.nx W' _ H2 _ ev px'.setNone q',k'.rt,fun W' σ' H2 ρ' ev px' q'=>k'.bk W' _ H2 _ ev px'.setNone q',fun W' σ' H2 ρ' ev px' q'=>k'.ct W' _ H2 _ ev px'.setNone q'⟩
structure xO (K:PySem.W.Frag) (mg:Str->Option Value) (m:Str):Prop where
 ex:∃ Ch,mg m=some (.ref Ch)/\wQ K Ch/\∀ n C,fQ n m=some true->PySem.W.nsIn K mainGlobals n=some (some (.ref C))->PySem.W.subIn K (.ref C) (.ref Ch)=some true
theorem aM3 (i:Nat) {m n:Str}{b₀:Stmt}{suite body:List Stmt}{tb:jM}{ts:aH} (ct:xO X.K X.mg m) (hN:X.N.Nodup) (hb:QB X body tb) (hs:∀ a,eZ (X.suite a) (b₀ :: suite) ts) (hstk:X.stack=X.env :: X.outer/\X.env.frame=some X.env.locals:=by exact⟨rfl,rfl⟩) (hi:X.N[i]? = some n:=by rfl) (hl:X.env.scope.names.lookup n=some .local:=by rfl) (hg:Gl X m:=by rfl)
  (hd:(m == ("__debug__" : Str))=false:=by decide):QS X (.Try body [.ExceptHandler (some (.Name m np)) (some n) (b₀ :: suite) hp] [] [] pos) (xN m i tb ts):=by
 obtain ⟨Ch,hm,c,sub⟩:=ct.ex
 exact cO (aB4 (ts:=LS X ts) hstk hb hg hm c hN hi hl (fun a=>w5 (hs a) fun _ _ _ ⟨W,ρ,D',px,q,k⟩=>⟨W,ρ,D',px,q,⟨k.nx,k.rt,k.bk,k.ct⟩⟩) hd) fun _ _ _=>aM2 sub
def gG:V->Value
 | .ref a=>.ref a
 | .ty n=>.type n
 | _=>.none
def aM4 (K:PySem.W.Frag):List V->Hp->VK->Prop:=fun xs H Q=>∃ v v2 b,xs = [v,v2]/\gG v2 ≠ .none/\((∃ a o C,v = .ref a/\H a=some (.frz o (.own a))/\o.cls = .ref C/\iR K C/\PySem.W.kitOne K (.ref C) (gG v2)=some b) ∨ (v = .non/\PySem.W.kitOne K (.type "NoneType") (gG v2)=some b))/\Q (.bl b) H
theorem aM5:cZ X (.builtin "isinstance") (aM4 X.K):=by
 intro pins s σ H xs us Q I r h
 obtain ⟨v,v2,b,rfl,hv,hk,q⟩:=h
 obtain ⟨u,u',rfl,ru,ru'⟩:=tZ r
 obtain rfl:u'=gG v2:=by
  cases v2 <;> first | exact ru' | exact absurd rfl hv
 rcases hk with ⟨a,o,C,rfl,hH,hc,F,e⟩ | ⟨rfl,e⟩
 ·obtain ⟨h1,_⟩:=I.hok a _ hH
  cases (show u=Value.ref a from ru)
  exact PySem.W.kia_one (aC1 F) I.kIn ⟨o,h1,hc⟩ e (fun z=>nomatch z) fun tk=>⟨.bl b,H,I.tok tk,rfl,q⟩
 ·cases (show u=Value.none from ru)
  exact PySem.W.kia_one PySem.W.kitx_none I.kIn trivial e (fun z=>nomatch z) fun tk=>⟨.bl b,H,I.tok tk,rfl,q⟩
def aM6 (m:Str):PV->Option Bool
 | .exc n=>fQ n m
 | .non=>some false
 | _=>none
def kH (m:Str) (te:aE):aE:=fun ρ Q=>te ρ fun x _=>∃ b,aM6 m x=some b/\Q (.bl b) .fr
structure xP (K:PySem.W.Frag) (m:Str) (v2:V):Prop where
 nn:gG v2 ≠ .none
 ex:∀ n C b,PySem.W.nsIn K mainGlobals n=some (some (.ref C))->fQ n m=some b->iR K C/\PySem.W.kitOne K (.ref C) (gG v2)=some b
 no:PySem.W.kitOne K (.type "NoneType") (gG v2)=some false
theorem U9 {x:Str}{v2:V}{px:Pos} (B:Bt X.mg) (A:xP X.K x v2) (hx:PE X (.Name x px) (tC v2)) (ha:QE X a te) (hg:Gl X "isinstance":=by rfl)
  (he:starEach [a,.Name x px] X.env=(false,eval a X.env) :: starEach [.Name x px] X.env:=by rfl) (he2:starEach [.Name x px] X.env=(false,eval (.Name x px) X.env) :: starEach [] X.env:=by rfl) (hpl:(backTo pos (starEach [.Name x px] X.env)).any (·.1)=false:=by rfl):QE X (.Call (.Name "isinstance" p2) [a,.Name x px] [] pos) (kH x te):=
 bY (pT aM5 hg B.isinst PyProof.Rows.boot_isinstance (dD ha (dD hx dY he2) he) (he:=he) (hpl:=hpl)) fun σ H Q' h=>by
  obtain ⟨W,ρ,Q,px,q,k⟩:=h
  refine⟨W,ρ,_,px,q,?_⟩
  rintro v H1 y g s r ⟨b,e,q⟩
  refine⟨v,v2,b,rfl,A.nn,?_,k _ _ _ .fr s (.bl _) q⟩
  cases r with
  | exc h z c=>
   obtain ⟨F,kt⟩:=A.ex _ _ _ z e
   exact .inl ⟨_,_,_,rfl,h,c,F,kt⟩
  | non=>cases e; exact .inr ⟨rfl,A.no⟩
  | _=>cases e
end
section
variable {X : Cx} {a : Expr} {pos p2 px : Pos} {te : aE}
structure jN (K:PySem.W.Frag) (mg:Str->Option Value) (m:Str):Prop where
 ex:∃ C,mg m=some (.ref C)/\xP K m (.ref C)
structure xQ (K:PySem.W.Frag) (mg:Str->Option Value):Prop where
 mg:mg "ValueError" = none
 is:xP K "ValueError" (.ty "ValueError")
theorem sG {x:Str} (B:Bt X.mg) (A:jN X.K X.mg x) (ha:QE X a te) (hgx:Gl X x:=by rfl) (hdx:(x == ("__debug__" : Str))=false:=by decide) (hg:Gl X "isinstance":=by rfl)
  (he:starEach [a,.Name x px] X.env=(false,eval a X.env) :: starEach [.Name x px] X.env:=by rfl) (he2:starEach [.Name x px] X.env=(false,eval (.Name x px) X.env) :: starEach [] X.env:=by rfl) (hpl:(backTo pos (starEach [.Name x px] X.env)).any (·.1)=false:=by rfl):QE X (.Call (.Name "isinstance" p2) [a,.Name x px] [] pos) (kH x te):=by
 obtain ⟨C,m,i⟩:=A.ex
 exact U9 B i (yJ hgx m rfl hdx) ha hg he he2 hpl
theorem aM7 (B:Bt X.mg) (A:xQ X.K X.mg) (ha:QE X a te) (hgx:Gl X "ValueError":=by rfl) (hg:Gl X "isinstance":=by rfl)
  (he:starEach [a,.Name "ValueError" px] X.env=(false,eval a X.env) :: starEach [.Name "ValueError" px] X.env:=by rfl) (he2:starEach [.Name "ValueError" px] X.env=(false,eval (.Name "ValueError" px) X.env) :: starEach [] X.env:=by rfl) (hpl:(backTo pos (starEach [.Name "ValueError" px] X.env)).any (·.1)=false:=by rfl):QE X (.Call (.Name "isinstance" p2) [a,.Name "ValueError" px] [] pos) (kH "ValueError" te):=
 U9 B A.is (af0 (v:=.ty "ValueError") hgx A.mg PyProof.Rows.Boot.«ValueError» rfl (by decide) (by decide)) ha hg he he2 hpl
end
structure jO (K:PySem.W.Frag) (C:Addr):Prop where
 cls:PySem.W.isClsIn K C=true
 ty:PySem.W.typeIn K (.ref C)=some (.type "type")
 ga:PySem.W.findIn K (.ref C) "__getattribute__" = some (some (.builtin "BaseException.__getattribute__"))
 gt:PySem.W.findIn K (.ref C) "__getattr__" = some none
 fc:PySem.W.findIn K (.ref C) "__class__" = some (some (.builtin "object.__class__"))
 fg:PySem.W.specialIn K (.builtin "object.__class__") "__get__" = some (some (.builtin "getset_descriptor.__get__"))
 ft:PySem.W.takesIn K (.builtin "object.__class__")=some true
 ob:PySem.W.mroIn K C (.type "object")=some true
 be:PySem.W.mroIn K C (.type "BaseException")=some true
theorem jO.exc {K:PySem.W.Frag}{C:Addr} (h:jO K C):iR K C:=⟨h.cls,h.ga,h.gt,h.fc,h.fg,h.ft,h.ob,h.be⟩
theorem sH {K:PySem.W.Frag}{h₀:Heap}{mg:Str->Option Value}{x:Str}{C:Addr}{bmB:List Value}{newId:String} (X:K.In h₀) (m:mg x=some (.ref C)) (q:PySem.W.excIn K C bmB newId=true):OwnCls x C bmB newId mg h₀:=by
 refine⟨m,?_⟩
 unfold PySem.W.excIn at q
 split at q
 case h_2=>cases q
 rename_i dd cd sl ho
 split at q
 case h_2=>cases q
 rename_i C' bm k0 k1 k2 k3 n k5 hm hs
 simp only [bd8,beq_iff_eq,Bool.not_eq_true'] at q
 obtain ⟨⟨⟨⟨⟨rfl,rfl⟩,dl⟩,ht⟩,hok⟩,hni⟩:=q
 obtain ⟨nm,bs,mro,ns,qn,hd,sn,sub,ab,col,del⟩:=cd
 dsimp only at hm dl hok hni
 subst hm dl
 obtain rfl:sl = #[k0,k1,k2,k3,some (.builtin n),k5]:=by
  obtain ⟨l⟩:=sl
  exact congrArg Array.mk hs
 exact⟨bm,ns,nm,qn,bs,hd,sn,sub,ab,col,dd,k0,k1,k2,k3,k5,_,X _ _ ho,.of_isNs (PySem.W.isNs_of_in X hok),PySem.W.nsMap_none_of_in X hok hni,PySem.W.tail_of_in X ht⟩
theorem nE {n m:Str}{b:Bool} (h:fQ n m=some b):n ∈ kG/\b=(n == m || m == "HearthError" || m == "ValueError"):=by
 unfold fQ at h
 split at h
 ·rename_i z
  exact⟨by simpa using z,by cases h; rfl⟩
 ·cases h
theorem gU {K:PySem.W.Frag}{C D:Addr}{b:Bool} (hd:jO K D) (ne:(C == D)=false) (s:PySem.W.subIn K (.ref C) (.ref D)=some b):PySem.W.kitOne K (.ref C) (.ref D)=some b:=by
 have ne':(Value.ref C == Value.ref D)=false:=by
  rw [bn0] at ne ⊢
  exact fun z=>ne (Value.ref.inj z)
 have c:=hd.cls
 unfold PySem.W.isClsIn at c
 unfold PySem.W.kitOne PySem.W.kitCls
 rw [if_neg (by rw [ne']; decide)]
 dsimp only
 rw [if_pos (by rw [c,hd.ty]; decide)]
 exact s
theorem sI {K:PySem.W.Frag}{C:Addr}:PySem.W.kitOne K (.ref C) (.ref C)=some true:=by
 unfold PySem.W.kitOne
 rw [if_pos (bk4 _)]
theorem sJ {K:PySem.W.Frag}{C:Addr} (s:PySem.W.subIn K (.ref C) (.type "ValueError")=some true):PySem.W.kitOne K (.ref C) (.type "ValueError")=some true:=by
 unfold PySem.W.kitOne PySem.W.kitCls
 rw [if_neg (fun z=>by cases beq_iff_eq.mp z)]
 dsimp only
 rw [if_pos (by decide +kernel)]
 exact s
theorem sK {K:PySem.W.Frag}{D:Addr} (hd:jO K D) (s:PySem.W.subIn K (.type "NoneType") (.ref D)=some false):PySem.W.kitOne K (.type "NoneType") (.ref D)=some false:=by
 have c:=hd.cls
 unfold PySem.W.isClsIn at c
 unfold PySem.W.kitOne PySem.W.kitCls
 rw [if_neg (fun z=>by cases beq_iff_eq.mp z)]
 dsimp only
 rw [if_pos (by rw [c,hd.ty]; decide)]
 exact s
theorem aM8 {K:PySem.W.Frag}:PySem.W.kitOne K (.type "NoneType") (.type "ValueError")=some false:=by
 have e:(if PySem.W.kitMeta "ValueError" = true then (fastBuiltinMro "NoneType").map (·.contains (Value.type "ValueError")) else none)=some false:=by decide +kernel
 unfold PySem.W.kitOne
 rw [if_neg (by decide)]
 exact e
theorem bA.of {P:Program}{w:World}{K:PySem.W.Frag}{mg:Str->Option Value}{base:Heap}{k:Nat}{x:Str}{ps N:List Str}{p:cX}{st:Stmt}{f:Addr}{fd:FuncData} (F:eS K x x st f fd) (m:mg x=some (.ref f)) (S:FnScope N ps (aS st))
  (hb:∀ (kV doc pm:Value) (an:Option Addr) (cdv ct:Value) (us:List Value),us.length=ps.length->bindArgs (PySem.W.fnOf x x (iL st) (dZ st) (aS st) .none kV doc pm an cdv ct) ⟨us,[]⟩=pure (ps.zip us))
  (t:(Str->Prop)->aH) (len:∀ Ep xs Q,p Ep xs Q->xs.length=ps.length) (rd:∀ Ep xs Q,p Ep xs Q->t Ep { nx:=fun _=>Q .non,rt:=Q } (eY N xs))
  (body:∀ (cdv:Value) (A:Around) (outer:List Env) (s:Shared) (H:Hp) (E:XK) (Ep:Str->Prop),c8 k (A.deeper (envOfC x (aS st) s.heap.objs.size f cdv))->nA (dA (eB P w) P w K mg base N x (aS st) f cdv A outer s H E) (EX K H Ep)->
   eZ (dA (eB P w) P w K mg base N x (aS st) f cdv A outer s H E) (dZ st) (t Ep)):bA P w K mg base (k+1) x ps p:=by
 refine⟨f,fd,F.okX S (fun vs H Q E h=>?_) (fun cdv A outer s H vs Q E hr h=>?_),F.binds hb,F.kp,m⟩
 ·obtain ⟨xs,Qp,Ep,r,q,_⟩:=h
  rw [r.length]; exact len Ep xs Qp q
 ·obtain ⟨xs,Qp,Ep,r,q,k,ke⟩:=h
  have ht:=body cdv A outer s H E Ep hr (aA6 fun c d H' z=>?_)
  ·refine⟨_,ht,fun _=>False,eY N xs,_,rM r,rd Ep xs Qp q,?_,?_,?_,?_⟩
   ·exact fun W' σ' H' ρ' e px q=>k _ _ _ px.same .non q
   ·exact fun v H' x s r q=>k _ _ _ s r q
   ·exact fun W' σ' H' ρ' e px q=>q
   ·exact fun W' σ' H' ρ' e px q=>q
  ·obtain ⟨rfl,s1,n,C,rfl,z1,z2⟩:=z
   exact ke n C H' s1 z1 z2
end PP
namespace Core
open PySem L2 PP
abbrev gV (t:(Str->Prop)->aH) (N:List Str) (p:cX):Prop:=∀ Ep xs Q,p Ep xs Q->t Ep { nx:=fun _=>Q .non,rt:=Q } (eY N xs)
def kI:cX:=fun Ep xs Q=>∃ ws ls x ns,xs = [aZ ws ls,x]/\bS x ns/\ns.length<=1000/\(aW ws.length ns=true->Q (.tup (intz ns)))/\(aW ws.length ns=false->Ep "BadSet")
def V0 (Ep:Str->Prop):aH:=(aG (bL (jE (aU (aB rS (a6 (a5 0) (a6 (a5 1) a9))))) (lP Ep "BadSet" (a6 (qC (.str "a set is of rising hearths of the web")) a9)) cC)
 (bC (aB e9 (a6 (a5 1) a9))))
theorem aM9:gV V0 ["web","hearths"] kI:=by
 rintro Ep xs Q ⟨ws,ls,x,ns,rfl,hx,hl,q1,q2⟩
 refine⟨_,rfl,_,rfl,ws,ls,x,ns,rfl,hx,hl,_,rfl,?_⟩
 cases h:aW ws.length ns with
 | true=>exact aR ⟨_,rfl,⟨_,_,rfl,hx.seqT,bP _,trivial,q1 h⟩,hx.noscr⟩
 | false=>exact aV ⟨by decide,q2 h⟩
theorem aN0 (ns:List Int) {k:Int} (h:0<=k):fO (intz ns) none (some k)=intz (ns.take k.toNat):=by
 rw [aL6 h]
 exact (List.map_take).symm
theorem xR {n:Nat}{ys:List Int} (h:aW n ys=true->False):aW n ys=false:=by
 cases e:aW n ys with
 | false=>rfl
 | true=>exact (h e).elim
theorem aN1 {n k:Nat}{s:List Int}{x:Int} (hx:x ∈ s):aW n (s.take k ++ [x] ++ s.drop k)=false:=xR fun e=>by
 have p:=jI (gQ e).1
 rw [bf5,bo2] at p
 rw [<- bn4 k s] at hx
 rcases bf0.mp hx with h | h
 ·exact absurd (p.2.2 x h x bd0) (Int.lt_irrefl x)
 ·exact absurd (List.rel_of_pairwise_cons p.2.1 h) (Int.lt_irrefl x)
theorem aN2 {n k:Nat}{s:List Int}{x:Int} (hx:x < 0 ∨ (n:Int)<=x):aW n (s.take k ++ [x] ++ s.drop k)=false:=xR fun e=>by
 have:=(gQ e).2 x (by simp)
 omega
end Core
namespace PP
open PySem L2
mutual
theorem aJ.thaw {K:PySem.W.Frag}{M M':Addr->Prop}{H:Hp}{a:Addr}{o:Obj}{kvs:List (List aC × V)}{u:HO} (h:H a=some (.frz o (.dT kvs))):∀ {v:V}{x:PV},flat x=true->aJ K M H v x->aJ K M' (upd H a u) v x
 | _,_,_,.non=>.non
 | _,_,_,.bl b=>.bl b
 | _,_,_,.int i=>.int i
 | _,_,_,.str x=>.str x
 | _,_,f,.tup e r=>.tup (by rw [aL (fun z=>by rw [z,h] at e; cases e)]; exact e) (Reps.thaw h (by unfold PP.flat at f; exact f) r)
 | _,_,f,.lst m e r=>by unfold PP.flat at f; cases f
 | _,_,f,.dK m e q r=>by unfold PP.flat at f; cases f
 | _,_,f,.dT m e q r=>by unfold PP.flat at f; cases f
 | _,_,_,.scr e=>.scr (e.elim (fun ⟨o',e'⟩=>.inl ⟨o',by rw [aL (fun z=>by rw [z,h] at e'; cases e')]; exact e'⟩) .inr)
 | _,_,f,.kt e r=>.kt e (Reps.thaw h (by unfold PP.flat at f; exact f) r)
 | _,_,_,.exc e n c=>.exc (by rw [aL (fun z=>by rw [z,h] at e; cases e)]; exact e) n c
theorem Reps.thaw {K:PySem.W.Frag}{M M':Addr->Prop}{H:Hp}{a:Addr}{o:Obj}{kvs:List (List aC × V)}{u:HO} (h:H a=some (.frz o (.dT kvs))):∀ {vs:List V}{xs:List PV},flats xs=true->Reps K M H vs xs->Reps K M' (upd H a u) vs xs
 | _,_,_,.nil=>.nil
 | _,_,f,.cons r t=>by
  unfold PP.flats at f
  rw [bd8] at f
  exact .cons (aJ.thaw h f.1 r) (Reps.thaw h f.2 t)
end
theorem Reps.keys {K:PySem.W.Frag}{M:Addr->Prop}{H:Hp}:∀ (k:List aC),Reps K M H (k.map kV) (k.map kP)
 | []=>.nil
 | .inl i :: r=>.cons (.int i) (Reps.keys r)
 | .inr x :: r=>.cons (.str x) (Reps.keys r)
theorem V1 {α β:Type}{F:α->β->Prop}:∀ {l:List α}{m:List β}{i:Nat}{x:α},Paired F l m->l[i]? = some x->∃ y,m[i]? = some y/\F x y
 | _,_,_,_,.nil,e=>by simp at e
 | _,_,0,_,.cons r _,e=>by simp at e; subst e; exact⟨_,rfl,r⟩
 | _,_,i+1,x,.cons _ t,e=>by
  rw [bf3] at e
  obtain ⟨y,h1,h2⟩:=V1 t e
  exact⟨y,by rw [bf3]; exact h1,h2⟩
theorem V2:∀ {xs:List PV}{y:PV},flats xs=true->flat y=true->flats (xs ++ [y])=true
 | [],y,_,f=>by show (flat y && flats [])=true; rw [f]; rfl
 | x :: r,y,h,f=>by
  unfold flats at h
  rw [bd8] at h
  show (flat x && flats (r ++ [y]))=true
  rw [h.1,V2 h.2 f]; rfl
theorem aN3 {K:PySem.W.Frag}{H0:Hp}{W:Addr->Prop}{σ:St}{ρ:bG}{H1 H':Hp}{D a:Addr}{o:Obj}{kvs:List (List aC × V)}{acc:List V}{fr:List (Option Nat)} (px:PX K H0 W σ ρ H1) (ha:H1 a=some (.dT kvs)) (hD:upd H1 a (.frz o (.dT kvs)) D=none) (s:aD (upd H1 a (.frz o (.dT kvs))) H') (hl:H' D=some (.lst acc))
  (fl:∀ m,some m ∈ fX fr ρ->flat m.val=true):PX K (upd H1 a (.frz o (.dT kvs))) (gL D) (e8 fr σ) (fX fr ρ) H':=by
 refine⟨by unfold e8 fX; rw [bc4,bc4],s,fun b z=>by cases z; exact⟨hD,_,hl,rfl⟩,fun i m h=>?_,fun i j x y b h1=>?_⟩
 ·have fm:=fl m (be1 h)
  unfold fX at h
  rw [bc9] at h
  cases ef:fr[i]? with
  | none=>rw [ef] at h; cases h
  | some o2=>
   rw [ef] at h
   cases o2 with
   | none=>cases h
   | some j=>
    have h:some ((ρ[j]?).join.map fun m=>Slot.sh false m.val)=some (some m):=h
    cases er:ρ[j]? with
    | none=>rw [er] at h; cases h
    | some o3=>
     rw [er] at h
     cases o3 with
     | none=>cases h
     | some m0=>
      cases h
      obtain ⟨v,ev,r⟩:=px.sl j m0 er
      refine⟨v,?_,?_⟩
      ·unfold e8
       rw [bc9,ef]
       show some ((σ[j]?).join)=_
       rw [ev]; rfl
      ·have r':aJ K (fun _=>False) H1 v m0.val:=(qU (Hs:=H1) r).flat fm
       refine r'.keep ⟨fun _ _ z=>z.elim,fun _ _ z=>z.elim,fun _ _ z=>z.elim,fun b _ e=>s _ _ ?_,fun b _ _ e=>s _ _ ?_⟩
       ·rw [aL (fun z=>by rw [z,ha] at e; cases e)]; exact e
       ·rw [aL (fun z=>by rw [z,ha] at e; cases e)]; exact e
 ·unfold fX at h1
  rw [bc9] at h1
  cases ef:fr[i]? with
  | none=>rw [ef] at h1; cases h1
  | some o2=>
   rw [ef] at h1
   cases o2 with
   | none=>cases h1
   | some j=>
    have h1:some ((ρ[j]?).join.map fun m=>Slot.sh false m.val)=some (some (Slot.own x)):=h1
    cases er:ρ[j]? with
    | none=>rw [er] at h1; cases h1
    | some o3=>
     rw [er] at h1
     cases o3 with
     | none=>cases h1
     | some m0=>cases h1
section
variable {X : Cx} {σ : St} {H : Hp} {Q' : VK}
def sM (tl:aE) (fr:List (Option Nat)) (p:iN) (tc:bT) (te:aE):aE:=fun ρ Q=>tl ρ fun x _=>∃ ps:List (List aC × PV),x = .dT ps/\ps.length<=16000000/\(∀ m,some m ∈ fX fr ρ->flat m.val=true)/\∃ I:Nat->List PV->Prop,I 0 []/\
 (∀ i k acc,(ps.map (·.1))[i]? = some k->I i acc->p (.tup (k.map kP)) false (fX fr ρ) fun ρ2=>tc ρ2 fun b=>if b=true then te ρ2 fun y gy=>(Nw gy y/\flat y=true)/\I (i+1) (acc ++ [y]) else I (i+1) acc)/\∀ acc,I ps.length acc->Q (.lst acc) .fr
theorem aN4 {tl:aE}{fr:List (Option Nat)}{p:iN}{g:TG}{tc:bT}{te:aE}{own:Nat->Prop} (hg:mM X.K own p g) (ho:∀ i,own i->fr[i]? = some none) (h:LE X (sM tl fr p tc te) σ H Q') :
  O3 X (qI (O2 (LE X tl)) fr (fun _=>g) (fun H1=>LT (X.frm H1) tc) (fun H1=>LE (X.frm H1) te)) σ H Q':=by
 obtain ⟨W,ρ,Q,px,q,k⟩:=h
 refine⟨W,ρ,_,px,q,?_⟩
 rintro v H1 x g0 s r ⟨ps,rfl,hl,fl,I,i0,turn,fin⟩
 cases r with
 | @dT a kvs _ m ha ek rv=>
 refine⟨a,kvs,rfl,ha,fun o ys pk D hD=>?_⟩
 have px1:=px.mono s
 have lk:ys.length=ps.length:=by
  have:=pk.length
  rw [bc4] at this
  rw [this]; exact oR ek
 have hDa:D ≠ a:=fun z=>by rw [z,b8] at hD; cases hD
 have hD1:H1 D=none:=by rw [aL hDa] at hD; exact hD
 have nofr:∀ o' v',X.H₀ a ≠ some (.frz o' v'):=fun o' v' e=>by have:=px1.same _ _ e; rw [ha] at this; cases this
 refine⟨fun i m acc H'=>m=ps.length - i/\i<=ps.length/\aD (upd H1 a (.frz o (.dT kvs))) H'/\H' D=some (.lst acc)/\∃ zs,Reps X.K (fun _=>False) H' acc zs/\flats zs=true/\zs.length<=i/\I i zs,⟨ps.length,by omega,bh2 _,bB hD _,b8,[],.nil,rfl,bc1 _,i0⟩,?_⟩
 rintro i m acc H' ⟨rfl,hi,sm,hl',zs,rz,fz,hz,iz⟩
 refine⟨hl',?_⟩
 have fro:H' a=some (.frz o (.dT kvs)):=sm _ _ b8
 by_cases hlt:i < ps.length
 ·refine .inr ⟨⟨⟨_,fro⟩,by omega⟩,fun v2 H2 y=>?_⟩
  obtain ⟨rfl,hy⟩:=y
  obtain ⟨key,hk,q2,rfl,hq2⟩:=V1 pk hy
  rw [ek] at hk
  have rx:aJ X.K (Ms (upd H1 a (.frz o (.dT kvs))) (gL D) false) H2 (.ref q2) (.tup (key.map kP)):=.tup (sm _ _ (by rw [aL (fun z=>by rw [z,ha] at hq2; cases hq2)]; exact hq2)) (Reps.keys key)
  have pxb:=aN3 (fr:=fr) px1 ha hD sm hl' fl
  refine hg (upd H1 a (.frz o (.dT kvs))) (gL D) _ _ H2 _ _ false _ _ pxb rx (turn i key zs hk iz) fun σ2 ρ2 px2 hown hlen q2=>⟨⟨hlen.symm,fun j w e=>?_⟩,?_⟩
  ·by_cases oj:own j
   ·have:=ho j oj
    unfold e8 at e
    rw [bc9,this] at e
    cases e
   ·rw [hown j oj]; exact e
  ·refine⟨gL D,ρ2,_,px2,q2,fun b H4 s4 q4=>?_⟩
   have hl4:=s4 _ _ hl'
   have sm4:=sm.trans s4
   cases b with
   | false=>exact aR ⟨ps.length - (i+1),by omega,rfl,hlt,sm4,hl4,zs,rz.same s4 fun _ z=>z,fz,by omega,by simpa using q4⟩
   | true=>
    refine aV ⟨gL D,ρ2,_,px2.mono s4,by simpa using q4,?_⟩
    rintro w H5 y gy s5 ryy ⟨⟨nw,fy⟩,q5⟩
    have hl5:=s5 _ _ hl4
    have lr:=rz.length
    refine⟨hl5,hU (by omega),ps.length - (i+1),by omega,rfl,hlt,fun b o' e=>?_,b8,zs ++ [y],?_,V2 fz fy,by rw [bc0,bg9]; omega,q5⟩
    ·rw [aL (fun z=>by rw [z,hD] at e; cases e)]
     exact s5 _ _ (sm4 _ _ e)
    ·exact ((rz.same (s4.trans s5) fun _ z=>z).append (.cons (ryy.flat fy) .nil)).keep (.upd hl5 rfl fun b z=>z.elim)
 ·obtain rfl:i=ps.length:=by omega
  refine .inl ⟨⟨⟨_,fro⟩,lk.symm⟩,a,o,.dT kvs,fro,nofr,k _ _ _ .fr (fun b x e=>?_) (.lst (s.free hD1) (by rw [aL hDa]; exact hl') (Reps.thaw fro fz rz)) (fin zs iz)⟩
  have e1:=s _ _ e
  by_cases hb:b=a
  ·subst hb
   rw [ha] at e1; cases e1
   exact b8
  ·rw [aL hb]
   exact sm _ _ (by rw [aL hb]; exact e1)
end
section
variable {X : Cx} {scope : Scope} {N : List Str} {fr : List (Option Nat)} {x : Str} {tp pos : Pos} {iter elt c : Expr} {tl te : aE} {tcs : bT}
theorem aN5 (hi:QE X iter tl) (ht:∀ (s:Shared) (H:Hp) (C:Addr) (fp:List Addr),QT (b9 X scope N s H C fp bH) c tcs) (he:∀ (s:Shared) (H:Hp) (C:Addr) (fp:List Addr),QE (b9 X scope N s H C fp bH) elt te)
  (hc:X.calm=true:=by rfl) (S:cA X scope N fr:=by exact cA.of rfl rfl) (hN:N.Nodup:=by decide +kernel) (h0:N[0]? = some x:=by rfl) (hl:∀ (s:Shared) (H:Hp) (C:Addr) (fp:List Addr),(b9 X scope N s H C fp bH).env.scope.names.lookup x=some .local:=by intro _ _ _ _; rfl) (hf:fr[0]? = some none:=by rfl)
  (hs:∀ x,foldedSetIterable iter X.env x=pure x:=by intro _; rfl):QE X (.ListComp elt [⟨.Name x tp,iter,[c],0⟩] scope pos) (sM tl fr (bK 0) tcs te):=
 bY (aC4 (oD (gh:=fun _=>bX 0) (tch:=fun H=>LT (X.frm H) tcs) (teh:=fun H=>LE (X.frm H) te) hc S (aC3 hi) (oW he (fun s H C fp=>oB (ht s H C fp)) hN h0 hl) hs)) fun _ _ _=>aN4 (lB _ 0) (fun i e=>by subst e; exact hf)
end
theorem pE {us:List Value} (h:us.length=1):∃ a,us = [a]:=List.length_eq_one_iff.mp h
theorem xS {us:List Value} (h:us.length=2):∃ a b,us = [a,b]:=by
 cases us with
 | nil=>cases h
 | cons a r=>
  obtain ⟨b,rfl⟩:=pE (us:=r) (by simpa using h)
  exact⟨a,b,rfl⟩
theorem sN {us:List Value} (h:us.length=3):∃ a b c,us = [a,b,c]:=by
 cases us with
 | nil=>cases h
 | cons a r=>
  obtain ⟨b,c,rfl⟩:=xS (us:=r) (by simpa using h)
  exact⟨a,b,c,rfl⟩
theorem V3 {us:List Value} (h:us.length=4):∃ a b c d,us = [a,b,c,d]:=by
 cases us with
 | nil=>cases h
 | cons a r=>
  obtain ⟨b,c,d,rfl⟩:=sN (us:=r) (by simpa using h)
  exact⟨a,b,c,d,rfl⟩
section
variable {K : PySem.W.Frag} {H0 : Hp} {W W' : Addr → Prop} {σ : St} {ρ : bG} {H Hs : Hp}
theorem PX.grow {nw:Addr->Prop} (p:PX K H0 W σ ρ Hs) (s:aD Hs H) (h:∀ b,nw b->Hs b=none/\∃ o,H b=some o/\fV o=true):PX K H0 (fun b=>W b ∨ nw b) σ ρ H:=by
 have off:∀ b o,Hs b=some o->¬ nw b:=fun b o e z=>by rw [(h b z).1] at e; cases e
 have kp:∀ g,hV (Ms H0 W g) (Ms H0 (fun b=>W b ∨ nw b) g) Hs H:=fun g=>by
  have m:∀ b o,Ms H0 W g b->Hs b=some o->Ms H0 (fun b=>W b ∨ nw b) g b:=fun b o z e=>by
   cases g with
   | true=>exact⟨fun y=>y.elim z.1 (off b o e),z.2⟩
   | false=>exact fun y=>y.elim z (off b o e)
  exact⟨fun b _ z e=>⟨m b _ z e,s _ _ e⟩,fun b _ z e=>⟨m b _ z e,s _ _ e⟩,fun b _ z e=>⟨m b _ z e,s _ _ e⟩,fun _ _ e=>s _ _ e,fun _ _ _ e=>s _ _ e⟩
 refine⟨p.len,p.same.trans s,fun b z=>?_,fun j m e=>?_,p.dis⟩
 ·rcases z with z | z
  ·obtain ⟨h1,o,h2,h3⟩:=p.wm b z
   exact⟨h1,o,s _ _ h2,h3⟩
  ·exact⟨p.same.free (h b z).1,(h b z).2⟩
 ·obtain ⟨u,e1,q⟩:=p.sl j m e
  refine⟨u,e1,?_⟩
  cases m with
  | sh g y=>exact aJ.keep (kp g) q
  | own y=>
   obtain ⟨b,e2,e3,q⟩:=q
   exact⟨b,e2,.inl e3,q.keep (kp true) fun o z=>s _ _ z⟩
theorem PX.name {i:Nat}{a:Addr}{x:PV} (p:PX K H0 W σ ρ H) (wa:W a) (r:gJ K (Ms H0 W true) H a x) (free:∀ j y,ρ[j]? = some (some (.own y))->j ≠ i->σ[j]? ≠ some (some (.ref a))):PX K H0 W (σ.set i (some (.ref a))) (ρ.set i (some (.own x))) H:=by
 refine⟨by rw [bg1,bg1]; exact p.len,p.same,p.wm,fun j m h=>?_,fun j k y z b h1 h2 h3 h4=>?_⟩
 ·rcases dH h with ⟨rfl,hl,e⟩ | ⟨hne,h⟩
  ·cases e
   rw [p.len] at hl
   exact⟨_,bg6 hl,a,rfl,wa,r⟩
  ·obtain ⟨u,e,q⟩:=p.sl j m h
   exact⟨u,by rw [bd7 (Ne.symm hne)]; exact e,q⟩
 ·rcases dH h1 with ⟨e1,l1,_⟩ | ⟨n1,h1⟩
  ·rcases dH h2 with ⟨e2,_,_⟩ | ⟨n2,h2⟩
   ·rw [e1,e2]
   ·rw [e1,bg6 (by rw [<- p.len]; exact l1)] at h3
    rw [bd7 (Ne.symm n2)] at h4
    cases h3
    exact absurd h4 (free k z h2 n2)
  ·rw [bd7 (Ne.symm n1)] at h3
   rcases dH h2 with ⟨e2,l2,_⟩ | ⟨n2,h2⟩
   ·rw [e2,bg6 (by rw [<- p.len]; exact l2)] at h4
    cases h4
    exact absurd h3 (free j y h1 n1)
   ·rw [bd7 (Ne.symm n2)] at h4
    exact p.dis j k y z b h1 h2 h3 h4
end
section
variable {X : Cx} {e : Expr} {te : aE} {D : c7} {σ : St} {H : Hp} {pos : Pos}
def xT (i j:Nat) (te:aE):aH:=fun D ρ=>te ρ fun x g=>∃ xs ps,i ≠ j/\g = .fr/\x = .tup [.lst xs,.dT ps]/\flats xs=true/\flats (ps.map (·.2))=true/\D.nx ((ρ.set i (some (.own (.lst xs)))).set j (some (.own (.dT ps))))
theorem aN6 {i j:Nat} (h:LS X (xT i j te) D σ H):jS (LE X te) (iK X.K 2 (dR (bX i) (dR (bX j) iJ))) D σ H:=by
 obtain ⟨W,ρ,D',px,q,k⟩:=h
 refine⟨W,ρ,_,px,q,?_⟩
 rintro v H1 x g s r ⟨xs,ps,hij,rfl,rfl,f1,f2,q⟩
 obtain ⟨t,us,rfl,ht,r2⟩:=r.sqT
 obtain ⟨u1,u2,rfl,ra,rb⟩:=r2.two
 cases ra with
 | @lst a ws _ ma ea rxs=>
 cases rb with
 | @dT b kvs _ mb eb ek rvs=>
 have hab:a ≠ b:=fun z=>by rw [z,eb] at ea; cases ea
 have p1:=px.grow (nw:=fun c=>c=a ∨ c=b) s (fun c z=>by
  rcases z with rfl | rfl
  ·exact⟨ma,_,ea,rfl⟩
  ·exact⟨mb,_,eb,rfl⟩)
 have off:∀ (l:Nat) (y:PV) (c:Addr),H c=none->ρ[l]? = some (some (.own y))->σ[l]? ≠ some (some (.ref c)):=fun l y c hc h1 h2=>by
  obtain ⟨u,e1,c',e2,e3,_⟩:=px.sl l _ h1
  rw [h2] at e1
  cases e1
  cases e2
  exact (px.new hc).1 e3
 have p2:=p1.name (i:=i) (a:=a) (x:=.lst xs) (.inr (.inl rfl)) ⟨ws,ea,rxs.flat f1⟩ fun l y h1 _=>off l y a ma h1
 have p3:=p2.name (i:=j) (a:=b) (x:=.dT ps) (.inr (.inr rfl)) ⟨kvs,eb,ek,rvs.flat f2⟩ fun l y h1 hlj h2=>by
  rcases dH h1 with ⟨e1,l1,_⟩ | ⟨n1,h1⟩
  ·rw [e1,bg6 (by rw [<- px.len]; exact l1)] at h2
   cases h2
   exact hab rfl
  ·rw [bd7 (Ne.symm n1)] at h2
   exact off l y b mb h1 h2
 refine⟨t,_,rfl,aO.of ht,rfl,_,_,rfl,_,_,rfl,rfl,?_⟩
 exact k.nx _ _ H1 _ (fun c o hc nc=>⟨s _ _ hc,fun z=>z.elim nc fun z=>by
  rcases z with rfl | rfl
  ·rw [show H c=none from ma] at hc; cases hc
  ·rw [show H c=none from mb] at hc; cases hc⟩) p3 q
theorem aN7 (i j:Nat) {x y:Str}{tp xp yp:Pos}{kt:Nat} (hN:X.N.Nodup) (he:QE X e te) (hx:X.N[i]? = some x:=by rfl) (hy:X.N[j]? = some y:=by rfl) (hlx:gY X.env.scope x:=by first | exact Or.inl rfl | exact Or.inr rfl) (hly:gY X.env.scope y:=by first | exact Or.inl rfl | exact Or.inr rfl)
  (hfx:X.fn x=true ∨ X.env.scope.names.lookup x=some .local:=by first | exact .inl rfl | exact .inr rfl) (hfy:X.fn y=true ∨ X.env.scope.names.lookup y=some .local:=by first | exact .inl rfl | exact .inr rfl) (hc:X.calm=true:=by rfl)
  (hs:swapsWithSole [.Tuple [.Name x xp,.Name y yp] kt tp] e pos.line X.env=pure false:=by rfl) (hw:swappedStores [.Tuple [.Name x xp,.Name y yp] kt tp] e X.env=pure none:=by rfl):QS X (.Assign [.Tuple [.Name x xp,.Name y yp] kt tp] e pos) (xT i j te):=by
 have g:PG X (.Tuple [.Name x xp,.Name y yp] kt tp) (iK X.K 2 (dR (bX i) (dR (bX j) iJ))):=m5 hc (g9 (eR hN hx hlx hfx) (g9 (eR hN hy hly hfy) m3))
 exact cO (yS he g hs hw) fun _ _ _=>aN6
end
section
variable {X : Cx} {e : Expr} {tk : aE} {D : c7} {σ : St} {H : Hp} {pos : Pos}
def xU (i:Nat) (tk:aE):aH:=fun D ρ=>∃ ps,ρ[i]? = some (some (.own (.dT ps)))/\tk ρ fun y _=>∃ k,y = .tup (k.map kP)/\(∃ j:Nat,(ps.map (·.1))[j]? = some k)/\∀ j:Nat,(ps.map (·.1))[j]? = some k->D.nx (ρ.set i (some (.own (.dT (ps.eraseIdx j)))))
theorem aN8 {i:Nat} (h:LS X (xU i tk) D σ H):jR (O7 (eF i) (LE X tk)) D σ H:=by
 obtain ⟨W,ρ,D',px,⟨ps,hi,q⟩,k⟩:=h
 obtain ⟨v,ev,a,rfl,wa,kvs,ea,e1,r⟩:=px.sl i _ hi
 refine⟨_,ev,a,rfl,.inr ⟨kvs,.inl ea⟩,W,ρ,_,px,q,?_⟩
 rintro kv H2 y g s ry ⟨kk,rfl,is,q⟩
 obtain ⟨b,us,rfl,hb,rb⟩:=ry.sqT
 obtain rfl:=r6 rb
 have ea2:=s _ _ ea
 refine⟨kvs,kk,b,ea2,rfl,hb,by rw [e1]; exact is,fun j v hj=>?_⟩
 rw [e1] at hj
 refine k.nx W σ _ _ ((Ev.same s).trans (Ev.upd wa)) ((px.mono s).updT hi ev wa ⟨?_,?_⟩) (q j hj)
 ·rw [Raw.lH,Raw.lH,e1]
 ·rw [Raw.lH,Raw.lH]
  exact ((r.same s fun _ z=>z).eraseIdx j).keep (.upd ea2 rfl fun b m=>⟨i4 wa m,m⟩)
theorem aN9 (i:Nat) {x:Str}{apos cpos xpos:Pos} (hu:X.A.units+1 < cLine) (he:QE X e tk) (hm:M1 X (.Name x xpos) "pop" apos e cpos:=by exact⟨rfl,rfl,rfl,rfl⟩) (hN:X.N[i]? = some x:=by rfl) (hv:eD X.env.scope x:=by first | exact Or.inl rfl | exact Or.inr (Or.inl rfl) | exact Or.inr (Or.inr rfl)) (hd:(x == ("__debug__" : Str))=false:=by decide) (hcd:(x == ("__classdict__" : Str))=false:=by decide)
  (hsw:swapsWith (.Call (.Attribute (.Name x xpos) "pop" apos) [e] [] cpos) none pos.line X.env=pure false:=by rfl):QS X (.Expr (.Call (.Attribute (.Name x xpos) "pop" apos) [e] [] cpos) pos) (xU i tk):=
 cO (j3 (aC8 hu (fG hN hv hd hcd) he hm) hsw) fun _ _ _=>aN8
end
def spS (K:PySem.W.Frag) (p:bF):Sp:=fun vs H Q _=>∃ xs Qp,Reps K (fun _=>True) H vs xs/\p xs Qp/\∀ v H' x,aD H H'->aJ K (fun _=>True) H' v x->Qp x->Q v H'
structure nF (P:Program) (w:World) (K:PySem.W.Frag) (mg:Str->Option Value) (base:Heap) (k:Nat) (x:Str) (ps:List Str) (p:bF):Prop where
 ex:∃ f fd,cW P w K mg base dG k f fd ps (spS K p)/\hG K fd ps []/\PySem.W.keepIn K (.ref f)=true/\mg x=some (.ref f)
def nG (X:Cx) (last:TS):List aH->TS
 | []=>last
 | t :: r=>tP (LS X t) (nG X last r)
def pF (i:Nat) (rs:PV->Prop):List aH->aH
 | []=>fun _ ρ=>∃ m,ρ[i]? = some (some m)/\rs m.val
 | t :: r=>fun D ρ=>t { D with nx:=pF i rs r D } ρ
section
variable {X : Cx} {i : Nat}
theorem V4 {rs:PV->Prop}{D':jF}{D:c7} (hrs:∀ v H' x,aD X.H₀ H'->aJ X.K (fun _=>True) H' v x->rs x->D.rt v H'):∀ (ts:List aH) {W:Addr->Prop}{ρ:bG}{H:Hp}{σ:St},PX X.K X.H₀ W σ ρ H->pF i rs ts D' ρ->mH X W H D' D->nG X (lY (eF i)) ts D σ H
 | [],W,ρ,H,σ,px,q,k=>by
  obtain ⟨m,e,q⟩:=q
  obtain ⟨v,ev,r⟩:=px.sl i m e
  exact⟨v,ev,hrs v H m.val px.same ((qU (Hs:=H) r).same (aD.refl _) fun _ _=>trivial) q⟩
 | t :: r,W,ρ,H,σ,px,q,k=>⟨W,ρ,{ D' with nx:=pF i rs r D' },px,q,⟨fun W' σ' H' ρ' e px' q'=>V4 hrs r px' q' (k.step e),k.rt,k.bk,k.ct⟩⟩
theorem aO0 (i:Nat) {x:Str}{p2 pos:Pos} (hN:X.N[i]? = some x:=by rfl) (hv:eD X.env.scope x:=by first | exact Or.inl rfl | exact Or.inr (Or.inl rfl) | exact Or.inr (Or.inr rfl)) (hd:(x == ("__debug__" : Str))=false:=by decide) (hcd:(x == ("__classdict__" : Str))=false:=by decide) :
  cY X [.Return (some (.Name x p2)) pos] (nG X (lY (eF i)) []):=lX (lZ (fG hN hv hd hcd))
theorem sO {st:Stmt}{sts:List Stmt}{t:aH}{ts:List aH}{last:TS} (h1:QS X st t) (h2:cY X sts (nG X last ts)):cY X (st :: sts) (nG X last (t :: ts)):=nQ h1 h2
variable {tr : cI} {e : Expr} {es : List Expr} {pos p2 : Pos}
def xV (p:bF) (t:cI):aE:=fun ρ Q=>t ρ fun xs=>p (xs.map (·.1)) fun z=>Q z .rd
theorem aO1 {k j:Nat}{x:Str}{ps:List Str}{p:bF} (d:nF X.prog X.w X.K X.mg X.base k x ps p) (hr:c8 j X.A) (ha:QA X (e :: es) tr) (hkj:k<=j:=by decide) (hg:Gl X x:=by rfl) (hdb:(x == ("__debug__" : Str))=false:=by decide)
  (he:starEach (e :: es) X.env=(false,eval e X.env) :: starEach es X.env:=by rfl) (hpl:(backTo pos (starEach es X.env)).any (·.1)=false:=by rfl):QE X (.Call (.Name x p2) (e :: es) [] pos) (xV p tr):=by
 obtain ⟨f,fd,F,b,kp,m⟩:=d.ex
 refine bY (pS F (hr.mono hkj) hg m kp b .nil E5 ha hdb he hpl) fun σ H Q' h=>?_
 obtain ⟨W,ρ,Q,px,q,k⟩:=h
 exact⟨W,ρ,_,px,q,fun vs H1 xs s1 r1 q1=>⟨_,_,by rw [be6]; exact r1.any,q1,fun v H' x s2 r2 q2=>k v H' x .rd (s1.trans s2) (r2.same (aD.refl _) fun _ _=>trivial) q2⟩⟩
end
theorem nF.of {P:Program}{w:World}{K:PySem.W.Frag}{mg:Str->Option Value}{base:Heap}{k:Nat}{x:Str}{ps N:List Str}{p:bF}{st:Stmt}{f:Addr}{fd:FuncData} (F:eS K x x st f fd) (m:mg x=some (.ref f)) (S:FnScope N ps (aS st))
  (hb:∀ (kV doc pm:Value) (an:Option Addr) (cdv ct:Value) (us:List Value),us.length=ps.length->bindArgs (PySem.W.fnOf x x (iL st) (dZ st) (aS st) .none kV doc pm an cdv ct) ⟨us,[]⟩=pure (ps.zip us))
  (len:∀ xs Q,p xs Q->xs.length=ps.length) (i:Nat) (ts:List aH) (rd:∀ xs Q,p xs Q->pF i Q ts { nx:=fun _=>Q .non,rt:=Q } (eY N xs))
  (body:∀ (cdv:Value) (A:Around) (outer:List Env) (s:Shared) (H:Hp) (E:XK),c8 k (A.deeper (PyProof.Rows.envOfC x (aS st) s.heap.objs.size f cdv))->
   cY (dA dG P w K mg base N x (aS st) f cdv A outer s H E).nox (dZ st) (nG (dA dG P w K mg base N x (aS st) f cdv A outer s H E).nox (lY (eF i)) ts)):nF P w K mg base (k+1) x ps p:=by
 refine⟨f,fd,F.ok S (fun vs H Q E h=>?_) (fun cdv A outer s H vs Q E hr h=>?_),F.binds hb,F.kp,m⟩
 ·obtain ⟨xs,Qp,r,q,_⟩:=h
  rw [r.length]; exact len xs Qp q
 ·obtain ⟨xs,Qp,r,q,k⟩:=h
  refine⟨_,body cdv A outer s H E hr,V4 (rs:=Qp) (fun v H' x s' r' q'=>k v H' x s' r' q') ts (rM r) (rd xs Qp q) ⟨?_,?_,?_,?_⟩⟩
  ·exact fun W' σ' H' ρ' e px q=>k _ _ _ px.same .non q
  ·exact fun v H' x s' r' q'=>k _ _ _ s' (r'.same (aD.refl _) fun _ _=>trivial) q'
  ·exact fun W' σ' H' ρ' e px q=>q
  ·exact fun W' σ' H' ρ' e px q=>q
end PP
namespace Core
open PySem L2 PP
def kJ:bF:=fun xs Q=>∃ c k:Int,xs = [.int c,.int k]/\0<=k/\k<=1000/\∀ z:Int,0<=z->Q (.int z)
def V5:aH:=(aG (b5 2 (bM (vY (eL (eL (bM (a5 0) (qC (.int 1000000007))) (vY (a5 1) (a5 1))) (qC (.int 1))) (qC (.int 48271))) (qC (.int 2147483647))))
 (bC (cR (bM (vY (a5 2) (a5 2)) (qC (.int 2147483647))) (qC (.int 8)))))
theorem aO2:cU V5 ["cell","k","turn"] kJ:=by
 rintro xs Q ⟨c,k,rfl,k0,k1,q⟩
 refine⟨_,rfl,_,_,rfl,rfl,(by show (0:Int) < 1000000007; decide),_,rfl,_,rfl,_,_,rfl,rfl,.inl ⟨by show -(2 ^ 64) < k; omega,by show k < 2 ^ 64; omega⟩,_,_,rfl,rfl,_,_,rfl,rfl,_,_,rfl,rfl,.inr ⟨by decide,by decide⟩,_,_,rfl,rfl,(by show (0:Int) < 2147483647; decide),trivial,?_⟩
 dsimp only
 have t0:0<=(c % 1000000007+k * k+1) * 48271 % 2147483647:=bf2 _ (by decide)
 have t1:(c % 1000000007+k * k+1) * 48271 % 2147483647 < 2147483647:=bg2 _ (by decide)
 generalize (c % 1000000007+k * k+1) * 48271 % 2147483647=t at t0 t1
 refine⟨_,rfl,_,rfl,_,_,rfl,rfl,.inl ⟨by show -(2 ^ 64) < t; omega,by show t < 2 ^ 64; omega⟩,_,_,rfl,rfl,(by show (0:Int) < 2147483647; decide),_,_,rfl,rfl,⟨by decide,by decide⟩,trivial,q _ ?_⟩
 have:=bf2 (t * t) (show (2147483647:Int) ≠ 0 by decide)
 omega
def NN (zs:List Int):Prop:=∀ z ∈ zs,(0:Int)<=z
def nH:bF:=fun xs Q=>∃ (w:Int) (ws ds:List Int),xs = [.int w,.lst (intz ws),.lst (intz ds)]/\ws.length<=1000/\ds.length=ws.length/\NN ws/\NN ds/\∀ zs,zs.length=ws.length->NN zs->Q (.lst (intz zs))
def V6:List aH:=[(bL (aU (dW (a5 0) (qC (.int 1)))) (bC (cG (dE (a5 1)) [none] (bK 0) dO (qC (.int 2)))) cC),
 (bL (aU (dW (a5 0) (qC (.int 2)))) (bC (aB jY (a6 (a5 2) a9))) cC),
 (bL (aU (dW (a5 0) (qC (.int 3)))) (bC (cG (dE (a5 2)) [none] (bK 0) dO (aB l8 (a6 (qC (.int 0)) (a6 (k7 (a5 0) (qC (.int 1))) a9))))) cC),
 (bL (aU (dW (a5 0) (qC (.int 4)))) (bC (cG (dE (a5 2)) [none] (bK 0) dO (cR (eL (a5 0) (qC (.int 1))) (qC (.int 2))))) cC)]
theorem NN.app {zs:List Int}{z:Int} (h:NN zs) (hz:0<=z):NN (zs ++ [z]):=fun y hy=>by
 rcases bf0.mp hy with hy | hy
 ·exact h y hy
 ·rw [bd1.mp hy]; exact hz
theorem aO3:∀ xs Q,nH xs Q->pF 1 Q V6 { nx:=fun _=>Q .non,rt:=Q } (eY ["way","wants","degrees"] xs):=by
 rintro xs Q ⟨w,ws,ds,rfl,hl,hd,nw,nd,q⟩
 have inv:∀ {i:Nat}{acc:List PV}{z:Int},(∃ zs,acc=intz zs/\zs.length=i/\NN zs)->0<=z->∃ zs,acc ++ [PV.int z]=intz zs/\zs.length=i+1/\NN zs:=fun {i acc z} h hz=>by
  obtain ⟨zs,rfl,h1,h2⟩:=h
  exact⟨zs ++ [z],by rw [cT]; rfl,by rw [bc0,h1]; rfl,h2.app hz⟩
 refine⟨_,rfl,.inl ⟨_,_,rfl,rfl,_,rfl,?_⟩⟩
 cases h1:(if false=true then !decide (w=1) else decide (w=1)) with
 | true=>
  refine aV ⟨_,rfl,_,rfl,(fun z=>by cases z),by rw [aP]; omega,fun i acc=>∃ zs,acc=intz zs/\zs.length=i/\NN zs,⟨[],rfl,rfl,fun _ h=>nomatch h⟩,?_,?_⟩
  ·rintro i y acc hy h
   obtain ⟨n,rfl,hn⟩:=fB hy
   exact⟨trivial,inv h (by decide)⟩
  ·rintro acc ⟨zs,rfl,h2,h3⟩
   exact⟨trivial,q zs (by rw [h2,aP]) h3⟩
 | false=>
 refine aR ⟨_,rfl,.inl ⟨_,_,rfl,rfl,_,rfl,?_⟩⟩
 cases h2:(if false=true then !decide (w=2) else decide (w=2)) with
 | true=>exact aV ⟨_,rfl,_,_,rfl,rfl,bP _,trivial,q ds hd nd⟩
 | false=>
 refine aR ⟨_,rfl,.inl ⟨_,_,rfl,rfl,_,rfl,?_⟩⟩
 cases h3:(if false=true then !decide (w=3) else decide (w=3)) with
 | true=>
  refine aV ⟨_,rfl,_,rfl,(fun z=>by cases z),by rw [aP]; omega,fun i acc=>∃ zs,acc=intz zs/\zs.length=i/\NN zs,⟨[],rfl,rfl,fun _ h=>nomatch h⟩,?_,?_⟩
  ·rintro i y acc hy h
   obtain ⟨n,rfl,hn⟩:=fB hy
   exact⟨_,rfl,_,_,rfl,rfl,_,_,rfl,trivial,inv h (by split <;> omega)⟩
  ·rintro acc ⟨zs,rfl,h2,h3⟩
   exact⟨trivial,q zs (by rw [h2,aP,hd]) h3⟩
 | false=>
 refine aR ⟨_,rfl,.inl ⟨_,_,rfl,rfl,_,rfl,?_⟩⟩
 cases h4:(if false=true then !decide (w=4) else decide (w=4)) with
 | true=>
  refine aV ⟨_,rfl,_,rfl,(fun z=>by cases z),by rw [aP]; omega,fun i acc=>∃ zs,acc=intz zs/\zs.length=i/\NN zs,⟨[],rfl,rfl,fun _ h=>nomatch h⟩,?_,?_⟩
  ·rintro i y acc hy h
   obtain ⟨n,rfl,hn⟩:=fB hy
   have n0:0<=n:=nd n (be1 hn)
   exact⟨_,rfl,_,_,rfl,rfl,_,_,rfl,rfl,⟨by decide,by decide⟩,trivial,inv h (by omega)⟩
  ·rintro acc ⟨zs,rfl,h2,h3⟩
   exact⟨trivial,q zs (by rw [h2,aP,hd]) h3⟩
 | false=>exact aR ⟨_,rfl,q ws rfl nw⟩
abbrev DK (n:Int) (ps:List (List aC × PV)):Prop:=DL n ps ps.length
theorem DL.dk {n:Int}{ps:List (List aC × PV)}{i:Nat} (h:DL n ps i):DK n ps:=⟨h.key,bc1 _,h.fl,h.nd⟩
theorem DK.nil (n:Int):DK n []:=⟨(fun _ h=>nomatch h),bc1 _,rfl,.nil⟩
theorem xW:∀ (m:Nat) (l:List Nat),l.Nodup->(∀ x ∈ l,x < m)->l.length<=m
 | 0,[],_,_=>bc1 _
 | 0,x :: _,_,h=>absurd (h x bd0) (Nat.not_lt_zero _)
 | m+1,l,nd,h=>by
  by_cases hm:m ∈ l
  ·have h1:=xW m (l.erase m) (nd.erase m) fun x hx=>by
    obtain ⟨h2,h3⟩:=(nd.mem_erase_iff).mp hx
    have:=h x h3
    omega
   rw [List.length_erase_of_mem hm] at h1
   omega
  ·have h1:=xW m l nd fun x hx=>by
    have:=h x hx
    have:x ≠ m:=fun z=>hm (z ▸ hx)
    omega
   omega
theorem DK.few {n:Int}{ps:List (List aC × PV)} (h:DK n ps) (hn:n<=8):ps.length < 64:=by
 obtain ⟨ls,_,e2,e3,e4⟩:=DL.links h.key
 have nd:ls.Nodup:=by
  have:=h.nd
  rw [e4] at this
  exact (bl5.mp this).imp fun h e=>h (congrArg fP e)
 have:=xW 56 (ls.map fun l=>(l.1 * 8+l.2).toNat) (by
  refine bl5.mpr (nd.imp_of_mem fun {a b} ha hb hab e=>hab ?_)
  have:=e2 a ha
  have:=e2 b hb
  exact Prod.ext (by omega) (by omega)) fun x hx=>by
   obtain ⟨l,hl,rfl⟩:=bj1.mp hx
   have:=e2 l hl
   omega
 rw [bc4,e3] at this
 omega
def sP:bF:=fun xs Q=>∃ c n:Int,xs = [.int c,.int n]/\0<=n/\n<=40/\∀ ws ps,(ws.length:Int)=n->NN ws->DK n ps->Q (.tup [.lst (intz ws),.dT ps])
def V7:aH:=(aG (dI 2 (eV a9))
 (aG (dI 3 (qC (.dT [])))
 (aG (dU (fW (a5 1)) (bK 4)
  (aG (jX 2 (bM (a5 0) (qC (.int 7))))
  (b5 0 (cR (a5 0) (qC (.int 7))))))
 (aG (dU (fW (a5 1)) (bK 5)
  (dU (vS (eL (a5 5) (qC (.int 1))) (a5 1)) (bK 6)
   (aG (bL (aU (dW (bM (a5 0) (qC (.int 2))) (qC (.int 1)))) (mP 3 (dB (a6 (a5 5) (a6 (a5 6) a9))) (qC (.bl true))) cC)
   (b5 0 (cR (a5 0) (qC (.int 2)))))))
 (qX 2 (qX 3 (bC (vH (a6 (a5 2) (a6 (a5 3) a9))))))))))
theorem aO4:cU V7 ["cell","many","wants","links","hearth","one","other"] sP:=by
 rintro xs Q ⟨c,n,rfl,n0,n1,q⟩
 refine⟨by decide,rfl,rfl,rfl,rfl,rfl,?_⟩
 refine⟨_,rfl,n,rfl,by omega,by omega,fun i ρ=>∃ (c:Int) (y:Option Slot) (ws:List Int),ρ = [si c,si n,some (.own (.lst (intz ws))),some (.own (.dT [])),y,none,none]/\ws.length=i/\NN ws,⟨c,none,[],rfl,rfl,fun _ h=>nomatch h⟩,?_,?_⟩
 ·rintro i y ρ hy ⟨c,y0,ws,rfl,hl,hp⟩
  obtain ⟨rfl,hi⟩:=iC hy
  refine lO ?_
  refine⟨_,rfl,_,rfl,_,_,rfl,rfl,(by show (0:Int) < 7; decide),trivial,by rw [aP]; omega,?_⟩
  refine⟨_,rfl,_,_,rfl,rfl,⟨by decide,by decide⟩,trivial,c / 7,si (0+(i:Int)),ws ++ [c % 7],?_,by rw [bc0,hl]; rfl,hp.app (bf2 _ (by decide))⟩
  rw [cT]; rfl
 rintro ρ ⟨c,y0,ws,rfl,hl,hp⟩
 rw [dN] at hl
 have wl:(ws.length:Int)=n:=by omega
 refine⟨_,rfl,n,rfl,by omega,by omega,fun i ρ=>∃ (c:Int) (y z:Option Slot) (ps:List (List aC × PV)),ρ = [si c,si n,some (.own (.lst (intz ws))),some (.own (.dT ps)),y0,y,z]/\DL n ps (i * 40),⟨c,none,none,[],rfl,⟨(fun _ h=>nomatch h),bh2 _,rfl,.nil⟩⟩,?_,?_⟩
 ·rintro i y ρ hy ⟨c,y1,z1,ps,rfl,dl⟩
  obtain ⟨rfl,hi⟩:=iC hy
  refine lO ?_
  refine⟨_,rfl,_,_,rfl,rfl,_,rfl,_,n,rfl,rfl,⟨by omega,by omega,by omega,by omega⟩,fun j ρ=>∃ (c:Int) (z:Option Slot) (ps:List (List aC × PV)),ρ = [si c,si n,some (.own (.lst (intz ws))),some (.own (.dT ps)),y0,si (0+(i:Int)),z]/\DL n ps (i * 40+j),⟨c,z1,ps,rfl,dl⟩,?_,?_⟩
  ·rintro j y ρ hy ⟨c,z2,ps,rfl,dl⟩
   obtain ⟨rfl,hj⟩:=iC hy
   refine lO ?_
   have dl1:DL n ps (i * 40+(j+1)):=⟨dl.key,by have:=dl.len; omega,dl.fl,dl.nd⟩
   refine⟨_,rfl,_,_,rfl,rfl,(by show (0:Int) < 2; decide),.inl ⟨_,_,rfl,rfl,_,rfl,?_⟩⟩
   cases h:(if false=true then !decide (c % 2=1) else decide (c % 2=1)) with
   | true=>
    refine aV ⟨_,rfl,_,rfl,_,rfl,by show 2<=1000; decide,rfl,fP (0+(i:Int),0+(i:Int)+1+(j:Int)),rfl,trivial,by have:=dl.len; omega,?_⟩
    refine⟨_,rfl,_,_,rfl,rfl,⟨by decide,by decide⟩,trivial,c / 2,si (0+(i:Int)+1+(j:Int)),_,rfl,?_⟩
    exact dl.put _ ⟨by show (0:Int)<=0+(i:Int); omega,by show (0:Int)+(i:Int) < 0+(i:Int)+1+(j:Int); omega,by show (0:Int)+(i:Int)+1+(j:Int) < n; omega⟩
   | false=>exact aR ⟨_,rfl,_,_,rfl,rfl,⟨by decide,by decide⟩,trivial,c / 2,si (0+(i:Int)+1+(j:Int)),ps,rfl,dl1⟩
  ·rintro ρ ⟨c,z2,ps,rfl,dl⟩
   rw [dN] at dl
   exact⟨c,si (0+(i:Int)),z2,ps,rfl,⟨dl.key,by have:=dl.len; omega,dl.fl,dl.nd⟩⟩
 ·rintro ρ ⟨c,y1,z1,ps,rfl,dl⟩
  refine⟨_,rfl,_,rfl,_,rfl,_,rfl,by show 2<=1000; decide,?_,trivial,q ws ps wl hp dl.dk⟩
  intro p hp
  simp only [bc5,bc7,bg5] at hp
  rcases hp with rfl | rfl <;> trivial
theorem gS.seqTF {x:PV}{ns:List Int} (h:gS x ns):seqT x=some (intz ns):=by rcases h with rfl | rfl <;> rfl
theorem DK.put {n:Int}{ps:List (List aC × PV)} (h:DK n ps) (l:Int × Int) (hl:0<=l.1/\l.1 < l.2/\l.2 < n):DK n (cJ ps (fP l) (.bl true)):=(DL.put h l hl).dk
theorem DK.cut {n:Int}{ps:List (List aC × PV)} (h:DK n ps) (j:Nat):DK n (ps.eraseIdx j):=
 ⟨fun p hp=>h.key p (List.mem_of_mem_eraseIdx hp),bc1 _,by
  rw [Raw.lH]
  have:∀ (j:Nat) {xs:List PV},flats xs=true->flats (xs.eraseIdx j)=true:=by
   intro j
   induction j with
   | zero=>
    intro xs h
    cases xs with
    | nil=>rfl
    | cons x r=>unfold flats at h; rw [bd8] at h; exact h.2
   | succ j ih=>
    intro xs h
    cases xs with
    | nil=>rfl
    | cons x r=>
     unfold flats at h
     rw [bd8] at h
     show (flat x && flats (r.eraseIdx j))=true
     rw [h.1,ih h.2]; rfl
  exact this j h.fl,(h.nd).sublist ((List.eraseIdx_sublist ps j).map _)⟩
def sQ:bF:=fun xs Q=>∃ x ns,∃ n wy:Int,xs = [x,.int n,.int wy]/\gS x ns/\ns.length<=63/\0<=n/\n<=8/\∀ ws ls,lM n ws ls->Q (aZ ws ls)
def xX:aH:=(aG (dU (dE (a5 0)) (bK 5)
  (bL (aU (iO (a5 1) (qC (.int 0)))) (aG (b5 6 (aB kJ (a6 (a5 5) (a6 (qC (.int 0)) a9))))
   (aG (b5 7 (bM (a5 6) (a5 1)))
   (aG (b5 8 (bM (cR (a5 6) (qC (.int 64))) (a5 1)))
   (bL (aU (dW (bM (cR (a5 6) (qC (.int 4096))) (qC (.int 4))) (qC (.int 0)))) (oN 3 (a5 7) (bM (cR (a5 6) (qC (.int 16384))) (qC (.int 5)))) (bL (i3 (aU (w4 (a5 7) (a5 8))) (aU (lC false (dB (a6 (aB mK (a6 (a5 7) (a6 (a5 8) a9))) (a6 (aB l8 (a6 (a5 7) (a6 (a5 8) a9))) a9))) (a5 4)))) (xU 4 (dB (a6 (aB mK (a6 (a5 7) (a6 (a5 8) a9))) (a6 (aB l8 (a6 (a5 7) (a6 (a5 8) a9))) a9)))) (bL (aU (w4 (a5 7) (a5 8))) (mP 4 (dB (a6 (aB mK (a6 (a5 7) (a6 (a5 8) a9))) (a6 (aB l8 (a6 (a5 7) (a6 (a5 8) a9))) a9))) (qC (.bl true))) cC)))))) cC))
 (aG (b5 9 (cG (fW (a5 1)) [none,some 4] (bK 0) dO (aB bU (a6 (sM (a5 1) [none,some 0] (bK 0) (aU (q2 (lD false) (a5 1) (a5 0))) (a5 0)) a9))))
 (bC (dB (a6 (aB e9 (a6 (xV nH (a6 (a5 2) (a6 (a5 3) (a6 (a5 9) a9)))) a9)) (a6 (aB e9 (a6 (aB rX (a6 (aB rY (a6 (a5 4) a9)) a9)) a9)) a9))))))
def V8:aH:=(aG (dI 3 (cG (fW (a5 1)) [none] (bK 0) dO (eL (qC (.int 1)) (bM (a5 0) (qC (.int 2))))))
 (aG (dI 4 (qC (.dT [])))
 (aG (bL (i3 (aU (iO (aB bU (a6 (a5 0) a9)) (qC (.int 0)))) (aU (dW (bM (cL (a5 0) (qC (.int 0))) (qC (.int 2))) (qC (.int 1))))) (aG (xT 3 4 (aB sP (a6 (cR (cL (a5 0) (qC (.int 0))) (qC (.int 2))) (a6 (a5 1) a9))))
  (b5 0 (rC (a5 0) (rB (qC (.int 1))) rA))) cC)
 xX)))
theorem NN.set {zs:List Int}{z:Int} (h:NN zs) (hz:0<=z) (j:Nat):NN (zs.set j z):=fun y hy=>by
 rcases List.mem_or_eq_of_mem_set hy with hy | rfl
 ·exact h y hy
 ·exact hz
theorem V9 {x:PV}{ns:List Int}{n wy:Int}{g:Bool}{ws:List Int}{ps:List (List aC × PV)}{Q:PV->Prop} (hx:gS x ns) (hg:(Slot.sh g x).tag = .rd->flat x=true) (n0:0<=n) (n1:n<=8) (wl:(ws.length:Int)=n) (nw:NN ws) (dk:DK n ps) (q:∀ ws ls,lM n ws ls->Q (aZ ws ls)) :
  xX { nx:=fun _=>Q .non,rt:=Q } [some (.sh g x),si n,si wy,some (.own (.lst (intz ws))),some (.own (.dT ps)),none,none,none,none,none]:=by
 refine⟨_,rfl,_,hx.seq,hg,fun i ρ=>∃ (a b c d:Option Slot) (ws:List Int) (ps:List (List aC × PV)),ρ = [some (.sh g x),si n,si wy,some (.own (.lst (intz ws))),some (.own (.dT ps)),a,b,c,d,none]/\(ws.length:Int)=n/\NN ws/\DK n ps,⟨none,none,none,none,ws,ps,rfl,wl,nw,dk⟩,?_,?_⟩
 ·rintro i y ρ hy ⟨a,b,c,d,ws,ps,rfl,wl,nw,dk⟩
  obtain ⟨cell,rfl,hc⟩:=fB hy
  generalize l9 _ _=gg
  have few:=dk.few n1
  refine⟨_,rfl,_,_,rfl,rfl,_,rfl,?_⟩
  by_cases h1:(0:Int) < n
  ·dsimp only
   rw [bd4 h1]
   refine aV ⟨_,rfl,cell,0,rfl,by decide,by decide,fun t t0=>⟨trivial,?_⟩⟩
   refine⟨_,rfl,_,rfl,_,_,rfl,rfl,h1,trivial,?_⟩
   refine⟨_,rfl,_,_,rfl,rfl,⟨by decide,by decide⟩,_,rfl,_,_,rfl,rfl,h1,trivial,?_⟩
   dsimp only
   generalize hone:t % n=one
   generalize hoth:t / 64 % n=oth
   have o1:0<=one/\one < n:=by rw [<- hone]; exact⟨bf2 _ (by omega),bg2 _ h1⟩
   have o2:0<=oth/\oth < n:=by rw [<- hoth]; exact⟨bf2 _ (by omega),bg2 _ h1⟩
   have lk:one ≠ oth->0<=(if oth < one then oth else one)/\(if oth < one then oth else one) < (if oth > one then oth else one)/\(if oth > one then oth else one) < n:=fun ne=>by
    split <;> split <;> omega
   refine⟨_,rfl,_,_,rfl,rfl,⟨by decide,by decide⟩,_,_,rfl,rfl,(by show (0:Int) < 4; decide),.inl ⟨_,_,rfl,rfl,_,rfl,?_⟩⟩
   cases h2:(if false=true then !decide (t / 4096 % 4=0) else decide (t / 4096 % 4=0)) with
   | true=>
    refine aV ⟨_,rfl,_,_,rfl,rfl,⟨by decide,by decide⟩,_,_,rfl,rfl,(by show (0:Int) < 5; decide),_,rfl,_,rfl,one,one.toNat,rfl,?_,trivial,?_⟩
    ·rw [aP]; unfold gF; rw [if_pos o1.1,if_pos (by omega)]
    ·refine⟨some (.sh (gg || true) (.int cell)),si t,si one,si oth,ws.set one.toNat (t / 16384 % 5),ps,?_,by rw [bg1]; exact wl,nw.set (bf2 _ (by decide)) _,dk⟩
     rw [show intz (ws.set one.toNat (t / 16384 % 5))=(intz ws).set one.toNat (.int (t / 16384 % 5)) from List.map_set ..]
     rfl
   | false=>
    refine aR ⟨_,rfl,_,rfl,.inl ⟨_,_,rfl,rfl,_,rfl,?_⟩⟩
    show if (!decide (one=oth))=true then _ else _
    have third:(bL (aU (w4 (a5 7) (a5 8))) (mP 4 (dB (a6 (aB mK (a6 (a5 7) (a6 (a5 8) a9))) (a6 (aB l8 (a6 (a5 7) (a6 (a5 8) a9))) a9))) (qC (.bl true))) cC) { nx:=fun ρ=>∃ (a b c d:Option Slot) (ws:List Int) (ps:List (List aC × PV)),ρ = [some (.sh g x),si n,si wy,some (.own (.lst (intz ws))),some (.own (.dT ps)),a,b,c,d,none]/\(ws.length:Int)=n/\NN ws/\DK n ps,rt:=Q,ct:=fun ρ=>∃ (a b c d:Option Slot) (ws:List Int) (ps:List (List aC × PV)),ρ = [some (.sh g x),si n,si wy,some (.own (.lst (intz ws))),some (.own (.dT ps)),a,b,c,d,none]/\(ws.length:Int)=n/\NN ws/\DK n ps,bk:=(aG (b5 9 (cG (fW (a5 1)) [none,some 4] (bK 0) dO (aB bU (a6 (sM (a5 1) [none,some 0] (bK 0) (aU (q2 (lD false) (a5 1) (a5 0))) (a5 0)) a9)))) (bC (dB (a6 (aB e9 (a6 (xV nH (a6 (a5 2) (a6 (a5 3) (a6 (a5 9) a9)))) a9)) (a6 (aB e9 (a6 (aB rX (a6 (aB rY (a6 (a5 4) a9)) a9)) a9)) a9))))) { nx:=fun _=>Q .non,rt:=Q } }
      [some (.sh g x),si n,si wy,some (.own (.lst (intz ws))),some (.own (.dT ps)),some (.sh (gg || true) (.int cell)),si t,si one,si oth,none]:=by
     refine⟨_,rfl,_,rfl,.inl ⟨_,_,rfl,rfl,_,rfl,?_⟩⟩
     show if (!decide (one=oth))=true then _ else _
     by_cases h3:one=oth
     ·rw [bd4 h3]
      exact aR ⟨some (.sh (gg || true) (.int cell)),si t,si one,si oth,ws,ps,rfl,wl,nw,dk⟩
     ·rw [bc8 h3]
      refine aV ⟨_,rfl,_,rfl,_,rfl,_,_,rfl,_,rfl,_,rfl,_,_,rfl,by show 2<=1000; decide,rfl,fP (if oth < one then oth else one,if oth > one then oth else one),rfl,trivial,by omega,?_⟩
      exact⟨some (.sh (gg || true) (.int cell)),si t,si one,si oth,ws,_,rfl,wl,nw,dk.put _ (lk h3)⟩
    by_cases h3:one=oth
    ·rw [bd4 h3]
     exact aR (aR third)
    ·rw [bc8 h3]
     refine aV ⟨_,rfl,_,rfl,_,_,rfl,_,rfl,_,rfl,_,_,rfl,by show 2<=1000; decide,rfl,_,rfl,_,.inr ⟨ps,fP (if oth < one then oth else one,if oth > one then oth else one),rfl,rfl,rfl⟩,_,rfl,?_⟩
     cases hv:(bV ps (fP (if oth < one then oth else one,if oth > one then oth else one))).isSome with
     | false=>exact aR third
     | true=>
      have is:∃ j:Nat,(ps.map (·.1))[j]? = some (fP (if oth < one then oth else one,if oth > one then oth else one)):=by
       rw [<- rT] at hv
       obtain ⟨p,hp,e⟩:=List.any_eq_true.mp hv
       have e:=bm8 e
       obtain ⟨j,hj,ej⟩:=List.getElem_of_mem hp
       exact⟨j,by rw [bc9,bc2 hj,ej]; exact congrArg some e⟩
      refine aV ⟨_,rfl,_,rfl,_,rfl,_,_,rfl,_,rfl,_,rfl,_,_,rfl,by show 2<=1000; decide,rfl,fP (if oth < one then oth else one,if oth > one then oth else one),rfl,is,fun j hj=>?_⟩
      exact⟨some (.sh (gg || true) (.int cell)),si t,si one,si oth,ws,_,rfl,wl,nw,dk.cut j⟩
  ·dsimp only
   rw [bc8 h1]
   exact aR ⟨some (.sh (gg || true) (.int cell)),b,c,d,ws,ps,rfl,wl,nw,dk⟩
 rintro ρ ⟨a,b,c,d,ws,ps,rfl,wl,nw,dk⟩
 have few:=dk.few n1
 refine⟨_,rfl,n,rfl,by omega,by omega,by rw [dN]; omega,fun i acc=>∃ ds,acc=intz ds/\ds.length=i/\NN ds,⟨[],rfl,rfl,fun _ h=>nomatch h⟩,?_,?_⟩
 ·rintro i y acc hy ⟨ds,rfl,dl,dn⟩
  obtain ⟨rfl,hi⟩:=iC hy
  refine⟨_,rfl,ps,rfl,by omega,?_,fun j acc=>True,trivial,?_,?_⟩
  ·intro m hm
   have hm:some m ∈ [none,some (Slot.sh false (.int (0+(i:Int))))]:=hm
   simp only [bc5,bc7,bg5,Option.some.injEq,reduceCtorEq,false_or] at hm
   rw [hm]; rfl
  ·rintro j k acc hk _
   have hk':k ∈ ps.map (·.1):=be1 hk
   obtain ⟨p,hp,rfl⟩:=bj1.mp hk'
   obtain ⟨l,e,_⟩:=dk.key p hp
   rw [e]
   refine⟨_,rfl,_,rfl,_,[l.1,l.2],rfl,rfl,_,rfl,?_⟩
   show if decide (0+(i:Int) ∈ [l.1,l.2])=true then _ else _
   cases decide (0+(i:Int) ∈ [l.1,l.2]) with
   | true=>exact aV ⟨_,rfl,⟨trivial,rfl⟩,trivial⟩
   | false=>exact aR trivial
  ·rintro acc _
   refine⟨_,_,rfl,rfl,trivial,ds ++ [(acc.length:Int)],by rw [cT]; rfl,by rw [bc0,dl]; rfl,dn.app (by omega)⟩
 rintro acc ⟨ds,rfl,dl,dn⟩
 rw [dN] at dl
 obtain ⟨ls,e1,e2,e3,e4⟩:=DL.links dk.key
 have lnd:ls.Nodup:=by
  have:=dk.nd
  rw [e4] at this
  exact (bl5.mp this).imp fun h e=>h (congrArg fP e)
 refine⟨trivial,_,rfl,_,rfl,_,rfl,wy,ws,ds,rfl,by omega,by omega,nw,dn,fun zs zl zn=>⟨⟨_,_,rfl,rfl,bP _,_,rfl,ps,rfl,ls.map two,?_,by rw [bc4]; omega,?_,fun us pz so=>?_⟩,fun ns z=>by cases z⟩⟩
 ·show [PV.lst (ps.map fun p=>PV.tup (p.1.map kP))]=_
  rw [e1,S2]
 ·intro y hy z
  obtain ⟨l,_,rfl⟩:=bj1.mp hy
  cases z
 obtain ⟨ls',rfl,pl⟩:=aG5 pz
 rw [<- S2]
 exact⟨⟨_,_,rfl,rfl,rR _,by show 2<=1000; decide,aG7 _ _,trivial,q zs ls' (lM.perm (by omega) e2 (by omega) lnd zn pl so)⟩,fun ns z=>by cases z⟩
theorem aO5:cU V8 ["flow","many","way","wants","links","cell","turn","one","other","degrees"] sQ:=by
 rintro xs Q ⟨x,ns,n,wy,rfl,hx,hns,n0,n1,q⟩
 refine⟨_,rfl,n,rfl,by omega,by omega,by rw [dN]; omega,fun i acc=>∃ ws,acc=intz ws/\ws.length=i/\NN ws,⟨[],rfl,rfl,fun _ h=>nomatch h⟩,?_,?_⟩
 ·rintro i y acc hy ⟨ws,rfl,wl,nw⟩
  obtain ⟨rfl,hi⟩:=iC hy
  have e0:=bf2 (0+(i:Int)) (show (2:Int) ≠ 0 by decide)
  refine⟨_,rfl,_,_,rfl,rfl,(by show (0:Int) < 2; decide),_,_,rfl,rfl,trivial,ws ++ [1+(0+(i:Int)) % 2],by rw [cT]; rfl,by rw [bc0,wl]; rfl,nw.app (by omega)⟩
 rintro acc ⟨ws,rfl,wl,nw⟩
 rw [dN] at wl
 refine⟨rfl,bP _,rfl,rfl,?_⟩
 have last:xX { nx:=fun _=>Q .non,rt:=Q } [some (.sh (flat x) x),si n,si wy,some (.own (.lst (intz ws))),some (.own (.dT [])),none,none,none,none,none]:=
  V9 hx (aH1 hx) n0 n1 (by omega) nw (DK.nil n) q
 refine⟨_,rfl,_,_,rfl,hx.len,_,_,rfl,rfl,_,rfl,?_⟩
 by_cases h1:(0:Int) < (ns.length:Int)
 ·dsimp only
  rw [bd4 h1]
  have g0:ns[0]? = some (ns[0]'(by omega)):=bc2 (by omega)
  have i0:L2.atI (intz ns) (0:Int)=some (.int (ns[0]'(by omega))):=pU (xs:=intz ns) (j:=0) (by rw [bc9,g0]; rfl)
  refine aV ⟨_,rfl,_,_,_,hx.seq,rfl,i0,_,_,rfl,rfl,(by show (0:Int) < 2; decide),.inl ⟨_,_,rfl,rfl,_,rfl,?_⟩⟩
  cases h2:(if false=true then !decide (ns[0]'(by omega) % 2=1) else decide (ns[0]'(by omega) % 2=1)) with
  | true=>
   refine aV ⟨_,rfl,_,_,_,hx.seq,rfl,i0,_,_,rfl,rfl,⟨by decide,by decide⟩,_,rfl,_,n,rfl,n0,by omega,fun ws2 ps wl2 nw2 dk=>⟨_,_,by decide,rfl,rfl,bP _,dk.fl,?_⟩⟩
   refine⟨_,rfl,_,rfl,_,hx.seqTF,bP _,trivial,?_⟩
   have hc:gS (r9 x (fO (intz ns) (some 1) none)) (ns.drop 1):=by
    rcases hx with rfl | rfl
    ·exact .inr (by show PV.lst (fO (intz ns) (some 1) none)=_; rw [xA ns (by decide)]; rfl)
    ·exact .inr (by show PV.lst (fO (intz ns) (some 1) none)=_; rw [xA ns (by decide)]; rfl)
   exact V9 (g:=true) hc (fun z=>by cases z) n0 n1 wl2 nw2 dk q
  | false=>exact aR last
 ·dsimp only
  rw [bc8 h1]
  exact aR (aR last)
def sR:bF:=fun xs Q=>∃ c n:Int,xs = [.int c,.int n]/\0<=n/\n<=40/\∀ S,aW n.toNat S=true->Q (.tup (intz S))
def W0:aH:=(aG (bL (aU (dW (bM (a5 0) (qC (.int 2))) (qC (.int 1)))) (bC (aB e9 (a6 (cG (fW (a5 1)) [none,some 0] (bK 0) (aU (dW (bM (ay5 (a5 1) (eL (a5 0) (qC (.int 1)))) (qC (.int 2))) (qC (.int 1)))) (a5 0)) a9))) cC)
 (bC (aB e9 (a6 (cG (fW (a5 1)) [none,some 0] (bK 0) (aU (lE (bM (aB kJ (a6 (a5 1) (a6 (a5 0) a9))) (qC (.int 8))) (eL (qC (.int 1)) (bM (cR (a5 1) (qC (.int 2))) (qC (.int 7)))))) (a5 0)) a9))))
def iX (i:Nat) (S:List Int):Prop:=S.Pairwise (· < ·)/\∀ x ∈ S,0<=x/\x < (i:Int)
theorem iX.more {i:Nat}{S:List Int} (h:iX i S):iX (i+1) S:=⟨h.1,fun x hx=>by have:=h.2 x hx; omega⟩
theorem iX.app {i:Nat}{S:List Int} (h:iX i S):iX (i+1) (S ++ [(0:Int)+(i:Int)]):=by
 refine⟨bo2.mpr ⟨h.1,bf8 _ _,fun a ha b hb=>?_⟩,fun x hx=>?_⟩
 ·rw [bd1.mp hb]
  have:=h.2 a ha
  omega
 ·rcases bf0.mp hx with hx | hx
  ·have:=h.2 x hx; omega
  ·rw [bd1.mp hx]; omega
theorem iX.set {i:Nat}{S:List Int} (h:iX i S):aW i S=true:=by
 unfold aW
 rw [O9 h.1,Bool.true_and,bm0]
 intro b hb
 obtain ⟨x,hx,rfl⟩:=bj1.mp hb
 have:=h.2 x hx
 unfold inB
 simp only [id,bd8,bj0]
 exact this
theorem aO6:cU W0 ["cell","many"] sR:=by
 rintro xs Q ⟨c,n,rfl,n0,n1,q⟩
 refine⟨_,rfl,_,_,rfl,rfl,(by show (0:Int) < 2; decide),.inl ⟨_,_,rfl,rfl,_,rfl,?_⟩⟩
 cases h1:(if false=true then !decide (c % 2=1) else decide (c % 2=1)) with
 | true=>
  refine aV ⟨_,rfl,n,rfl,by omega,by omega,by rw [dN]; omega,fun i acc=>∃ S,acc=intz S/\iX i S,⟨[],rfl,.nil,fun _ h=>nomatch h⟩,?_,?_⟩
  ·rintro i y acc hy ⟨S,rfl,hS⟩
   obtain ⟨rfl,hi⟩:=iC hy
   refine⟨_,rfl,_,rfl,_,_,rfl,rfl,_,_,rfl,rfl,(by show (0:Int)<=0+(i:Int)+1; omega),_,_,rfl,rfl,(by show (0:Int) < 2; decide),.inl ⟨_,_,rfl,rfl,_,rfl,?_⟩⟩
   dsimp only
   generalize (if false=true then _ else _)=b
   cases b with
   | true=>exact aV ⟨_,rfl,trivial,S ++ [(0:Int)+(i:Int)],by rw [cT]; rfl,hS.app⟩
   | false=>exact aR ⟨S,rfl,hS.more⟩
  ·rintro acc ⟨S,rfl,hS⟩
   rw [dN] at hS
   exact⟨⟨_,_,rfl,rfl,bP _,trivial,q S hS.set⟩,fun ns z=>by cases z⟩
 | false=>
  refine aR ⟨_,rfl,n,rfl,by omega,by omega,by rw [dN]; omega,fun i acc=>∃ S,acc=intz S/\iX i S,⟨[],rfl,.nil,fun _ h=>nomatch h⟩,?_,?_⟩
  ·rintro i y acc hy ⟨S,rfl,hS⟩
   obtain ⟨rfl,hi⟩:=iC hy
   refine⟨_,rfl,_,rfl,c,_,rfl,by omega,by omega,fun z z0=>⟨_,_,rfl,rfl,(by show (0:Int) < 8; decide),_,rfl,_,_,rfl,rfl,⟨by decide,by decide⟩,_,_,rfl,rfl,(by show (0:Int) < 7; decide),_,_,rfl,rfl,_,_,rfl,rfl,_,rfl,?_⟩⟩
   dsimp only
   generalize decide ((_:Int) < _)=b
   cases b with
   | true=>exact aV ⟨_,rfl,trivial,S ++ [(0:Int)+(i:Int)],by rw [cT]; rfl,hS.app⟩
   | false=>exact aR ⟨S,rfl,hS.more⟩
  ·rintro acc ⟨S,rfl,hS⟩
   rw [dN] at hS
   exact⟨⟨_,_,rfl,rfl,bP _,trivial,q S hS.set⟩,fun ns z=>by cases z⟩
def sS:bF:=fun xs Q=>∃ ws ls h,xs = [aZ ws ls,.int h]/\(∀ l ∈ ls,l.1 ≠ l.2)/\ls.length<=1700/\Q (.lst (intz (cQ ls h)))
def W5:aH:=(bC (cG (dE (cL (a5 0) (qC (.int 1)))) [none,none,some 1] (i5 0 1) (aU (q2 (lD false) (a5 2) (dB (a6 (a5 0) (a6 (a5 1) a9))))) (k7 (eL (a5 0) (a5 1)) (a5 2))))
theorem aO7:cU W5 ["web","hearth"] sS:=by
 rintro xs Q ⟨ws,ls,h,rfl,hne,hl,q⟩
 refine⟨_,rfl,_,_,_,rfl,rfl,rfl,dL ls,rfl,(fun z=>rR ls),by rw [Q8]; omega,fun i acc=>acc=intz (cQ (ls.take i) h),rfl,?_,?_⟩
 ·rintro i y acc hy rfl
  obtain ⟨l,rfl,hi⟩:=aE5 hy
  have tk:=G8 hi h
  have ne:=hne l (be1 hi)
  refine⟨_,_,rfl,_,rfl,_,rfl,_,rfl,by show 2<=1000; decide,rfl,h,[l.1,l.2],rfl,rfl,_,rfl,?_⟩
  show if decide (h ∈ [l.1,l.2])=true then _ else _
  by_cases h1:l.1=h
  ·rw [if_pos h1,if_neg (by rw [<- h1]; exact Ne.symm ne)] at tk
   rw [bd4 (by rw [<- h1]; exact bd0)]
   refine aV ⟨_,rfl,_,rfl,_,_,rfl,rfl,_,rfl,_,_,rfl,rfl,trivial,?_⟩
   dsimp only
   rw [tk,cT,show l.1+l.2 - h=l.2 by omega]
   simp
  ·by_cases h2:l.2=h
   ·rw [if_neg h1,if_pos h2] at tk
    rw [bd4 (by rw [<- h2]; simp)]
    refine aV ⟨_,rfl,_,rfl,_,_,rfl,rfl,_,rfl,_,_,rfl,rfl,trivial,?_⟩
    dsimp only
    rw [tk,cT,show l.1+l.2 - h=l.1 by omega]
    simp
   ·rw [if_neg h1,if_neg h2] at tk
    rw [bc8 (by simp; exact⟨Ne.symm h1,Ne.symm h2⟩)]
    refine aR ?_
    dsimp only
    rw [tk]; simp
 ·rintro acc rfl
  rw [Q8,bf1]
  exact⟨trivial,q⟩
end Core
namespace PP
open PySem L2
section
variable {X : Cx} {a b e : Expr} {ta tb : aE} {tr : cI} {D : c7} {σ : St} {H : Hp} {pos p2 p3 p4 : Pos}
def sT (i:Nat):aH:=fun D ρ=>∃ xs,ρ[i]? = some (some (.own (.lst xs)))/\D.nx (ρ.set i (some (.own (.lst xs.reverse))))
theorem Reps.rev {K:PySem.W.Frag}{M:Addr->Prop}{H:Hp}:∀ {us:List V}{xs:List PV},Reps K M H us xs->Reps K M H us.reverse xs.reverse
 | _,_,.nil=>.nil
 | _,_,.cons (v:=v) (x:=x) (vs:=vs) (xs:=xs) r t=>by
  rw [List.reverse_cons,List.reverse_cons]
  exact (Reps.rev t).append (.cons r .nil)
theorem aO8 {i:Nat} (h:LS X (sT i) D σ H):jR (uI X.K "list" B7 (eF i)) D σ H:=by
 obtain ⟨W,ρ,D',px,⟨xs,hi,q⟩,k⟩:=h
 obtain ⟨v,ev,a,rfl,wa,us,ea,r⟩:=px.sl i _ hi
 refine⟨_,ev,kX (aN.of ea),a,us,rfl,rfl,ea,?_⟩
 exact k.nx W σ _ _ (Ev.upd wa) (px.updL hi ev wa (r.rev.keep (.upd ea rfl fun b m=>⟨i4 wa m,m⟩))) q
theorem aO9 (i:Nat) {x:Str}{apos cpos xpos:Pos} (hN:X.N[i]? = some x:=by rfl) (hv:eD X.env.scope x:=by first | exact Or.inl rfl | exact Or.inr (Or.inl rfl) | exact Or.inr (Or.inr rfl)) (hd:(x == ("__debug__" : Str))=false:=by decide) (hcd:(x == ("__classdict__" : Str))=false:=by decide)
  (hbase:attributeBase (.Name x xpos) "reverse" X.env (eval (.Name x xpos) X.env)=eval (.Name x xpos) X.env:=by rfl) (hline:(apos.endLine == cpos.line)=true:=by rfl)
  (hsw:swapsWith (.Call (.Attribute (.Name x xpos) "reverse" apos) [] [] cpos) none pos.line X.env=pure false:=by rfl):QS X (.Expr (.Call (.Attribute (.Name x xpos) "reverse" apos) [] [] cpos) pos) (sT i):=
 cO (j3 (B1 bk6 PySem.F.slot_list_reverse PySem.F.type_list_reverse am8 (fG hN hv hd hcd) hbase hline) hsw) fun _ _ _=>aO8
def jP (i:Nat) (ta tb:aE):aH:=fun D ρ=>∃ xs,ρ[i]? = some (some (.own (.lst xs)))/\ta ρ fun x _=>∃ k:Nat,x = .int k/\k<=xs.length/\xs.length < 16000000/\tb ρ fun y g=>Nw g y/\D.nx (ρ.set i (some (.own (.lst (xs.take k ++ y :: xs.drop k)))))
theorem aP0 {i:Nat} (h:LS X (jP i ta tb) D σ H):jR (pV X.K "list" O8 (eF i) (gZ (LE X ta) (gZ (LE X tb) j5))) D σ H:=by
 obtain ⟨W,ρ,D',px,⟨xs,hi,q⟩,k⟩:=h
 obtain ⟨v,ev,a,rfl,wa,us,ea,r⟩:=px.sl i _ hi
 refine⟨_,ev,kX (aN.of ea),W,ρ,_,px,q,?_⟩
 rintro w H1 x g s rx ⟨j,rfl,hj,hl,q⟩
 cases rx
 refine⟨W,ρ,_,px.mono s,q,?_⟩
 rintro w H2 y g s2 ry ⟨n,q⟩
 have ea2:=s2 _ _ (s _ _ ea)
 have s3:=s.trans s2
 refine⟨a,us,w,j,rfl,rfl,ea2,by rw [r.length]; exact hj,hU (by rw [r.length]; omega),?_⟩
 refine k.nx W σ _ _ ((Ev.same s3).trans (Ev.upd wa)) ((px.mono s3).updL hi ev wa ?_) q
 have r2:=r.same s3 fun _ z=>z
 exact ((r2.take j).append (.cons (Nw.rep (px.mono s) n ry) (r2.drop j))).keep (.upd ea2 rfl fun b m=>⟨i4 wa m,m⟩)
theorem pG (i:Nat) {x:Str}{apos cpos xpos:Pos} (ha:QE X a ta) (hb:QE X b tb) (hN:X.N[i]? = some x:=by rfl) (hv:eD X.env.scope x:=by first | exact Or.inl rfl | exact Or.inr (Or.inl rfl) | exact Or.inr (Or.inr rfl)) (hd:(x == ("__debug__" : Str))=false:=by decide) (hcd:(x == ("__classdict__" : Str))=false:=by decide)
  (hbase:attributeBase (.Name x xpos) "insert" X.env (eval (.Name x xpos) X.env)=eval (.Name x xpos) X.env:=by rfl)
  (hfew:((backTo cpos (starEach [a,b] X.env)).all (fun x=>!x.1) && (backToKw cpos (keywordEach [] X.env)).all (fun x=>x.1.isSome) && decide (([a,b]:List Expr).length+([]:List Keyword).length+(if ([]:List Keyword).isEmpty then 0 else 1) < 30))=true:=by rfl)
  (hline:(apos.endLine == cpos.line)=true:=by rfl) (hs:starEach [a,b] X.env=(false,eval a X.env) :: starEach [b] X.env:=by rfl) (hs2:starEach [b] X.env=(false,eval b X.env) :: starEach [] X.env:=by rfl) (hplain:(backTo cpos (starEach [b] X.env)).any (·.1)=false:=by rfl)
  (hsw:swapsWith (.Call (.Attribute (.Name x xpos) "insert" apos) [a,b] [] cpos) none pos.line X.env=pure false:=by rfl) :
  QS X (.Expr (.Call (.Attribute (.Name x xpos) "insert" apos) [a,b] [] cpos) pos) (jP i ta tb):=
 cO (j3 (o7 bk6 PySem.F.slot_list_insert PySem.F.type_list_insert aC9 (fG hN hv hd hcd) (dD ha (dD hb dY hs2) hs) hbase hfew hline hs hplain) hsw) fun _ _ _=>aP0
end
end PP
namespace Core
open PySem L2 PP
def sU:bF:=fun xs Q=>∃ (s:List Int) (n:Nat) (c:Int),xs = [.tup (intz s),.int n,.int c]/\aW n s=true/\s.length<=40/\∀ ys,ys.length<=41->aW n ys=false->Q (.tup (intz ys))
def W6:aH:=(aG (dI 3 (aB jY (a6 (a5 0) a9)))
 (aG (b5 4 (bM (cR (a5 2) (qC (.int 1009))) (vZ (qC (.int 10)) (qC (.int 30)))))
 (aG (b5 5 (bM (cR (a5 2) (qC (.int 4))) (eL (aB bU (a6 (a5 3) a9)) (qC (.int 1)))))
 (aG (bL (i3 (aU (dW (bM (a5 2) (qC (.int 4))) (qC (.int 0)))) (aU (iO (aB bU (a6 (a5 3) a9)) (qC (.int 0))))) (jP 3 (a5 5) (cL (a5 3) (bM (cR (a5 2) (qC (.int 64))) (aB bU (a6 (a5 3) a9))))) (bL (i3 (aU (dW (bM (a5 2) (qC (.int 4))) (qC (.int 1)))) (aU (iO (aB bU (a6 (a5 3) a9)) (qC (.int 1))))) (sT 3) (jP 3 (a5 5) (cL (eV (a6 (i7 (qC (.int 1))) (a6 (a5 1) (a6 (k7 (i7 (qC (.int 1))) (a5 4)) (a6 (eL (a5 1) (a5 4)) a9))))) (bM (cR (a5 2) (qC (.int 64))) (qC (.int 4)))))))
 (bC (aB e9 (a6 (a5 3) a9)))))))
theorem aP1 {n:Nat}{s:List Int} (h:1 < s.length) (hs:aW n s=true):aW n s.reverse=false:=xR fun e=>by
 have p:=jI (gQ hs).1
 have p2:=jI (gQ e).1
 rw [List.pairwise_reverse] at p2
 cases s with
 | nil=>exact absurd h (by decide)
 | cons a r=>
  cases r with
  | nil=>exact absurd h (by show ¬ 1 < 1; decide)
  | cons b r=>
   have h1:=List.rel_of_pairwise_cons p (bd0 (a:=b))
   have h2:=List.rel_of_pairwise_cons p2 (bd0 (a:=b))
   omega
theorem aP2:cU W6 ["some","many","cell","odd","far","spot"] sU:=by
 rintro xs Q ⟨s,n,c,rfl,hs,hl,q⟩
 refine⟨_,rfl,_,_,rfl,rfl,bP _,rfl,bP _,?_⟩
 refine⟨_,rfl,_,_,rfl,rfl,⟨by decide,by decide⟩,_,_,rfl,rfl,⟨by decide,by decide,by decide⟩,_,_,rfl,rfl,(by show (0:Int) < 10 ^ (30:Int).toNat; decide),trivial,?_⟩
 dsimp only
 have f0:0<=c / 1009 % 10 ^ (30:Int).toNat:=bf2 _ (by decide)
 generalize c / 1009 % 10 ^ (30:Int).toNat=f at f0
 refine⟨_,rfl,_,_,rfl,rfl,⟨by decide,by decide⟩,_,rfl,_,_,rfl,rfl,_,_,rfl,rfl,_,_,rfl,rfl,by omega,trivial,?_⟩
 dsimp only
 rw [aP]
 have k0:0<=c / 4 % ((s.length:Int)+1):=bf2 _ (by omega)
 have k1:c / 4 % ((s.length:Int)+1) < (s.length:Int)+1:=bg2 _ (by omega)
 generalize c / 4 % ((s.length:Int)+1)=k at k0 k1
 obtain ⟨k,rfl⟩:∃ m:Nat,k=m:=⟨k.toNat,by omega⟩
 have fin:∀ ys:List Int,ys.length<=41->aW n ys=false->bC (aB e9 (a6 (a5 3) a9)) { nx:=fun _=>Q .non,rt:=Q } [some (.sh (flat (.tup (intz s))) (.tup (intz s))),si n,si c,some (.own (.lst (intz ys))),si f,si k]:=fun ys h1 h2=>
  ⟨_,rfl,⟨_,_,rfl,rfl,bP _,trivial,q ys h1 h2⟩,fun ns z=>by cases z⟩
 have ins:∀ x:Int,aW n (s.take k ++ [x] ++ s.drop k)=false->bC (aB e9 (a6 (a5 3) a9)) { nx:=fun _=>Q .non,rt:=Q } [some (.sh (flat (.tup (intz s))) (.tup (intz s))),si n,si c,some (.own (.lst ((intz s).take k ++ PV.int x :: (intz s).drop k))),si f,si k]:=fun x hx=>by
  have e:(intz s).take k ++ PV.int x :: (intz s).drop k=intz (s.take k ++ [x] ++ s.drop k):=by
   unfold intz
   rw [be7,be7,List.map_take,List.map_drop,bf5]
   rfl
  rw [e]
  refine fin _ ?_ hx
  rw [bc0,bc0,bh3,bj5]
  show _+1+_<=41
  omega
 have third:jP 3 (a5 5) (cL (eV (a6 (i7 (qC (.int 1))) (a6 (a5 1) (a6 (k7 (i7 (qC (.int 1))) (a5 4)) (a6 (eL (a5 1) (a5 4)) a9))))) (bM (cR (a5 2) (qC (.int 64))) (qC (.int 4)))) { nx:=bC (aB e9 (a6 (a5 3) a9)) { nx:=fun _=>Q .non,rt:=Q },rt:=Q }
   [some (.sh (flat (.tup (intz s))) (.tup (intz s))),si n,si c,some (.own (.lst (intz s))),si f,si k]:=by
  have j0:0<=c / 64 % 4:=bf2 _ (by decide)
  have j1:c / 64 % 4 < 4:=bg2 _ (by decide)
  have odd:∃ x:Int,(x < 0 ∨ (n:Int)<=x)/\L2.atI [PV.int (-1),PV.int n,PV.int (-1 - f),PV.int (n+f)] (c / 64 % 4)=some (.int x):=by
   generalize c / 64 % 4=j at j0 j1
   rcases (show j=0 ∨ j=1 ∨ j=2 ∨ j=3 by omega) with rfl | rfl | rfl | rfl
   ·exact⟨-1,by omega,rfl⟩
   ·exact⟨n,by omega,rfl⟩
   ·exact⟨-1 - f,by omega,rfl⟩
   ·exact⟨n+f,by omega,rfl⟩
  obtain ⟨x,hx,at4⟩:=odd
  refine⟨_,rfl,_,rfl,k,rfl,by rw [aP]; omega,by rw [aP]; omega,?_⟩
  refine⟨_,rfl,_,rfl,_,rfl,_,rfl,_,_,rfl,rfl,_,rfl,_,rfl,_,_,rfl,rfl,(by show 4<=1000; decide),rfl,?_⟩
  refine⟨_,rfl,_,_,rfl,rfl,⟨by decide,by decide⟩,_,_,rfl,rfl,(by show (0:Int) < 4; decide),?_⟩
  exact⟨_,_,_,rfl,rfl,at4,trivial,ins x (aN2 hx)⟩
 have second:bL (i3 (aU (dW (bM (a5 2) (qC (.int 4))) (qC (.int 1)))) (aU (iO (aB bU (a6 (a5 3) a9)) (qC (.int 1))))) (sT 3) (jP 3 (a5 5) (cL (eV (a6 (i7 (qC (.int 1))) (a6 (a5 1) (a6 (k7 (i7 (qC (.int 1))) (a5 4)) (a6 (eL (a5 1) (a5 4)) a9))))) (bM (cR (a5 2) (qC (.int 64))) (qC (.int 4))))) { nx:=bC (aB e9 (a6 (a5 3) a9)) { nx:=fun _=>Q .non,rt:=Q },rt:=Q }
   [some (.sh (flat (.tup (intz s))) (.tup (intz s))),si n,si c,some (.own (.lst (intz s))),si f,si k]:=by
  refine⟨_,rfl,_,_,rfl,rfl,(by show (0:Int) < 4; decide),.inl ⟨_,_,rfl,rfl,_,rfl,?_⟩⟩
  cases h1:(if false=true then !decide (c % 4=1) else decide (c % 4=1)) with
  | false=>exact aR (aR third)
  | true=>
   refine aV ⟨_,rfl,_,_,rfl,rfl,_,_,rfl,rfl,_,rfl,?_⟩
   rw [aP]
   by_cases h2:(1:Int) < (s.length:Int)
   ·dsimp only
    rw [bd4 h2]
    refine aV ⟨_,rfl,?_⟩
    have e:(intz s).reverse=intz s.reverse:=(List.map_reverse).symm
    rw [e]
    exact fin _ (by rw [bn2]; omega) (aP1 (by omega) hs)
   ·dsimp only
    rw [bc8 h2]
    exact aR third
 refine⟨_,rfl,_,_,rfl,rfl,(by show (0:Int) < 4; decide),.inl ⟨_,_,rfl,rfl,_,rfl,?_⟩⟩
 cases h1:(if false=true then !decide (c % 4=0) else decide (c % 4=0)) with
 | false=>exact aR (aR second)
 | true=>
  refine aV ⟨_,rfl,_,_,rfl,rfl,_,_,rfl,rfl,_,rfl,?_⟩
  rw [aP]
  by_cases h2:(0:Int) < (s.length:Int)
  ·dsimp only
   rw [bd4 h2]
   have j0:0<=c / 64 % (s.length:Int):=bf2 _ (by omega)
   have j1:c / 64 % (s.length:Int) < (s.length:Int):=bg2 _ h2
   have g:∃ x,x ∈ s/\L2.atI (intz s) (c / 64 % (s.length:Int))=some (.int x):=by
    generalize c / 64 % (s.length:Int)=j at j0 j1
    have e:=bc2 (l:=s) (i:=j.toNat) (by omega)
    refine⟨_,be1 e,?_⟩
    have:=pU (xs:=intz s) (j:=j.toNat) (by rw [bc9,e]; rfl)
    rwa [show ((j.toNat:Nat):Int)=j by omega] at this
   obtain ⟨x,hx,ax⟩:=g
   refine aV ⟨_,rfl,_,rfl,k,rfl,by rw [aP]; omega,by rw [aP]; omega,?_⟩
   refine⟨_,rfl,_,rfl,_,_,rfl,rfl,⟨by decide,by decide⟩,_,rfl,_,_,rfl,rfl,_,_,rfl,rfl,by rw [aP]; exact h2,?_⟩
   rw [aP]
   exact⟨_,_,_,rfl,rfl,ax,nD _ _,ins x (aN1 hx)⟩
  ·dsimp only
   rw [bc8 h2]
   exact aR second
end Core
namespace PP
open PySem L2
section
variable {X : Cx} {te : aE} {pos p2 : Pos} {scope : Scope} {N : List Str} {fr : List (Option Nat)} {x : Str} {tp : Pos} {iter elt : Expr} {ti : eJ}
theorem aP3 {ifs:List Expr}{tcs:bT} (he:∀ (s:Shared) (H:Hp) (C:Addr) (fp:List Addr),QE (b9 X scope N s H C fp bH) elt te) (hi:∀ (s:Shared) (H:Hp) (C:Addr) (fp:List Addr),jA (b9 X scope N s H C fp bH) ifs (LT (b9 X scope N s H C fp bH) tcs))
  (hN:N.Nodup) (h0:N[0]? = some x) (hl:∀ (s:Shared) (H:Hp) (C:Addr) (fp:List Addr),(b9 X scope N s H C fp bH).env.scope.names.lookup x=some .cell) (ho:scope.names.lookup x=some .cell) (s:Shared) (H:Hp) :
  kU X scope N (.Name x tp) ifs elt s H (bX 0) (LT (X.frm H) tcs) (LE (X.frm H) te):=
 ⟨fun C fp=>eR (X:=b9 X scope N s H C fp bH) hN h0 (.inr (hl s H C fp)) (.inl (show (scope.names.lookup x == some NameKind.cell)=true by rw [ho]; rfl)),fun C fp=>hi s H C fp,fun C fp=>he s H C fp⟩
theorem aP4 {i:Nat}{z:Str}{zp:Pos} (nd:X.N.Nodup) (hi:QI X (.Name x tp) iter ti) (he:∀ (s:Shared) (H:Hp) (C:Addr) (fp:List Addr),QE (b9 X scope N s H C fp bH) elt te)
  (hz:X.N[i]? = some z:=by rfl) (hzl:X.env.scope.names.lookup z=some .local:=by rfl) (hsw:swapsWith (.ListComp elt [⟨.Name x tp,iter,[],0⟩] scope p2) (some (.Name z zp)) pos.line X.env=pure true:=by rfl)
  (hc:X.calm=true:=by rfl) (S:cA X scope N fr:=by exact cA.of rfl rfl) (hN:N.Nodup:=by decide +kernel) (h0:N[0]? = some x:=by rfl) (hl:∀ (s:Shared) (H:Hp) (C:Addr) (fp:List Addr),(b9 X scope N s H C fp bH).env.scope.names.lookup x=some .cell:=by intro _ _ _ _; rfl) (ho:scope.names.lookup x=some .cell:=by rfl) (hf:fr[0]? = some none:=by rfl)
  (hs:∀ x,foldedSetIterable iter X.env x=pure x:=by intro _; rfl):QS X (.Assign [.Name z zp] (.ListComp elt [⟨.Name x tp,iter,[],0⟩] scope p2) pos) (b5 i (cG ti fr (bK 0) dO te)):=
 cO (qJ (gh:=fun _=>bX 0) (tch:=fun H=>LT (X.frm H) dO) (teh:=fun H=>LE (X.frm H) te) hc S hi (aP3 he (fun _ _ _ _=>rN) hN h0 hl ho) nd hz hzl hsw hs) fun D σ H h=>jZ (lB _ 0) (fun i e=>by subst e; exact hf) (qW h)
end
end PP
namespace Core
open PySem L2 PP
def sV (f:List Int->List (Int × Int)->List Int->(PV->Prop)->Prop):cX:=fun Ep xs Q=>∃ ws ls x ns,xs = [aZ ws ls,x]/\Wb ws ls/\bS x ns/\ns.length<=1000/\(aW ws.length ns=true->f ws ls ns Q)/\(aW ws.length ns=false->Ep "BadSet")
def sW:cX:=sV fun ws ls ns Q=>∀ m,c7 ws ls ns m->Q (.lst (tups (ns :: after ws ls ns m)))
def sX:cX:=sV fun ws ls ns Q=>∀ m,c7 ws ls ns m->Q (.dK (jL (ns :: after ws ls ns m)))
def sY:cX:=sV fun ws ls ns Q=>∀ ms m,c7 ws ls ns m->ms.Perm (b7 ws ls ns m)->ms.Pairwise (· <= ·)->Q (.tup (intz ms))
def W7 (Ep:Str->Prop):aH:=(aG (dI 2 (eV (a6 (fF Ep kI (a6 (a5 0) (a6 (a5 1) a9))) a9)))
 (aG (dI 3 (aB iD (a6 (cL (a5 2) (qC (.int 0))) a9)))
 (aG (b5 4 (aB jJ (a6 (a5 0) a9)))
 (aG (b5 5 (aB oZ (a6 (a5 0) (a6 (a5 4) (a6 (a5 3) a9)))))
 (aG (mJ (oP (a5 5))
  (aG (jX 2 (a5 5))
  (aG (vX 3 (aB iD (a6 (a5 5) a9)))
  (b5 5 (aB oZ (a6 (a5 0) (a6 (a5 4) (a6 (a5 3) a9))))))))
 (dJ 2))))))
theorem aP5:gV W7 ["web","seeds","told","burning","around","lit"] sW:=by
 rintro Ep xs Q ⟨ws,ls,x,ns,rfl,wb,hx,hl,q,qe⟩
 have few:=wb.few
 refine⟨_,rfl,_,rfl,ws,ls,x,ns,rfl,hx,hl,fun hs=>?_,qe⟩
 have q:=q hs
 have ln:=nC hs
 refine⟨by show 1<=1000; decide,?_,rfl,?_,?_⟩
 ·show (flat (.tup (intz ns)) && true)=true
  rw [wV]; rfl
 ·show (flat (.tup (intz ns)) && true)=true
  rw [wV]; rfl
 refine⟨_,rfl,_,_,_,rfl,rfl,rfl,_,ns,rfl,.inl rfl,by omega,fun ps d=>⟨rfl,d.fl,?_⟩⟩
 refine⟨_,rfl,ws,ls,rfl,wb,trivial,?_⟩
 refine⟨_,rfl,_,rfl,_,rfl,ws,ls,ps,ns,rfl,wb,d,trivial,?_⟩
 refine⟨fun n ρ=>∃ k ps,ρ = [some (.sh (flat (aZ ws ls)) (aZ ws ls)),some (.sh (flat x) x),some (.own (.lst (tups (ns :: after ws ls ns k)))),some (.own (.dK ps)),some (.sh true (.lst (fY ws.length ls))),some (.sh true (.tup (intz (nextOf ws ls (b7 ws ls ns k)))))]/\
   n=fE ws (b7 ws ls ns k)/\DS ps (b7 ws ls ns k)/\∀ j < k,nextOf ws ls (b7 ws ls ns j) ≠ [],⟨_,0,ps,rfl,rfl,d,fun _ z=>absurd z (Nat.not_lt_zero _)⟩,?_⟩
 rintro n ρ ⟨k,ps,rfl,rfl,d,ne⟩
 refine⟨_,rfl,_,rfl,?_⟩
 cases hn:nextOf ws ls (b7 ws ls ns k) with
 | nil=>exact aR ⟨_,rfl,trivial,q k ⟨ne,hn⟩⟩
 | cons y yr=>
  refine aV ?_
  rw [<- hn]
  have cs:=wS ws ls (b7 ws ls ns k)
  have nl:1<=(nextOf ws ls (b7 ws ls ns k)).length:=by rw [hn]; exact Nat.succ_le_succ (bh2 _)
  have nle:=aD1 ws ls (b7 ws ls ns k)
  have sl:=x3 (ls:=ls) hs k
  have dl:=d.len
  have ke:=P5 k ne
  refine⟨_,rfl,_,rfl,trivial,?_,?_⟩
  ·rw [kE,bh9]
   unfold after
   rw [bc4,bm7]; omega
  refine⟨_,rfl,_,rfl,_,_,rfl,.inl rfl,by omega,fun mp dm=>⟨mp,rfl,.inl rfl,?_,?_⟩⟩
  ·have:=dm.len; omega
  have D7:DS (i6 ps mp) (b7 ws ls ns (k+1)):=d.merge dm
  refine⟨_,rfl,_,rfl,_,rfl,ws,ls,_,_,rfl,wb,D7,trivial,?_⟩
  refine⟨_,?_,k+1,i6 ps mp,?_,rfl,D7,fun j hj=>?_⟩
  ·show fE ws (b7 ws ls ns k ++ nextOf ws ls (b7 ws ls ns k)) < _
   omega
  ·rw [P0,<- List.cons_append]
   unfold tups
   rw [be7]; rfl
  ·by_cases e:j=k
   ·rw [e,hn]; exact fun z=>nomatch z
   ·exact ne j (by omega)
def W8 (Ep:Str->Prop):aH:=(aG (dI 2 (qC (.dK [])))
 (aG (dU (sA (fF Ep sW (a6 (a5 0) (a6 (a5 1) a9)))) (i5 3 4)
  (dU (dE (a5 4)) (bK 5)
   (mO 2 (a5 5) (a5 3))))
 (dJ 2)))
theorem aP6:gV W8 ["web","seeds","ranks","rank","lit","hearth"] sX:=by
 rintro Ep xs Q ⟨ws,ls,x,ns,rfl,wb,hx,hl,q,qe⟩
 have few:=wb.few
 refine⟨rfl,rfl,_,rfl,_,rfl,ws,ls,x,ns,rfl,wb,hx,hl,fun hs m en=>⟨_,.inl rfl,fun z=>(by cases z),?_⟩,qe⟩
 have q:=q hs
 have fl:=wT ws ls ns m
 have sl:=x3 (ls:=ls) hs m
 have nd:=xI (ls:=ls) hs m
 generalize hrs:ns :: after ws ls ns m=rs at fl
 rw [<- fl] at sl nd
 refine⟨fun i ρ=>∃ y z u,ρ = [some (.sh (flat (aZ ws ls)) (aZ ws ls)),some (.sh (flat x) x),some (.own (.dK (jL (rs.take i)))),y,z,u],⟨none,none,none,rfl⟩,?_,?_⟩
 ·rintro i y ρ hy ⟨y0,z0,u0,rfl⟩
  obtain ⟨y,hy2,rfl⟩:=T1 hy
  obtain ⟨r,rfl,hr⟩:=wZ hy2
  have tk:rs.take (i+1)=rs.take i ++ [r]:=by rw [bf9,hr]; rfl
  have il:(rs.take i).length=i:=by
   have:=(bc6.mp hr).1
   rw [bh3]; omega
  have nd2:((rs.take i).flatten ++ r).Nodup/\((rs.take i).flatten ++ r).length<=rs.flatten.length:=by
   have e:rs.flatten=((rs.take i).flatten ++ r) ++ (rs.drop (i+1)).flatten:=by
    rw [<- List.flatten_singleton (l:=r),<- List.flatten_append,<- tk,<- List.flatten_append,bn4]
   rw [e] at nd ⊢
   exact⟨(bg7.mp nd).1,by rw [bc0 (as:=(rs.take i).flatten ++ r)]; omega⟩
  refine⟨_,_,rfl,_,rfl,_,rfl,fun z=>(by cases z),fun j ρ=>∃ u,ρ = [some (.sh (flat (aZ ws ls)) (aZ ws ls)),some (.sh (flat x) x),some (.own (.dK (jL (rs.take i) ++ gT i (r.take j)))),some (.sh true (.int (i:Int))),some (.sh true (.tup (intz r))),u],⟨u0,?_⟩,?_,?_⟩
  ·rw [show gT i (r.take 0) = [] from rfl,be6]
   rfl
  ·rintro j y ρ hy ⟨u1,rfl⟩
   obtain ⟨n,rfl,hn⟩:=fB hy
   have ke:(jL (rs.take i) ++ gT i (r.take j)).map (·.1)=((rs.take i).flatten ++ r.take j).map (Sum.inl:Int->aC):=by
    rw [be7,be7,U2,U0]
   have nn:n ∉ (rs.take i).flatten ++ r.take j:=by
    have:=nd2.1
    rw [<- bn4 j r,List.drop_eq_getElem_cons (bc6.mp hn).1,(bc6.mp hn).2,<- bf5] at this
    exact fun z=>(bg7.mp this).2.2 n z n bd0 rfl
   have le:(jL (rs.take i) ++ gT i (r.take j)).length<=40:=by
    have e1:=congrArg List.length ke
    have e2:=nd2.2
    rw [bc4,bc4,bc0,bc0,bh3] at e1
    rw [bc0] at e2
    rw [bc0]
    omega
   refine⟨_,rfl,_,rfl,_,rfl,Sum.inl n,rfl,trivial,by omega,si n,?_⟩
   rw [aL4 ke nn,aL5 hn,bf5]
   rfl
  ·rintro ρ ⟨u,rfl⟩
   refine⟨some (.sh true (.int i)),some (.sh true (.tup (intz r))),u,?_⟩
   rw [aP,bf1,tk,aL3,il]
 ·rintro ρ ⟨y,z,u,rfl⟩
  rw [s0,kE,bf1,<- hrs]
  exact⟨_,rfl,trivial,q m en⟩
def W9 (Ep:Str->Prop):aH:=(bC (aB e9 (a6 (aB xJ (a6 (fF Ep sX (a6 (a5 0) (a6 (a5 1) a9))) a9)) a9)))
theorem aP7:gV W9 ["web","seeds"] sY:=by
 rintro Ep xs Q ⟨ws,ls,x,ns,rfl,wb,hx,hl,q,qe⟩
 have few:=wb.few
 refine⟨_,rfl,_,rfl,ws,ls,x,ns,rfl,wb,hx,hl,fun hs m en=>?_,qe⟩
 have sl:=x3 (ls:=ls) hs m
 refine⟨_,b7 ws ls ns m,rfl,?_,by omega,fun ms hp ho=>⟨⟨_,_,rfl,rfl,bP _,trivial,q hs ms m en hp ho⟩,fun ns z=>by cases z⟩⟩
 rw [U2,wT]
def bN (hs:List Int):List (List Int):=hs.foldl (fun acc h=>acc ++ acc.map fun p=>p ++ [h]) [[]]
theorem lQ (hs:List Int) (h:Int):bN (hs ++ [h])=bN hs ++ (bN hs).map fun p=>p ++ [h]:=by
 unfold bN; rw [List.foldl_append]; rfl
theorem aP8:∀ hs:List Int,∀ k,(bN (hs.take k)).length=2 ^ min k hs.length:=by
 intro hs k
 induction k with
 | zero=>simp [bN]
 | succ k ih=>
  by_cases h:k < hs.length
  ·have tk:hs.take (k+1)=hs.take k ++ [hs[k]]:=by rw [bf9,bc2 h]; rfl
   rw [tk,lQ,bc0,bc4,ih,show min (k+1) hs.length=min k hs.length+1 by omega,Nat.pow_succ]
   omega
  ·rw [bk3 (by omega),show min (k+1) hs.length=min k hs.length by omega,<- ih,bk3 (by omega)]
def sZ:bF:=fun xs Q=>∃ x hs,xs = [x]/\bS x hs/\hs.length<=12/\Q (.lst (tups (bN hs)))
def X0:aH:=(aG (b5 1 (eV (a6 (dB a9) a9)))
 (aG (dU (dE (a5 0)) (bK 2)
  (b5 1 (xC (a5 1) (cG (dE (a5 1)) [none,some 2] (bK 0) dO (pA (a5 0) (dB (a6 (a5 1) a9)))))))
 (dJ 1)))
theorem aP9:cU X0 ["hearths","chosen","hearth"] sZ:=by
 rintro xs Q ⟨x,S,rfl,hx,hl,q⟩
 refine⟨by decide,rfl,by show 1<=1000; decide,rfl,trivial,?_⟩
 refine⟨_,rfl,_,hx.seq,kD hx,fun i ρ=>∃ (y:Option Slot),ρ = [some (.sh (flat x) x),some (.sh true (.lst (tups (bN (S.take i))))),y],⟨none,rfl⟩,?_,?_⟩
 ·rintro i y ρ hy ⟨y0,rfl⟩
  obtain ⟨h,rfl,hi⟩:=fB hy
  have il:i < S.length:=(bc6.mp hi).1
  have sl:=aP8 S i
  have p8:(bN (S.take i)).length<=4096:=by
   rw [sl]
   exact bg0 (Nat.pow_le_pow_right (by decide) (show min i S.length<=12 by omega)) (by decide)
  have shr:∀ p ∈ bN (S.take i),p.length<=12:=by
   have gen:∀ hs:List Int,∀ p ∈ bN hs,p.length<=hs.length:=by
    intro hs
    have:∀ (n:Nat) (hs:List Int),hs.length=n->∀ p ∈ bN hs,p.length<=hs.length:=by
     intro n
     induction n with
     | zero=>intro hs e p hp; rw [List.eq_nil_of_length_eq_zero e] at hp ⊢; rw [bd1.mp (show p ∈ [[]] from hp)]; exact bc1 _
     | succ n ih=>
      intro hs e p hp
      rcases List.eq_nil_or_concat hs with z | ⟨l,a,z⟩
      ·rw [z] at e; cases e
      ·have z:hs=l ++ [a]:=by rw [z]; simp
       subst z
       have le:l.length=n:=by simpa using e
       rw [lQ] at hp
       rw [bc0,bg9]
       rcases bf0.mp hp with z | z
       ·have:=ih l le p z; omega
       ·obtain ⟨r,hr,rfl⟩:=bj1.mp z
        have:=ih l le r hr
        rw [bc0,bg9]; omega
    exact this hs.length hs rfl
   intro p hp
   have:=gen _ p hp
   rw [bh3] at this
   omega
  have tk:S.take (i+1)=S.take i ++ [h]:=by rw [bf9,hi]; rfl
  refine lO ?_
  refine⟨_,rfl,_,rfl,_,rfl,(fun z=>by cases z),by rw [kE]; omega,fun j acc=>acc=tups (((bN (S.take i)).take j).map fun p=>p ++ [h]),rfl,?_,?_⟩
  ·rintro j z acc hz rfl
   obtain ⟨p,rfl,hj⟩:=wZ hz
   refine⟨_,rfl,_,rfl,by show 1<=1000; decide,rfl,_,_,rfl,rfl,bP _,rfl,?_,trivial,?_⟩
   ·have:=shr p (be1 hj)
    rw [aP]
    show p.length+1<=16000000
    omega
   ·show tups _ ++ [PV.tup (intz p ++ intz [h])]=tups (((bN (S.take i)).take (j+1)).map fun p=>p ++ [h])
    rw [bf9,hj,<- cT]
    unfold tups
    rw [be7,be7]
    rfl
  ·rintro acc rfl
   rw [kE,bf1]
   refine⟨_,_,rfl,rfl,x0 _,x0 _,?_,trivial,some (.sh true (.int h)),?_⟩
   ·rw [kE,kE,bc4]; omega
   ·rw [tk,lQ]
    unfold tups
    rw [be7]; rfl
 ·rintro ρ ⟨y,rfl⟩
  rw [aP,bf1]
  exact⟨_,rfl,trivial,q⟩
section
variable {ws : List Int} {ls : List (Int × Int)}
def cne (ws:List Int) (ls:List (Int × Int)) (S:List Int):Bool:=!decide (S = []) && decide (stay ws ls S=S)
end
theorem t4 {b:Bool}{A B:Prop} (a:A) (c:B):if b=true then A else B:=by
 cases b with
 | true=>exact aV a
 | false=>exact aR c
def far (ns S:List Int):Bool:=decide (((S.filter fun x=>decide (x ∈ ns)).length:Int)=0)
def t5:cX:=fun Ep xs Q=>∃ ws ls x ns y os,xs = [aZ ws ls,x,y]/\Wb ws ls/\bS x ns/\ns.length<=1000/\bS y os/\os.Perm (rng ws.length)/\(aW ws.length ns=true->∀ k,pB ws ls os ns k->Q (.lst (intz (cV ws ls os ns k))))/\(aW ws.length ns=false->Ep "BadSet")
def X1 (Ep:Str->Prop):aH:=(aG (dI 3 (aB iD (a6 (fF Ep kI (a6 (a5 0) (a6 (a5 1) a9))) a9)))
 (aG (bL (jE (aU (aB sD (a6 (a5 0) (a6 (a5 2) a9))))) (lP Ep "BadOrder" (a6 (qC (.str "each hearth stands in an order once")) a9)) cC)
 (aG (b5 4 (aB jJ (a6 (a5 0) a9)))
 (aG (dI 5 (eV a9))
 (aG (b5 6 (aB pC (a6 (a5 0) (a6 (a5 4) (a6 (a5 3) (a6 (a5 2) a9))))))
 (aG (mJ (aU (ay6 (a5 6) (qC .non)))
  (aG (jX 5 (a5 6))
  (aG (mO 3 (a5 6) (qC (.bl true)))
  (b5 6 (aB pC (a6 (a5 0) (a6 (a5 4) (a6 (a5 3) (a6 (a5 2) a9)))))))))
 (dJ 5)))))))
theorem aQ0:gV X1 ["web","seeds","order","burning","around","kindled","hearth"] t5:=by
 rintro Ep xs Q ⟨ws,ls,x,ns,y,os,rfl,wb,hx,hl,hy,po,q,qe⟩
 refine⟨_,rfl,_,rfl,ws,ls,x,ns,rfl,hx,hl,fun hs=>?_,qe⟩
 have q:=q hs
 have few:=wb.few
 have ln:=nC hs
 have lo:=po.length_eq
 rw [gP] at lo
 have inn:∀ h ∈ os,h ∈ rng ws.length:=fun h hh=>po.mem_iff.mp hh
 refine⟨_,ns,rfl,.inl rfl,by omega,fun ps d=>⟨rfl,d.fl,?_⟩⟩
 refine⟨_,rfl,_,rfl,ws,ls,y,os,rfl,few,hy,po,_,rfl,aR ?_⟩
 refine⟨_,rfl,ws,ls,rfl,wb,trivial,?_⟩
 refine⟨by decide,rfl,rfl,rfl,?_⟩
 refine⟨_,rfl,_,rfl,_,rfl,_,rfl,ws,ls,ps,ns,y,os,rfl,wb,d,hy,inn,trivial,?_⟩
 have f0:os.find? (kin ws ls ns)=iE ws ls os ns 0:=by
  show _=os.find? (kin ws ls (ns ++ []))
  rw [be6]
 rw [f0]
 refine⟨fun n ρ=>∃ k ps,ρ = [some (.sh (flat (aZ ws ls)) (aZ ws ls)),some (.sh (flat x) x),some (.sh (flat y) y),some (.own (.dK ps)),some (.sh true (.lst (fY ws.length ls))),some (.own (.lst (intz (cV ws ls os ns k)))),some (.sh true (T8 (iE ws ls os ns k)))]/\
   n+(cV ws ls os ns k).length=ws.length/\DS ps (ns ++ cV ws ls os ns k)/\∀ j < k,iE ws ls os ns j ≠ none,⟨ws.length,0,ps,rfl,rfl,by rw [show cV ws ls os ns 0 = [] from rfl,be6]; exact d,fun _ z=>absurd z (Nat.not_lt_zero _)⟩,?_⟩
 rintro n ρ ⟨k,ps,rfl,hn,d,ne⟩
 refine⟨_,rfl,rfl,_,rfl,?_⟩
 cases hf:iE ws ls os ns k with
 | none=>exact aR ⟨_,rfl,trivial,q k ⟨ne,hf⟩⟩
 | some h=>
  have e1:=T4 hf
  have l1:=xH (ls:=ls) po hs (k+1)
  have l0:=xH (ls:=ls) po hs k
  have dl:=d.len
  rw [bc0] at dl
  rw [e1,bc0,bg9] at l1
  refine aV ⟨_,rfl,_,rfl,trivial,by rw [aP]; omega,?_⟩
  refine⟨ps,rfl,_,rfl,Sum.inl h,rfl,trivial,by omega,?_⟩
  have D7:DS (cJ ps (Sum.inl h:aC) (.bl true)) (ns ++ cV ws ls os ns (k+1)):=by
   rw [e1,<- bf5]; exact d.put h _ rfl
  refine⟨_,rfl,_,rfl,_,rfl,_,rfl,ws,ls,_,_,y,os,rfl,wb,D7,hy,inn,trivial,?_⟩
  refine⟨n - 1,by omega,k+1,_,?_,by rw [e1,bc0,bg9]; omega,D7,fun j hj=>?_⟩
  ·rw [show intz (cV ws ls os ns (k+1))=intz (cV ws ls os ns k) ++ [PV.int h] by rw [e1,cT]; rfl]; rfl
  ·by_cases e:j=k
   ·rw [e,hf]; exact fun z=>nomatch z
   ·exact ne j (by omega)
def t6:cX:=sV fun ws ls ns Q=>∀ k,pB ws ls (rng ws.length) ns k->Q (.tup (intz (cV ws ls (rng ws.length) ns k)))
def X2 (Ep:Str->Prop):aH:=(bC (aB e9 (a6 (fF Ep t5 (a6 (a5 0) (a6 (a5 1) (a6 (x4 (aB iT (a6 (a5 0) a9))) a9)))) a9)))
theorem aQ1:gV X2 ["web","seeds"] t6:=by
 rintro Ep xs Q ⟨ws,ls,x,ns,rfl,wb,hx,hl,q,qe⟩
 have few:=wb.few
 refine⟨_,rfl,_,rfl,_,rfl,ws,ls,rfl,_,rfl,by omega,by omega,?_⟩
 rw [S0]
 exact⟨ws,ls,x,ns,_,rng ws.length,rfl,wb,hx,hl,.inr rfl,bq2 _,fun hs k en=>⟨⟨_,_,rfl,rfl,bP _,trivial,q hs k en⟩,(fun ns e=>by cases e)⟩,qe⟩
def lR:bF:=fun xs Q=>∃ ws ls B h,xs = [aZ ws ls,.lst (intz B),.int h]/\(∀ l ∈ ls,l.1 ≠ l.2)/\ls.length<=1700/\0<=h/\h < (ws.length:Int)/\Q (.bl (kin ws ls B h))
def X3:aH:=(aG (bL (aU (q2 (lD false) (a5 2) (a5 1))) (bC (qC (.bl false))) cC)
 (bC (oS (aB bU (a6 (cG (dE (aB sS (a6 (a5 0) (a6 (a5 2) a9)))) [none,some 1] (bK 0) (aU (q2 (lD false) (a5 0) (a5 1))) (a5 0)) a9)) (cL (cL (a5 0) (qC (.int 0))) (a5 2)))))
theorem aQ2:cU X3 ["web","burning","hearth"] lR:=by
 rintro xs Q ⟨ws,ls,B,h,rfl,hne,hl,h0,h1,q⟩
 have gw:ws[h.toNat]? = some (ws.getD h.toNat 0):=by
  rw [bd6,bc2 (by omega)]; rfl
 have ix:L2.atI (intz ws) h=some (.int (ws.getD h.toNat 0)):=by
  have:=pU (xs:=intz ws) (j:=h.toNat) (by rw [bc9,gw]; rfl)
  rwa [show ((h.toNat:Nat):Int)=h by omega] at this
 unfold kin at q
 refine⟨_,rfl,_,rfl,h,B,rfl,rfl,_,rfl,?_⟩
 show if decide (h ∈ B)=true then _ else _
 cases hb:decide (h ∈ B) with
 | true=>rw [hb] at q; exact aV ⟨trivial,q⟩
 | false=>
  rw [hb] at q
  refine aR ⟨_,rfl,_,rfl,ws,ls,h,rfl,hne,hl,_,rfl,(fun z=>by cases z),?_,fun j acc=>acc=intz (((cQ ls h).take j).filter fun x=>decide (x ∈ B)),rfl,?_,?_⟩
  ·rw [aP]; have:=qO ls h; omega
  ·rintro j z acc hz rfl
   obtain ⟨n,rfl,hn⟩:=fB hz
   have tk:=lI (p:=fun z=>decide (z ∈ B)) hn
   refine⟨_,rfl,_,rfl,n,B,rfl,rfl,_,rfl,?_⟩
   show if decide (n ∈ B)=true then _ else _
   cases hm:decide (n ∈ B) with
   | true=>
    rw [hm] at tk
    refine aV ⟨_,rfl,trivial,?_⟩
    dsimp only
    rw [tk,cT]; rfl
   | false=>
    rw [hm] at tk
    refine aR ?_
    dsimp only
    rw [tk]; exact congrArg intz (be6 _).symm
  ·rintro acc rfl
   rw [aP,bf1]
   refine⟨_,_,rfl,rfl,_,rfl,_,_,_,rfl,rfl,rfl,_,rfl,_,_,_,rfl,rfl,ix,_,_,rfl,rfl,trivial,?_⟩
   rw [aP]
   exact q
end Core
namespace PP
open PySem L2
section
variable {X : Cx} {σ : St} {H : Hp} {D : c7} {te : aE} {e : Expr} {pos : Pos}
def xY (i:Nat) (tk:aE):aH:=fun D ρ=>∃ xs,ρ[i]? = some (some (.own (.lst xs)))/\tk ρ fun n _=>∃ m:Nat,n = .int m/\xs.length<=16000000/\m < xs.length/\D.nx (ρ.set i (some (.own (.lst (xs.eraseIdx m)))))
theorem aQ3 {i:Nat}{tk:aE} (h:LS X (xY i tk) D σ H):jR (pV X.K "list" B6 (eF i) (gZ (LE X tk) j5)) D σ H:=by
 obtain ⟨W,ρ,D',px,⟨xs,hi,q⟩,k⟩:=h
 obtain ⟨v,ev,a,rfl,wa,us,ea,r⟩:=px.sl i _ hi
 refine⟨_,ev,kX (aN.of ea),W,ρ,_,px,q,?_⟩
 rintro w H1 n g s rn ⟨m,rfl,hl,hm,q⟩
 cases rn
 have ea1:=s _ _ ea
 have r1:=r.same (M':=Ms X.H₀ W true) s fun _ z=>z
 have lr:=r.length
 have lm:m < us.length:=by omega
 refine⟨a,us,m,m,us[m],rfl,rfl,ea1,by omega,by omega,av6 lm,bc2 lm,?_⟩
 exact k.nx W _ _ _ ((Ev.same s).trans (Ev.upd wa)) ((px.mono s).updL hi ev wa ((r1.eraseIdx m).keep (.upd ea1 rfl fun b m=>⟨i4 wa m,m⟩))) q
theorem aQ4 (i:Nat) {x:Str}{apos cpos xpos:Pos} (ha:QE X e te) (hN:X.N[i]? = some x:=by rfl) (hv:eD X.env.scope x:=by first | exact Or.inl rfl | exact Or.inr (Or.inl rfl) | exact Or.inr (Or.inr rfl)) (hd:(x == ("__debug__" : Str))=false:=by decide) (hcd:(x == ("__classdict__" : Str))=false:=by decide)
  (hbase:attributeBase (.Name x xpos) "pop" X.env (eval (.Name x xpos) X.env)=eval (.Name x xpos) X.env:=by rfl)
  (hfew:((backTo cpos (starEach [e] X.env)).all (fun x=>!x.1) && (backToKw cpos (keywordEach [] X.env)).all (fun x=>x.1.isSome) && decide (([e]:List Expr).length+([]:List Keyword).length+(if ([]:List Keyword).isEmpty then 0 else 1) < 30))=true:=by rfl)
  (hline:(apos.endLine == cpos.line)=true:=by rfl) (hs:starEach [e] X.env=(false,eval e X.env) :: starEach [] X.env:=by rfl) (hplain:(backTo cpos (starEach [] X.env)).any (·.1)=false:=by rfl)
  (hsw:swapsWith (.Call (.Attribute (.Name x xpos) "pop" apos) [e] [] cpos) none pos.line X.env=pure false:=by rfl) :
  QS X (.Expr (.Call (.Attribute (.Name x xpos) "pop" apos) [e] [] cpos) pos) (xY i te):=
 cO (j3 (o7 bk6 PySem.F.slot_list_pop PySem.F.type_list_pop am7 (fG hN hv hd hcd) (dD ha dY hs) hbase hfew hline hs hplain) hsw) fun _ _ _=>aQ3
end
end PP
namespace Core
open PySem L2 PP
def bE (ws:List Int) (ls:List (Int × Int)):List Int->List Int->Bool
 | _,[]=>true
 | B,h :: R=>inB ws.length h && (kin ws ls B h && bE ws ls (B ++ [h]) R)
section
variable {ws : List Int} {ls : List (Int × Int)} {B R ns : List Int} {i : Nat} {h : Int}
theorem X4 (hh:R[i]? = some h):bE ws ls (B ++ R.take i) (R.drop i)=(inB ws.length h && (kin ws ls (B ++ R.take i) h && bE ws ls (B ++ R.take (i+1)) (R.drop (i+1)))):=by
 obtain ⟨hi,e⟩:=bc6.mp hh
 rw [List.drop_eq_getElem_cons hi,e]
 show (inB ws.length h && (kin ws ls (B ++ R.take i) h && bE ws ls (B ++ R.take i ++ [h]) (R.drop (i+1))))=_
 rw [bf5,bf9,hh]; rfl
theorem pH:∀ {R B:List Int},bE ws ls B (R ++ [h])=(bE ws ls B R && (inB ws.length h && kin ws ls (B ++ R) h))
 | [],B=>by
  show (inB ws.length h && (kin ws ls B h && true))=(true && (inB ws.length h && kin ws ls (B ++ []) h))
  rw [bq0,Bool.true_and,be6]
 | a :: R,B=>by
  show (inB ws.length a && (kin ws ls B a && bE ws ls (B ++ [a]) (R ++ [h])))=(inB ws.length a && (kin ws ls B a && bE ws ls (B ++ [a]) R) && (inB ws.length h && kin ws ls (B ++ a :: R) h))
  rw [pH,bf5,Bool.and_assoc,Bool.and_assoc]; rfl
theorem nI {T:List Int} (sh:eO ws ls T):∀ {R B:List Int},bE ws ls B R=true->(∀ x ∈ B,x ∈ T)->∀ x ∈ B ++ R,x ∈ T
 | [],B,_,st,x,hx=>st x (by rw [be6] at hx; exact hx)
 | a :: R,B,g,st,x,hx=>by
  have g:(inB ws.length a && (kin ws ls B a && bE ws ls (B ++ [a]) R))=true:=g
  rw [bd8,bd8] at g
  have aT:a ∈ T:=Classical.byContradiction fun e=>by
   have:=sC g.2.1 st e
   have ib:=g.1
   unfold inB at ib
   rw [bd8,bj0,bj0] at ib
   rw [sh a (iS.mpr ib)] at this; cases this
  refine nI sh g.2.2 (fun y hy=>(bf0.mp hy).elim (st y) fun z=>by rw [bd1.mp z]; exact aT) x ?_
  rw [bf5]; exact hx
theorem X5:∀ {R B:List Int},bE ws ls B R=true->B.Nodup->(∀ x ∈ B,x ∈ rng ws.length)->(B ++ R).Nodup/\∀ x ∈ B ++ R,x ∈ rng ws.length
 | [],B,_,nd,st=>by rw [be6]; exact⟨nd,st⟩
 | a :: R,B,g,nd,st=>by
  have g:(inB ws.length a && (kin ws ls B a && bE ws ls (B ++ [a]) R))=true:=g
  rw [bd8,bd8] at g
  have ib:=g.1
  unfold inB at ib
  rw [bd8,bj0,bj0] at ib
  have an:a ∉ B:=bl9 (oY g.2.1)
  have:=X5 g.2.2 (bg7.mpr ⟨nd,bf8 _ _,fun x hx y hy z=>an (by rw [bd1.mp hy] at z; rw [<- z]; exact hx)⟩) fun x hx=>(bf0.mp hx).elim (st x) fun z=>by rw [bd1.mp z]; exact iS.mpr ib
  rw [bf5] at this; exact this
theorem iY (hs:aW ws.length ns=true) (g:bE ws ls ns R=true):(ns ++ R).Nodup/\∀ x ∈ ns ++ R,x ∈ rng ws.length:=
 X5 g ((jI (gQ hs).1).imp fun h=>Int.ne_of_lt h) fun x hx=>iS.mpr ((gQ hs).2 x hx)
theorem aQ5 (hs:aW ws.length ns=true) (g:bE ws ls ns R=true) (sh:eO ws ls (ns ++ R)) {m:Nat} (h2:c7 ws ls ns m):(ns ++ R).Perm (b7 ws ls ns m):=by
 have s2:eO ws ls (b7 ws ls ns m):=fun h hh=>by
  have:=bm9.mp (show (rng ws.length).filter (kin ws ls (b7 ws ls ns m)) = [] from h2.2) h hh
  simpa using this
 refine (List.perm_ext_iff_of_nodup (iY hs g).1 (xI hs m)).mpr fun x=>⟨fun hx=>?_,fun hx=>?_⟩
 ·refine nI s2 g (fun y hy=>?_) x hx
  have:∀ m,y ∈ b7 ws ls ns m:=fun m=>by
   induction m with
   | zero=>exact hy
   | succ m ih=>exact bg3 _ ih
  exact this m
 ·exact T5 sh (fun y hy=>bg3 _ hy) m x hx
end
def t7:cX:=fun Ep xs Q=>∃ ws ls x ns y R,xs = [aZ ws ls,x,y]/\Wb ws ls/\bS x ns/\ns.length<=1000/\bS y R/\R.length<=1000/\(aW ws.length ns=true->Q (.bl (bE ws ls ns R)))/\(aW ws.length ns=false->Ep "BadSet")
def X6 (Ep:Str->Prop):aH:=(aG (dI 3 (aB iD (a6 (fF Ep kI (a6 (a5 0) (a6 (a5 1) a9))) a9)))
 (aG (b5 4 (aB jJ (a6 (a5 0) a9)))
 (aG (dU (dE (a5 2)) (bK 5)
  (aG (bL (mF (jE (aU (aB nB (a6 (a5 0) (a6 (a5 5) a9))))) (jE (aU (aB iW (a6 (a5 0) (a6 (a5 4) (a6 (a5 3) (a6 (a5 5) a9)))))))) (bC (qC (.bl false))) cC)
  (mO 3 (a5 5) (qC (.bl true)))))
 (bC (qC (.bl true))))))
theorem aQ6:gV X6 ["web","seeds","row","burning","around","hearth"] t7:=by
 rintro Ep xs Q ⟨ws,ls,x,ns,y,R,rfl,wb,hx,hl,hy,rl,q,qe⟩
 refine⟨_,rfl,_,rfl,ws,ls,x,ns,rfl,hx,hl,fun hs=>?_,qe⟩
 have q:=q hs
 have few:=wb.few
 have ln:=nC hs
 refine⟨_,ns,rfl,.inl rfl,by omega,fun ps d=>⟨rfl,d.fl,?_⟩⟩
 refine⟨_,rfl,ws,ls,rfl,wb,trivial,?_⟩
 refine⟨_,rfl,_,hy.seq,kD hy,fun i ρ=>∃ ps y5,ρ = [some (.sh (flat (aZ ws ls)) (aZ ws ls)),some (.sh (flat x) x),some (.sh (flat y) y),some (.own (.dK ps)),some (.sh true (.lst (fY ws.length ls))),y5]/\DS ps (ns ++ R.take i)/\bE ws ls ns R=bE ws ls (ns ++ R.take i) (R.drop i),⟨ps,none,rfl,by rw [bq3,be6]; exact d,by rw [bq3,be6]; rfl⟩,?_,?_⟩
 ·rintro i z ρ hz ⟨ps,y5,rfl,d,e⟩
  obtain ⟨h,rfl,hh⟩:=fB hz
  rw [X4 hh] at e
  refine lO ?_
  refine⟨_,rfl,_,rfl,ws,ls,h,rfl,_,rfl,?_⟩
  have bd:ps.length<=2000:=by
   have:=d.len
   rw [bc0,bh3] at this
   omega
  cases hb:inB ws.length h with
  | false=>rw [hb] at e; exact aV (aV ⟨trivial,by rw [e] at q; exact q⟩)
  | true=>
   rw [hb] at e
   have ib:=hb
   unfold inB at ib
   rw [bd8,bj0,bj0] at ib
   refine aR ⟨_,rfl,_,rfl,_,rfl,_,rfl,ws,ls,ps,_,h,rfl,wb,d,ib.1,ib.2,_,rfl,?_⟩
   cases hk:kin ws ls (ns ++ R.take i) h with
   | false=>rw [hk] at e; exact aV ⟨trivial,by rw [e] at q; exact q⟩
   | true=>
    rw [hk] at e
    refine aR ⟨ps,rfl,_,rfl,Sum.inl h,rfl,trivial,by omega,_,si h,rfl,?_,e⟩
    have:=d.put h (.bl true) rfl
    rw [bf5] at this
    rw [bf9,hh]
    exact this
 ·rintro ρ ⟨ps,y5,rfl,d,e⟩
  rw [aP,List.drop_of_length_le (bc1 _)] at e
  rw [e] at q
  exact⟨trivial,q⟩
def t8:cX:=fun Ep xs Q=>∃ ws ls x ns y R,xs = [aZ ws ls,x,y]/\Wb ws ls/\bS x ns/\ns.length<=1000/\bS y R/\R.length<=1000/\(aW ws.length ns=true->(bE ws ls ns R=false->Q (.bl false))/\(bE ws ls ns R=true->∀ m,c7 ws ls ns m->Q (.bl (decide (ns.length+R.length=(b7 ws ls ns m).length)))))/\(aW ws.length ns=false->Ep "BadSet")
def X7 (Ep:Str->Prop):aH:=(bC (mG (fF Ep t7 (a6 (a5 0) (a6 (a5 1) (a6 (a5 2) a9)))) (dW (eL (aB bU (a6 (a5 1) a9)) (aB bU (a6 (a5 2) a9))) (aB bU (a6 (fF Ep sY (a6 (a5 0) (a6 (a5 1) a9))) a9)))))
theorem aQ7:gV X7 ["web","seeds","row"] t8:=by
 rintro Ep xs Q ⟨ws,ls,x,ns,y,R,rfl,wb,hx,hl,hy,rl,q,qe⟩
 refine⟨_,rfl,_,rfl,_,rfl,ws,ls,x,ns,y,R,rfl,wb,hx,hl,hy,rl,fun hs=>⟨_,rfl,?_⟩,qe⟩
 obtain ⟨q0,q1⟩:=q hs
 cases hg:bE ws ls ns R with
 | false=>exact aR ⟨trivial,q0 hg⟩
 | true=>
  refine aV ⟨_,rfl,_,_,rfl,hx.len,_,rfl,_,_,rfl,hy.len,_,_,rfl,rfl,_,rfl,_,rfl,ws,ls,x,ns,rfl,wb,hx,hl,fun _ ms m en pm so=>?_,fun h=>by rw [hs] at h; cases h⟩
  refine⟨_,_,rfl,rfl,.inl ⟨_,_,rfl,rfl,trivial,?_⟩⟩
  show Q (.bl (decide ((ns.length:Int)+(R.length:Int)=((intz ms).length:Nat))))
  rw [aP,pm.length_eq,show decide ((ns.length:Int)+(R.length:Int)=((b7 ws ls ns m).length:Int))=decide (ns.length+R.length=(b7 ws ls ns m).length) from decide_eq_decide.mpr (by omega)]
  exact q1 hg m en
def t9:bF:=fun xs Q=>∃ ws ls ns R,xs = [aZ ws ls,.tup (intz ns),.lst (intz R)]/\(∀ l ∈ ls,l.1 ≠ l.2)/\ls.length<=1700/\ns.length<=1000/\R.length<=1000/\Q (.bl (bE ws ls ns R))
def X8:aH:=(aG (dI 3 (aB jY (a6 (a5 1) a9)))
 (aG (dU (dE (a5 2)) (bK 4)
  (aG (bL (mF (aU (lE (a5 4) (qC (.int 0)))) (mF (aU (oS (a5 4) (aB bU (a6 (cL (a5 0) (qC (.int 0))) a9)))) (jE (aU (aB lR (a6 (a5 0) (a6 (a5 3) (a6 (a5 4) a9)))))))) (bC (qC (.bl false))) cC)
  (jX 3 (a5 4))))
 (bC (qC (.bl true)))))
theorem aQ8:cU X8 ["web","seeds","row","burning","hearth"] t9:=by
 rintro xs Q ⟨ws,ls,ns,R,rfl,ne,most,nl,rl,q⟩
 refine⟨_,rfl,_,_,rfl,rfl,bP _,rfl,bP _,?_⟩
 refine⟨_,rfl,_,rfl,kD (.inr rfl),fun i ρ=>∃ y4,ρ = [some (.sh (flat (aZ ws ls)) (aZ ws ls)),some (.sh (flat (.tup (intz ns))) (.tup (intz ns))),some (.sh (flat (.lst (intz R))) (.lst (intz R))),some (.own (.lst (intz (ns ++ R.take i)))),y4]/\bE ws ls ns R=bE ws ls (ns ++ R.take i) (R.drop i),⟨none,by rw [bq3,be6]; rfl,by rw [bq3,be6]; rfl⟩,?_,?_⟩
 ·rintro i z ρ hz ⟨y4,rfl,e⟩
  obtain ⟨h,rfl,hh⟩:=fB hz
  rw [X4 hh] at e
  refine lO ?_
  refine⟨_,rfl,_,_,rfl,rfl,_,rfl,?_⟩
  show if decide (h < 0)=true then _ else _
  by_cases h0:h < 0
  ·have ib:inB ws.length h=false:=by unfold inB; rw [bc8 (by omega)]; rfl
   rw [ib] at e
   rw [bd4 h0]
   exact aV (aV ⟨trivial,by rw [e] at q; exact q⟩)
  rw [bc8 h0]
  refine aR ⟨_,rfl,_,rfl,_,_,_,rfl,rfl,rfl,_,_,rfl,rfl,_,_,rfl,rfl,_,rfl,?_⟩
  show if decide (h >= ((intz ws).length:Nat))=true then _ else _
  rw [aP]
  by_cases h1:h >= (ws.length:Int)
  ·have ib:inB ws.length h=false:=by unfold inB; rw [bc8 (show ¬ h < (ws.length:Int) by omega),bq1]
   rw [ib] at e
   rw [bd4 h1]
   exact aV (aV ⟨trivial,by rw [e] at q; exact q⟩)
  rw [bc8 h1]
  have ib:inB ws.length h=true:=by unfold inB; rw [bd4 (show 0<=h by omega),bd4 (show h < (ws.length:Int) by omega)]; rfl
  rw [ib] at e
  refine aR ⟨_,rfl,_,rfl,_,rfl,ws,ls,_,h,rfl,ne,most,by omega,by omega,_,rfl,?_⟩
  cases hk:kin ws ls (ns ++ R.take i) h with
  | false=>rw [hk] at e; exact aV ⟨trivial,by rw [e] at q; exact q⟩
  | true=>
   rw [hk] at e
   refine aR ⟨_,rfl,_,rfl,trivial,?_,si h,?_,e⟩
   ·rw [aP,bc0,bh3]; omega
   ·rw [bf9,hh]
    show [_,_,_,some (Slot.own (.lst (intz (ns ++ R.take i) ++ [PV.int h]))),_] = [_,_,_,some (Slot.own (.lst (intz (ns ++ (R.take i ++ [h]))))),_]
    rw [<- bf5,cT (ns ++ R.take i)]; rfl
 ·rintro ρ ⟨y4,rfl,e⟩
  rw [aP,List.drop_of_length_le (bc1 _)] at e
  rw [e] at q
  exact⟨trivial,q⟩
def tD:bF:=fun xs Q=>∃ ws ls ns,∃ c:Int,xs = [aZ ws ls,.tup (intz ns),.int c]/\Wb ws ls/\(∀ l ∈ ls,l.1 ≠ l.2)/\aW ws.length ns=true/\∀ R,bE ws ls ns R=true->eO ws ls (ns ++ R)->R.length<=40->Q (.lst (intz R))
def X9:aH:=(aG (dI 3 (eV a9))
 (aG (b5 4 (cG (fW (aB bU (a6 (cL (a5 0) (qC (.int 0))) a9))) [none,some 0,some 1] (bK 0) (aU (aB lR (a6 (a5 1) (a6 (aB jY (a6 (a5 2) a9)) (a6 (a5 0) a9))))) (a5 0)))
 (aG (mJ (aU (q2 (i8 2 true) (a5 4) (eV a9)))
  (aG (jX 3 (cL (a5 4) (bM (aB kJ (a6 (a5 2) (a6 (aB bU (a6 (a5 3) a9)) a9))) (aB bU (a6 (a5 4) a9)))))
  (b5 4 (cG (fW (aB bU (a6 (cL (a5 0) (qC (.int 0))) a9))) [none,some 0,some 3,some 1] (bK 0) (aU (aB lR (a6 (a5 1) (a6 (xC (aB jY (a6 (a5 3) a9)) (a5 2)) (a6 (a5 0) a9))))) (a5 0)))))
 (dJ 3))))
theorem aQ9:cU X9 ["web","seeds","cell","row","able"] tD:=by
 rintro xs Q ⟨ws,ls,ns,c,rfl,wb,ne,hs,q⟩
 have few:=wb.few
 have sl:=nC hs
 refine⟨by decide,rfl,rfl,rfl,?_⟩
 refine⟨_,rfl,_,_,_,rfl,rfl,rfl,_,_,rfl,rfl,_,rfl,by rw [aP]; omega,by rw [aP]; omega,by rw [dN,aP]; omega,fun i acc=>acc=intz (((rng ws.length).take i).filter (kin ws ls ns)),rfl,?_,?_⟩
 ·rintro i y acc hy rfl
  obtain ⟨rfl,hi⟩:=iC hy
  have hi':i < ws.length:=by rw [aP,bj9] at hi; exact hi
  have tk:=lI (p:=kin ws ls ns) (wU hi')
  have e0:(0:Int)+(i:Int)=(i:Int):=by omega
  refine⟨_,rfl,_,rfl,_,_,rfl,rfl,bP _,_,rfl,ws,ls,ns,_,rfl,ne,wb.most,by omega,by omega,_,rfl,?_⟩
  show if kin ws ls ns ((0:Int)+(i:Int))=true then _ else _
  rw [e0]
  cases h:kin ws ls ns (i:Int) with
  | true=>
   refine aV ⟨_,rfl,trivial,?_⟩
   rw [h,if_pos rfl] at tk
   show _=intz (List.filter _ (List.take (i+1) _))
   rw [tk,cT]; rfl
  | false=>
   refine aR ?_
   rw [h,if_neg (by decide),be6] at tk
   show _=intz (List.filter _ (List.take (i+1) _))
   rw [tk]
 rintro acc rfl
 rw [dN,aP,bj9,bk3 (by rw [gP]; exact bc1 _)]
 refine⟨trivial,?_⟩
 refine⟨fun n ρ=>∃ R:List Int,ρ = [some (.sh (flat (aZ ws ls)) (aZ ws ls)),some (.sh (flat (.tup (intz ns))) (.tup (intz ns))),si c,some (.own (.lst (intz R))),some (.sh true (.lst (intz ((rng ws.length).filter (kin ws ls (ns ++ R))))))]/\n=ws.length - R.length/\bE ws ls ns R=true,⟨_,[],by rw [be6]; rfl,rfl,rfl⟩,?_⟩
 rintro n ρ ⟨R,rfl,rfl,g⟩
 have go:=iY hs g
 have gl:ns.length+R.length<=ws.length:=by
  have:=go.1.length_le_of_subset go.2
  rw [gP,bc0] at this; exact this
 have Am:∀ h ∈ (rng ws.length).filter (kin ws ls (ns ++ R)),h ∈ rng ws.length/\kin ws ls (ns ++ R) h=true:=fun h hh=>bk8.mp hh
 have Al:((rng ws.length).filter (kin ws ls (ns ++ R))).length<=ws.length:=by have:=bl6 (kin ws ls (ns ++ R)) (rng ws.length); rw [gP] at this; exact this
 have sh0:(rng ws.length).filter (kin ws ls (ns ++ R)) = []->eO ws ls (ns ++ R):=fun e h hh=>by
  have:=bm9.mp e h hh
  simpa using this
 generalize (rng ws.length).filter (kin ws ls (ns ++ R))=A at Am Al sh0
 refine⟨_,rfl,by decide,rfl,.inr ⟨_,_,rfl,rfl⟩,M4 2 A [],_,rfl,?_⟩
 show if (!cN 3 (.lst (intz A)) (.lst (intz [])))=true then _ else _
 rw [M0]
 by_cases hA:A = []
 ·rw [bd4 hA]
  exact aR ⟨_,rfl,trivial,q R g (sh0 hA) (by omega)⟩
 rw [bc8 hA]
 refine aV ?_
 have la:0 < A.length:=by cases A; exact absurd rfl hA; exact Nat.zero_lt_succ _
 refine⟨_,rfl,_,rfl,_,rfl,_,rfl,_,_,rfl,rfl,_,_,rfl,by omega,by rw [aP]; omega,fun z z0=>?_⟩
 refine⟨_,rfl,_,_,rfl,rfl,_,_,rfl,rfl,by rw [aP]; omega,?_⟩
 dsimp only
 rw [aP]
 have j0:0<=z % (A.length:Int):=bf2 _ (by omega)
 have j1:z % (A.length:Int) < (A.length:Int):=bg2 _ (by omega)
 generalize z % (A.length:Int)=j at j0 j1
 have hi:L2.atI (intz A) j=some (.int (A.getD j.toNat 0)):=lJ j0 j1
 have hm:A.getD j.toNat 0 ∈ A:=by
  rw [bd6,bc2 (by omega)]
  exact bn7 _
 generalize A.getD j.toNat 0=h at hi hm
 obtain ⟨h1,h2⟩:=Am h hm
 have g2:bE ws ls ns (R ++ [h])=true:=by
  rw [pH,g,h2]
  unfold inB
  rw [bd4 (iS.mp h1).1,bd4 (iS.mp h1).2]; rfl
 have gl2:ns.length+(R ++ [h]).length<=ws.length:=by
  have go:=iY hs g2
  have:=go.1.length_le_of_subset go.2
  rw [gP,bc0] at this; exact this
 rw [bc0,bg9] at gl2
 refine⟨_,_,_,rfl,rfl,hi,trivial,by rw [aP]; omega,?_⟩
 rw [show intz R ++ [PV.int h]=intz (R ++ [h]) from (cT R [h]).symm]
 refine⟨_,rfl,_,_,_,rfl,rfl,rfl,_,_,rfl,rfl,_,rfl,by rw [aP]; omega,by rw [aP]; omega,by rw [dN,aP]; omega,fun i acc=>acc=intz (((rng ws.length).take i).filter (kin ws ls (ns ++ (R ++ [h])))),rfl,?_,?_⟩
 ·rintro i y acc hy rfl
  obtain ⟨rfl,hi⟩:=iC hy
  have hi':i < ws.length:=by rw [aP,bj9] at hi; exact hi
  have tk:=lI (p:=kin ws ls (ns ++ (R ++ [h]))) (wU hi')
  have e0:(0:Int)+(i:Int)=(i:Int):=by omega
  refine⟨_,rfl,_,rfl,_,_,rfl,rfl,bP _,_,rfl,_,_,rfl,rfl,bP _,bP _,by rw [aP,aP,bc0]; show _+(_+1)<=_; omega,_,rfl,ws,ls,ns ++ (R ++ [h]),0+(i:Int),?_,ne,wb.most,by omega,by omega,_,rfl,?_⟩
  ·rw [<- cT]; rfl
  show if kin ws ls (ns ++ (R ++ [h])) ((0:Int)+(i:Int))=true then _ else _
  rw [e0]
  cases hk:kin ws ls (ns ++ (R ++ [h])) (i:Int) with
  | true=>
   refine aV ⟨_,rfl,trivial,?_⟩
   rw [hk,if_pos rfl] at tk
   show _=intz (List.filter _ (List.take (i+1) _))
   rw [tk,cT]; rfl
  | false=>
   refine aR ?_
   rw [hk,if_neg (by decide),be6] at tk
   show _=intz (List.filter _ (List.take (i+1) _))
   rw [tk]
 rintro acc rfl
 rw [dN,aP,bj9,bk3 (by rw [gP]; exact bc1 _)]
 exact⟨trivial,ws.length - (R.length+1),by omega,R ++ [h],rfl,by rw [bc0,bg9],g2⟩
end Core
namespace PP
open PySem L2
section
variable {X : Cx} {a b e : Expr} {ta tb te : aE} {tr : cI} {pos : Pos} {σ : St} {H : Hp} {Q' : VK} {es : List Expr}
def xZ (t:cI):aE:=fun ρ Q=>t ρ fun xs=>xs.length<=1000/\kY xs/\Q (.lst (xs.map (·.1))) .nw
theorem aR0 (h:LE X (xZ tr) σ H Q'):u5 (LA X tr) σ H Q':=by
 obtain ⟨W,ρ,Q,px,q,k⟩:=h
 refine⟨W,ρ,_,px,q,?_⟩
 rintro vs H1 xs s1 r ⟨hl,n,q⟩
 refine⟨by rw [r.length]; exact oK hl,fun p hp=>k _ _ _ .nw (s1.trans (bB hp _)) (.lst (px.new (s1.free hp)) b8 ?_) q⟩
 exact (kY.reps (vs:=vs) px n r).same (bB hp _) fun _ z=>z
theorem aR1 (ha:QA X es tr):QE X (.List es pos) (xZ tr):=bY (u6 ha) fun _ _ _=>aR0
end
end PP
namespace L2
open PySem PySem.Spec PyProof.Rows
def Y0 (K:PySem.W.Frag) (a:Addr) (n:Nat):It:=
 ⟨fun i H=>(∃ xs,aN K H a xs/\xs.length=n)/\i < n,fun i H x H'=>H'=H/\∀ xs,aN K H a xs->xs[n - 1 - i]? = some x,fun i H=>i=n⟩
theorem aR2 {P:Program}{w:World}{K:PySem.W.Frag}{tg:Expr} (a it:Addr) (n:Nat):gB P w K tg (Y0 K a n) [it] it (fun i h=>h.IsRevIter it a ((n:Int) - 1 - (i:Int))):=by
 refine⟨by simp,fun i h st b hb=>?_,fun i h h' st k=>st.at fun o e=>k it (by simp) o e,?_,?_,fun _ _ _ _ _ st q=>wpAny_pyIter_revIter st q⟩
 ·obtain rfl:b=it:=by simpa using hb
  obtain ⟨o,e,c,d⟩:=st
  exact⟨o,e,fun v z=>by rw [d] at z; cases z⟩
 ·intro X hP hw hK hc i pins s σ H E I hf st hg
  subst hP hw hK
  obtain ⟨⟨xs,hq,hl⟩,hi⟩:=hg
  obtain ⟨its,rv,p,hz⟩:=I.list hq
  have lv:=rv.length
  have hx:xs[n - 1 - i]? = some (xs[n - 1 - i]'(by omega)):=bc2 (by omega)
  obtain ⟨u,hu,ru⟩:=rv.get hx
  obtain ⟨f0,f1,f2,f3,f4,f5⟩:=hf it (by simp)
  have e0:(n:Int) - 1 - (i:Int)=((n - 1 - i:Nat):Int):=by omega
  rw [e0] at st
  refine wpAny_pyNext_rev_item st p.isList (x:=u) (by simpa using hu) fun h' st' sb=>?_
  have I1:a8 X pins σ H { s with heap:=h' }:=I.turned (t':=s.toks) (fun b o hb e=>(sb.2 b hb).trans e) f0 f1 f3 f4 f5
  have e1:((n - 1 - i:Nat):Int) - 1=(n:Int) - 1 - ((i+1:Nat):Int):=by omega
  rw [e1] at st'
  obtain ⟨o,e,c,d⟩:=id st'
  exact⟨u,rfl,nR (s:={ s with heap:=h' }) e c d (by decide) ⟨_,H,I1,ru,⟨rfl,fun ys hy=>by rw [I.list_inj hy hq]; exact hx⟩,st',fun b hb=>(hf b hb).1⟩⟩
 ·intro X hP hw hK hc i pins s σ H E I hf st hg
  subst hP hw hK
  have hg:i=n:=hg
  subst hg
  obtain ⟨f0,f1,f2,f3,f4,f5⟩:=hf it (by simp)
  rw [show (i:Int) - 1 - (i:Int) = -1 by omega] at st
  exact wpAny_pyNext_rev_end (I.ok.hd hc) st fun h' eb=>⟨rfl,I.turned (t':=s.toks) (fun b o hb e=>eb b o hb e) f0 f1 f3 f4 f5⟩
section
variable {X : Cx}
def Y1 (K:PySem.W.Frag) (ta:TA):TI:=fun σ H R=>ta σ H fun vs H1=>∃ a xs,vs = [.ref a]/\aN K H1 a xs/\R (Y0 K a xs.length) H1
theorem aR3 {tg:Expr}{a:Expr}{ta:TA}{p pos:Pos} (hg:Gl X "reversed") (hm:X.mg "reversed" = none) (ha:PA X [a] ta) (hs:starEach [a] X.env = [(false,eval a X.env)]:=by rfl) :
  PI X tg (.Call (.Name "reversed" p) [a] [] pos) (Y1 X.K ta):=by
 intro pins s σ H R I h
 refine Call_ (iI I hg hm PyProof.Rows.boot_reversed (bh6 (aQ (ha pos pins s σ H _ I h) fun us s1 ⟨vs,H1,I1,r1,q1⟩=>?_) (by rw [hs]; rfl) (by rfl)))
 obtain ⟨a',xs,e,h1,q⟩:=q1
 subst e
 cases r1 with
 | cons r rr=>
  cases rr
  cases r
  obtain ⟨us,rv,p1,_⟩:=I1.list h1
  have lv:=rv.length
  refine call_reversed_list p1.isList ?_
  have st:∀ t:Nat,(s1.heap.push (revObj a' ((us.toArray.size:Int) - 1))).IsRevIter s1.heap.objs.size a' ((xs.length:Int) - 1 - (0:Nat)):=fun _=>by
   rw [bb9,<- lv]
   exact⟨_,bd2 _ rfl,rfl,by rw [show (xs.length:Int) - 1 - (0:Nat)=(xs.length:Int) - 1 by omega]; rfl⟩
  refine wpAny_pyIter_revIter (st 0) ?_
  refine⟨s1.heap.objs.size,[s1.heap.objs.size],_,_,H1,rfl,I1.kept (t':=s1.toks) fun b o e=>bb8 _ e,aR2 a' _ xs.length,st 0,fun c hc=>?_,q⟩
  obtain rfl:c=s1.heap.objs.size:=by simpa using hc
  exact I1.fpOk (bc1 _) (I1.hok.fresh (bc1 _))
end
end L2
namespace PP
open PySem L2
section
variable {X : Cx} {σ : St} {H : Hp} {te : aE} {R : It → Hp → Prop} {a : Expr} {p2 pos : Pos}
def y3 (te:aE):eJ:=fun ρ Q=>te ρ fun x g=>∃ xs,x = .lst xs/\g ≠ .rd/\Q xs.reverse (l9 g xs)
theorem aR4 (h:LI X (y3 te) σ H R):Y1 X.K (gZ (LE X te) j5) σ H R:=by
 obtain ⟨W,ρ,Q,px,q,k⟩:=h
 refine⟨W,ρ,_,px,q,?_⟩
 rintro v H1 x g s r ⟨xs,rfl,hg,q⟩
 have px1:=px.mono s
 have tw:∀ a,W a->∃ o,H1 a=some o/\fV o=true:=fun a z=>(px1.wm a z).2
 obtain ⟨a,us,rfl,m,ea,r⟩:=r.sqL
 have wa : ¬ W a:=by
  cases g with
  | fr=>exact (px.new m).1
  | nw=>exact m.1
  | sh=>exact m
  | rd=>exact absurd rfl hg
 have lr:=r.length
 have ha:∀ W' H',Ev W H1 W' H'->aN X.K H' a us:=fun W' H' e=>aN.of (e _ _ ea wa).1
 have rr:=lA px (fun z=>absurd z hg) r
 refine⟨a,us,rfl,aN.of ea,k _ _ _ _ s ⟨fun W' H' i e hi=>⟨⟨us,ha W' H' e,rfl⟩,?_⟩,fun W' H' i v H2 e y hi=>?_,fun W' H' e=>?_⟩ q⟩
 ·rw [bn2] at hi; omega
 ·rw [bn2] at hi
  obtain ⟨rfl,y⟩:=y
  obtain ⟨x,hx,rx⟩:=rr.get (y us (ha W' _ e))
  refine⟨aD.refl _,x,?_,rx.keep (e.keep tw)⟩
  rw [List.getElem?_reverse hi,<- lr]
  exact hx
 ·show xs.reverse.length=us.length
  rw [bn2]; omega
theorem aR5 {tg:Expr} (hm:X.mg "reversed" = none) (ha:QE X a te) (hg:Gl X "reversed":=by rfl) (hs:starEach [a] X.env = [(false,eval a X.env)]:=by rfl):QI X tg (.Call (.Name "reversed" p2) [a] [] pos) (y3 te):=oU (aR3 hg hm (dD ha dY hs) hs) fun _ _ _=>aR4
end
end PP
namespace Core
open PySem L2 PP
def dM (h:Int):List Int->List Int
 | []=>[h]
 | a :: r=>if h<=a then h :: a :: r else a :: dM h r
theorem lS (h:Int):∀ A:List Int,(dM h A).Perm (A ++ [h])
 | []=>bq2 _
 | a :: r=>by
  show (if h<=a then h :: a :: r else a :: dM h r).Perm _
  split
  ·exact List.perm_append_comm (l₁:=[h]) (l₂:=a :: r)
  ·exact (lS h r).cons a
theorem tE (h:Int):∀ {A:List Int},A.Pairwise (· <= ·)->(dM h A).Pairwise (· <= ·)
 | [],_=>bf8 _ _
 | a :: r,p=>by
  have p':=bp1.mp p
  show (if h<=a then h :: a :: r else a :: dM h r).Pairwise _
  split
  ·rename_i z
   exact bp1.mpr ⟨fun x hx=>by
    rcases bc5.mp hx with rfl | hx
    ·exact z
    ·exact Int.le_trans z (p'.1 x hx),p⟩
  ·rename_i z
   exact bp1.mpr ⟨fun x hx=>by
    rcases bf0.mp ((lS h r).mem_iff.mp hx) with hx | hx
    ·exact p'.1 x hx
    ·rw [bd1] at hx; omega,tE h p'.2⟩
theorem aR6 (h:Int) (A:List Int):(dM h A).length=A.length+1:=by rw [(lS h A).length_eq,bc0]; rfl
theorem y8 {h:Int}{A B:List Int} (pa:A.Pairwise (· <= ·)) (p:B.Perm (A ++ [h])) (s:B.Pairwise (· <= ·)):B=dM h A:=p6 (p.trans (lS h A).symm) s (tE h pa)
theorem lT {motive:List Int->Prop} (z:motive []) (sn:∀ L x,motive L->motive (L ++ [x])):∀ L,motive L:=fun L=>by
 have:∀ R:List Int,motive R.reverse:=by
  intro R
  induction R with
  | nil=>exact z
  | cons x r ih=>rw [List.reverse_cons]; exact sn _ _ ih
 have:=this L.reverse
 rwa [List.reverse_reverse] at this
theorem aR7:∀ (L:List Int) {A:List Int},A ∈ bN L->A.Sublist L:=by
 refine lT ?_ ?_
 ·intro A h; rw [show bN [] = [[]] from rfl,bd1] at h; rw [h]; exact List.Sublist.refl _
 intro L x ih
 intro A h
 rw [lQ] at h
 rcases bf0.mp h with h | h
 ·exact (ih h).trans (List.sublist_append_left _ _)
 ·obtain ⟨B,hB,rfl⟩:=bj1.mp h
  exact (ih hB).append (List.Sublist.refl _)
theorem pI {L A:List Int} (h:A ∈ bN L):A.Sublist L:=aR7 L h
theorem Y2:∀ (L:List Int),(bN L).length=2 ^ L.length:=by
 refine lT ?_ ?_
 ·rfl
 intro L x ih
 rw [lQ,bc0,bc4,ih,bc0]; show _=2 ^ (L.length+1); rw [Nat.pow_succ]; omega
theorem aR8:∀ (L:List Int),(bN L)[0]? = some []:=by
 refine lT ?_ ?_
 ·rfl
 intro L x ih
 have:0 < (bN L).length:=by rw [Y2]; exact Nat.two_pow_pos _
 rw [lQ,bk1 this]; exact ih
theorem aR9:∀ (L:List Int),L.Pairwise (· < ·)->∀ (p:Nat) (A:List Int),(bN L)[p]? = some A->∀ h ∈ L,h ∉ A->∃ q:Nat,p < q/\(bN L)[q]? = some (dM h A):=by
 refine lT ?_ ?_
 ·intro _ p A _ h hh; cases hh
 intro L x ih
 intro up p A hA h hh hn
 obtain ⟨u1,u2,u3⟩:=bo2.mp up
 rw [lQ] at hA ⊢
 have last:∀ {B:List Int},B.Sublist L->B.Pairwise (· <= ·)/\∀ y ∈ B,y < x:=fun {B} sb=>⟨(u1.sublist sb).imp fun h=>by omega,fun y hy=>u3 y (sb.subset hy) x bd0⟩
 by_cases hp:p < (bN L).length
 ·rw [bk1 hp] at hA
  have sb:=pI (be1 hA)
  rcases bf0.mp hh with hh | hh
  ·obtain ⟨q,h1,h2⟩:=ih u1 p A hA h hh hn
   exact⟨q,h1,by rw [bk1 (bc6.mp h2).1]; exact h2⟩
  ·rw [bd1] at hh
   subst hh
   obtain ⟨l1,l2⟩:=last sb
   refine⟨(bN L).length+p,by omega,?_⟩
   rw [bk7 (by omega),Nat.add_sub_cancel_left,bc9,hA]
   show some (A ++ [h])=some (dM h A)
   rw [y8 l1 (bq2 _) (bo2.mpr ⟨l1,bf8 _ _,fun a ha b hb=>by rw [bd1] at hb; have:=l2 a ha; omega⟩)]
 ·rw [bk7 (by omega),bc9] at hA
  cases hB:(bN L)[p - (bN L).length]? with
  | none=>rw [hB] at hA; cases hA
  | some B=>
   rw [hB] at hA
   have hA:B ++ [x]=A:=be8 hA
   subst hA
   have sb:=pI (be1 hB)
   rcases bf0.mp hh with hh | hh
   ·obtain ⟨q,h1,h2⟩:=ih u1 _ B hB h hh (fun z=>hn (bg3 _ z))
    refine⟨(bN L).length+q,by omega,?_⟩
    rw [bk7 (by omega),Nat.add_sub_cancel_left,bc9,h2]
    show some (dM h B ++ [x])=some (dM h (B ++ [x]))
    obtain ⟨l1,l2⟩:=last sb
    have hx:=u3 h hh x bd0
    refine congrArg some (y8 (h:=h) (A:=B ++ [x]) ?_ ?_ ?_)
    ·exact bo2.mpr ⟨l1,bf8 _ _,fun a ha b hb=>by rw [bd1] at hb; have:=l2 a ha; omega⟩
    ·refine ((lS h B).append_right [x]).trans ?_
     rw [bf5,bf5]
     exact bn5 B List.perm_append_comm
    ·exact bo2.mpr ⟨tE h l1,bf8 _ _,fun a ha b hb=>by
      rw [bd1] at hb
      rcases bf0.mp ((lS h B).mem_iff.mp ha) with ha | ha
      ·have:=l2 a ha; omega
      ·rw [bd1] at ha; omega⟩
   ·rw [bd1] at hh
    subst hh
    exact absurd (bd9 _ bd0) hn
theorem Y3 {L:List Int} (up:L.Pairwise (· < ·)) (p:Nat) (A:List Int) (hA:(bN L)[p]? = some A) (h:Int) (hh:h ∈ L) (hn:h ∉ A):∃ q:Nat,p < q/\(bN L)[q]? = some (dM h A):=aR9 L up p A hA h hh hn
def Wt (ab:List Int->List Int):Nat->List Int->Int
 | 0,_=>1
 | k+1,A=>if ab A = [] then 1 else ((ab A).map fun h=>Wt ab k (dM h A)).sum
def gW (ab:List Int->List Int) (k:Nat) (A:List Int):List (Int × Int):=(ab A).map fun h=>(h,Wt ab (k - 1) (dM h A))
def lU (ps:List (Int × Int)):Int:=if ps = [] then 1 else (ps.map (·.2)).sum
theorem tF {ab:List Int->List Int}{k:Nat}{A:List Int} (h:k=0->ab A = []):lU (gW ab k A)=Wt ab k A:=by
 unfold lU gW
 cases k with
 | zero=>rw [h rfl]; rfl
 | succ k=>
  show _=if ab A = [] then 1 else _
  by_cases e:ab A = []
  ·rw [e]; rfl
  ·rw [if_neg (fun z=>e (List.map_eq_nil_iff.mp z)),if_neg e,bk5]; rfl
def jQ:bF:=fun xs Q=>∃ x ns,xs = [x]/\bS x ns/\ns.length < 64/\∀ ms:List Int,ms.Perm ns->ms.Pairwise (· <= ·)->Q (.tup (intz ms))
def Y4:aH:=(bC (aB e9 (a6 (aB p9 (a6 (a5 0) a9)) a9)))
theorem aS0:cU Y4 ["row"] jQ:=by
 rintro xs Q ⟨x,ns,rfl,hx,hl,q⟩
 exact⟨_,rfl,_,ns,rfl,hx.seq,hl,fun ms pm sm=>⟨⟨_,_,rfl,rfl,bP _,trivial,q ms pm sm⟩,fun _ z=>by cases z⟩⟩
def kK:bF:=fun xs Q=>∃ ps:List (Int × Int),xs = [.lst (dL ps)]/\ps.length<=1000/\Q (.int (lU ps))
def Y5:aH:=(aG (bL (jE (oP (a5 0))) (bC (qC (.int 1))) cC)
 (bC (aB sE (a6 (cG (dE (a5 0)) [none,none] (i5 0 1) dO (a5 1)) a9))))
theorem yA {ps:List (Int × Int)}{i:Nat}{y:PV} (h:(dL ps)[i]? = some y):∃ p:Int × Int,y = .tup [.int p.1,.int p.2]/\ps[i]? = some p:=by
 unfold dL at h
 rw [bc9] at h
 cases e:ps[i]? with
 | none=>rw [e] at h; cases h
 | some p=>rw [e] at h; cases h; exact⟨p,rfl,rfl⟩
theorem pJ (ps:List (Int × Int)):(dL ps).length=ps.length:=bc4 ..
theorem aS1:cU Y5 ["choices"] kK:=by
 rintro xs Q ⟨ps,rfl,hl,q⟩
 refine⟨_,rfl,_,rfl,?_⟩
 show if (!!(dL ps).isEmpty)=true then _ else _
 cases ps with
 | nil=>exact aV ⟨trivial,q⟩
 | cons p r=>
  refine aR ?_
  have e:lU (p :: r)=((p :: r).map (·.2)).sum:=by unfold lU; rw [if_neg (by simp)]
  rw [e] at q
  generalize p :: r=ps at q hl
  refine⟨_,rfl,_,rfl,(fun z=>by cases z),by rw [pJ]; omega,fun i acc=>acc=intz ((ps.take i).map (·.2)),rfl,?_,?_⟩
  ·rintro i y acc hy rfl
   obtain ⟨p,rfl,hp⟩:=yA hy
   refine⟨_,_,rfl,_,rfl,trivial,?_⟩
   dsimp only
   rw [bf9,hp,be7,cT]; rfl
  rintro acc rfl
  rw [pJ,bf1]
  exact⟨_,_,rfl,rfl,trivial,q⟩
theorem Y6 {ws:List Int}{ls:List (Int × Int)}{S T:List Int} (e:∀ x,x ∈ S ↔ x ∈ T) (h:Int):kin ws ls S h=kin ws ls T h:=by
 unfold kin
 have:(fun x=>decide (x ∈ S))=fun x=>decide (x ∈ T):=funext fun x=>decide_eq_decide.mpr (e x)
 rw [this,decide_eq_decide.mpr (e h)]
def cH (ws:List Int) (ls:List (Int × Int)) (ns L:List Int):Prop:=∃ k,pB ws ls (rng ws.length) ns k/\L.Perm (cV ws ls (rng ws.length) ns k)/\L.Pairwise (· <= ·)
noncomputable def cK (ws:List Int) (ls:List (Int × Int)) (ns L A:List Int):List Int:=L.filter (kin ws ls (ns ++ A))
section
variable {ws : List Int} {ls : List (Int × Int)} {ns L : List Int}
theorem cH.nd (h:cH ws ls ns L) (hs:aW ws.length ns=true):(ns ++ L).Nodup/\∀ x ∈ ns ++ L,x ∈ rng ws.length:=by
 obtain ⟨k,en,p,so⟩:=h
 have ok:=xG (ws:=ws) (ls:=ls) (ns:=ns) (bq2 (rng ws.length)) hs k
 have pp:=bn5 ns p
 exact⟨pp.nodup_iff.mpr ok.1,fun x hx=>ok.2 x (pp.mem_iff.mp hx)⟩
theorem cH.up (h:cH ws ls ns L) (hs:aW ws.length ns=true):L.Pairwise (· < ·):=by
 have nd:=(bg7.mp (h.nd hs).1).2.1
 obtain ⟨k,en,p,so⟩:=h
 exact (so.and nd).imp fun {a b} h=>by have:=h.1; have:=h.2; omega
theorem cH.shut (h:cH ws ls ns L):eO ws ls (ns ++ L):=by
 obtain ⟨k,en,p,so⟩:=h
 intro x hx
 have:=List.find?_eq_none.mp en.2 x hx
 have e:kin ws ls (ns ++ L) x=kin ws ls (ns ++ cV ws ls (rng ws.length) ns k) x:=Y6 (fun y=>(bn5 ns p).mem_iff) x
 rw [e]
 simpa using this
theorem cH.uniq {L':List Int} (h:cH ws ls ns L) (h':cH ws ls ns L'):L=L':=by
 obtain ⟨k,en,p,so⟩:=h
 obtain ⟨k',en',p',so'⟩:=h'
 obtain rfl:=aK0 en en'
 exact p6 (p.trans p'.symm) so so'
end
abbrev eC (A:List Int):List aC:=A.map Sum.inl
theorem pK (A:List Int):(eC A).map kP=intz A:=by
 rw [bk5]; rfl
theorem aS2 {A B:List Int} (h:eC A=eC B):A=B:=(List.map_inj_right fun _ _ e=>by cases e; rfl).mp h
def BR (ws:List Int) (ls:List (Int × Int)) (ns L:List Int) (ps:List (List aC × PV)):Prop:=∀ A ∈ bN L,bV ps (eC A)=some (.lst (dL (gW (cK ws ls ns L) (L.length - A.length) A)))
def kL:cX:=fun Ep xs Q=>∃ ws ls x ns,xs = [aZ ws ls,x]/\Wb ws ls/\bS x ns/\ns.length<=1000/\(aW ws.length ns=true->∀ L,cH ws ls ns L->(L.length<=12->∀ ps,BR ws ls ns L ps->Q (.dT ps))/\(12 < L.length->Ep "TooMany"))/\(aW ws.length ns=false->Ep "BadSet")
def Y7:aH:=(mP 4 (a5 5) (cG (dE (a5 7)) [none,some 4,some 5] (bK 0) dO (dB (a6 (a5 0) (a6 (aB kK (a6 (k6 (a5 1) (aB jQ (a6 (pA (a5 2) (dB (a6 (a5 0) a9))) a9))) a9)) a9)))))
def aS3:aH:=(aG (b5 6 (aB iD (a6 (pA (aB e9 (a6 (a5 1) a9)) (a5 5)) a9)))
  (aG (b5 7 (cG (dE (a5 2)) [none,some 0,some 3,some 6] (bK 0) (aU (aB iW (a6 (a5 1) (a6 (a5 2) (a6 (a5 3) (a6 (a5 0) a9)))))) (a5 0)))
  Y7))
def Y8 (Ep:Str->Prop):aH:=(aG (b5 2 (aB p9 (a6 (fF Ep t6 (a6 (a5 0) (a6 (a5 1) a9))) a9)))
 (aG (bL (aU (iO (aB bU (a6 (a5 2) a9)) (qC (.int 12)))) (lP Ep "TooMany" (a6 (qC (.str "orders of more than 12 hearths are not counted")) a9)) cC)
 (aG (b5 3 (aB jJ (a6 (a5 0) a9)))
 (aG (dI 4 (qC (.dT [])))
 (aG (dU (y3 (aB sZ (a6 (a5 2) a9))) (bK 5)
  aS3)
 (dJ 4))))))
theorem tG {ws:List Int}{ls:List (Int × Int)}{ns L A:List Int} (sb:A.Sublist L) (nd:L.Nodup) (e:L.length - A.length=0):cK ws ls ns L A = []:=by
 have el:A=L:=sb.eq_of_length_le (by omega)
 unfold cK
 rw [bm9]
 intro x hx
 rw [el]
 unfold kin
 rw [bd4 (bd9 _ hx)]
 simp
theorem aS4:gV Y8 ["web","seeds","later","around","branches","lit","burning","able"] kL:=by
 rintro Ep xs Q ⟨ws,ls,x,ns,rfl,wb,hx,hl,q,qe⟩
 have few:=wb.few
 refine⟨_,rfl,_,rfl,ws,ls,x,ns,rfl,wb,hx,hl,fun hs k en=>?_,qe⟩
 have ln:=xH (ls:=ls) (bq2 (rng ws.length)) hs k
 refine⟨_,_,rfl,rfl,by omega,fun L pL sL=>⟨trivial,?_⟩⟩
 have hL:cH ws ls ns L:=⟨k,en,pL,sL⟩
 obtain ⟨q0,q1⟩:=q hs L hL
 have lL:=pL.length_eq
 obtain ⟨nd,inn⟩:=hL.nd hs
 have up:=hL.up hs
 have ndL:L.Nodup:=(bg7.mp nd).2.1
 refine⟨_,rfl,_,_,rfl,rfl,_,_,rfl,rfl,_,rfl,?_⟩
 show if decide (((intz L).length:Int) > 12)=true then _ else _
 rw [aP]
 by_cases h12:(L.length:Int) > 12
 ·rw [bd4 h12]
  exact aV ⟨by show 1<=1000; decide,q1 (by omega)⟩
 rw [bc8 h12]
 have l12:L.length<=12:=by omega
 have q0:=q0 l12
 refine aR ?_
 refine⟨_,rfl,ws,ls,rfl,wb,trivial,?_⟩
 refine⟨rfl,rfl,?_⟩
 have sl:=Y2 L
 have p12:2 ^ L.length<=4096:=bg0 (Nat.pow_le_pow_right (by decide) l12) (by decide)
 refine⟨_,rfl,_,L,rfl,.inr rfl,l12,tups (bN L),rfl,(by intro z; cases z),fun i ρ=>∃ (ps:List (List aC × PV)) (y5 y6 y7:Option Slot),ρ = [some (.sh (flat (aZ ws ls)) (aZ ws ls)),some (.sh (flat x) x),some (.sh true (.lst (intz L))),some (.sh true (.lst (fY ws.length ls))),some (.own (.dT ps)),y5,y6,y7]/\ps.length<=i/\∀ (j:Nat) (A:List Int),(bN L)[j]? = some A->2 ^ L.length - i<=j->bV ps (eC A)=some (.lst (dL (gW (cK ws ls ns L) (L.length - A.length) A))),
  ⟨[],none,none,none,rfl,bc1 _,fun j A hA hj=>by have:=(bc6.mp hA).1; omega⟩,?_,?_⟩
 ·rintro i y ρ hy ⟨ps,y5,y6,y7,rfl,pl,inv⟩
  have il:i < (tups (bN L)).length:=by have:=(bc6.mp hy).1; rwa [bn2] at this
  rw [List.getElem?_reverse il] at hy
  rw [kE,sl] at il hy
  obtain ⟨A,rfl,hA⟩:=wZ hy
  have sb:=pI (be1 hA)
  have al:=sb.length_le
  have aUp:A.Pairwise (· <= ·):=(up.sublist sb).imp fun h=>by omega
  have subset:∀ x ∈ A,x ∈ L:=fun x hx=>sb.subset hx
  have nsl:ns.length+L.length<=ws.length:=by rw [lL]; exact ln
  refine⟨_,rfl,⟨_,_,rfl,hx.seqT,bP _,_,rfl,_,_,rfl,rfl,bP _,bP _,by rw [aP,aP]; omega,_,ns ++ A,rfl,.inl (by rw [cT]),by rw [bc0]; omega,fun bs ds=>⟨trivial,?_⟩⟩,hx.noscr⟩
  refine⟨_,rfl,_,rfl,(fun z=>by cases z),by rw [aP]; omega,fun j acc=>acc=intz ((L.take j).filter (kin ws ls (ns ++ A))),rfl,?_,?_⟩
  ·rintro j z acc hz rfl
   obtain ⟨h,rfl,hh⟩:=fB hz
   have tk:=lI (p:=kin ws ls (ns ++ A)) hh
   have hr:=iS.mp (inn h (bd9 _ (be1 hh)))
   refine⟨_,rfl,_,rfl,_,rfl,_,rfl,ws,ls,bs,ns ++ A,h,rfl,wb,ds,hr.1,hr.2,_,rfl,?_⟩
   cases hm:kin ws ls (ns ++ A) h with
   | true=>
    rw [hm] at tk
    refine aV ⟨_,rfl,trivial,?_⟩
    dsimp only
    rw [tk,cT]; rfl
   | false=>
    rw [hm] at tk
    refine aR ?_
    dsimp only
    rw [tk]; exact congrArg intz (be6 _).symm
  rintro acc rfl
  rw [aP,bf1]
  refine⟨trivial,?_⟩
  have abl:(cK ws ls ns L A).length<=L.length:=bl6 _ _
  have abm:∀ h ∈ cK ws ls ns L A,h ∈ L/\h ∉ A:=fun h hh=>by
   have:=bk8.mp hh
   refine⟨this.1,fun z=>?_⟩
   have k1:=this.2
   unfold kin at k1
   rw [bd4 (bd9 _ z)] at k1
   simp at k1
  have eb:gW (cK ws ls ns L) (L.length - A.length) A=(cK ws ls ns L A).map fun h=>(h,Wt (cK ws ls ns L) (L.length - A.length - 1) (dM h A)):=rfl
  show Y7 _ [some (.sh (flat (aZ ws ls)) (aZ ws ls)),some (.sh (flat x) x),some (.sh true (.lst (intz L))),some (.sh true (.lst (fY ws.length ls))),some (.own (.dT ps)),some (.sh true (.tup (intz A))),some (.sh true (.dK bs)),some (.sh true (.lst (intz (cK ws ls ns L A))))]
  refine⟨_,rfl,_,rfl,(fun z=>by cases z),by rw [aP]; omega,fun j acc=>acc=dL (((cK ws ls ns L A).take j).map fun h=>(h,Wt (cK ws ls ns L) (L.length - A.length - 1) (dM h A))),rfl,?_,?_⟩
  ·rintro j z acc hz rfl
   obtain ⟨h,rfl,hh⟩:=fB hz
   obtain ⟨hhL,hhA⟩:=abm h (be1 hh)
   obtain ⟨p,hp1,hp2⟩:=Y3 up _ A hA h hhL hhA
   refine⟨_,rfl,_,rfl,_,rfl,_,rfl,by show 1<=1000; decide,rfl,_,_,rfl,rfl,bP _,rfl,by rw [aP]; show A.length+1<=_; omega,_,A ++ [h],rfl,.inl (by rw [cT]; rfl),by rw [bc0]; show A.length+1 < _; omega,fun ms pm sm=>?_⟩
   obtain rfl:=y8 aUp pm sm
   have sb2:=pI (be1 hp2)
   have len2:=aR6 h A
   refine⟨_,.inr ⟨ps,eC (dM h A),rfl,by rw [pK],(inv p _ hp2 (by omega)).symm⟩,_,rfl,?_,?_⟩
   ·unfold gW
    rw [bc4]
    have:(cK ws ls ns L (dM h A)).length<=L.length:=bl6 _ _
    omega
   rw [tF (fun e=>tG sb2 ndL e),len2,show L.length - (A.length+1)=L.length - A.length - 1 by omega]
   refine⟨by show 2<=1000; decide,rfl,trivial,?_⟩
   dsimp only
   rw [bf9,hh,be7]
   unfold dL
   rw [be7]; rfl
  rintro acc rfl
  rw [aP,bf1]
  refine⟨ps,rfl,_,rfl,eC A,(by rw [pK]; rfl),trivial,by omega,cJ ps (eC A) _,some (.sh true (.tup (intz A))),some (.sh true (.dK bs)),some (.sh true (.lst (intz (cK ws ls ns L A)))),rfl,?_,fun j B hB hj=>?_⟩
  ·have:=rV ps (eC A) (PV.lst (dL ((cK ws ls ns L A).map fun h=>(h,Wt (cK ws ls ns L) (L.length - A.length - 1) (dM h A)))))
   omega
  ·rw [wX]
   by_cases e:eC B=eC A
   ·rw [if_pos e,aS2 e]; rfl
   ·rw [if_neg e]
    refine inv j B hB ?_
    have:j ≠ 2 ^ L.length - 1 - i:=fun z=>by
     rw [z,hA] at hB
     cases hB
     exact e rfl
    omega
 ·rintro ρ ⟨ps,y5,y6,y7,rfl,pl,inv⟩
  rw [bn2,kE,sl] at inv
  refine⟨_,rfl,trivial,q0 ps fun A hA=>?_⟩
  obtain ⟨j,hj⟩:=List.getElem?_of_mem hA
  exact inv j A hj (by omega)
theorem Y9 (L:List Int) : [] ∈ bN L:=be1 (aR8 L)
noncomputable def gX (ws:List Int) (ls:List (Int × Int)) (ns L:List Int):Int:=Wt (cK ws ls ns L) L.length []
def nJ:cX:=fun Ep xs Q=>∃ ws ls x ns,xs = [aZ ws ls,x]/\Wb ws ls/\bS x ns/\ns.length<=1000/\(aW ws.length ns=true->∀ L,cH ws ls ns L->(L.length<=12->Q (.int (gX ws ls ns L)))/\(12 < L.length->Ep "TooMany"))/\(aW ws.length ns=false->Ep "BadSet")
def Z0 (Ep:Str->Prop):aH:=(bC (aB kK (a6 (k6 (fF Ep kL (a6 (a5 0) (a6 (a5 1) a9))) (dB a9)) a9)))
theorem BR.nil {ws:List Int}{ls:List (Int × Int)}{ns L:List Int}{ps:List (List aC × PV)} (br:BR ws ls ns L ps):bV ps (eC [])=some (.lst (dL (gW (cK ws ls ns L) L.length []))):=br [] (Y9 L)
theorem tH {ws:List Int}{ls:List (Int × Int)}{ns L A:List Int}{k:Nat}:(gW (cK ws ls ns L) k A).length<=L.length:=by
 unfold gW
 rw [bc4]
 exact bl6 _ _
theorem aS5:gV Z0 ["web","seeds"] nJ:=by
 rintro Ep xs Q ⟨ws,ls,x,ns,rfl,wb,hx,hl,q,qe⟩
 refine⟨_,rfl,_,rfl,ws,ls,x,ns,rfl,wb,hx,hl,fun hs L hL=>⟨fun l12 ps br=>?_,(q hs L hL).2⟩,qe⟩
 refine⟨by decide,rfl,_,.inr ⟨ps,eC [],rfl,rfl,br.nil.symm⟩,_,rfl,by have:=tH (ws:=ws) (ls:=ls) (ns:=ns) (L:=L) (A:=[]) (k:=L.length); omega,trivial,?_⟩
 rw [tF (fun e=>tG (List.nil_sublist L) (bg7.mp (hL.nd hs).1).2.1 (by rw [e]; rfl))]
 exact (q hs L hL).1 l12
noncomputable def lV (ws:List Int) (ls:List (Int × Int)) (B:List Int):List Int:=(rng ws.length).filter (kin ws ls B)
theorem Z1 {ws:List Int}{ls:List (Int × Int)}{B:List Int}{h:Int} (k:kin ws ls B h=true):h ∉ B:=bl9 (oY k)
theorem aS6 {ws:List Int}{ls:List (Int × Int)}{ns L A B:List Int} (hL:cH ws ls ns L) (hs:aW ws.length ns=true) (sub:∀ x ∈ A,x ∈ L) (p:B.Perm (ns ++ A)):lV ws ls B=cK ws ls ns L A:=by
 obtain ⟨nd,inn⟩:=hL.nd hs
 have up:=hL.up hs
 unfold lV cK
 have e:kin ws ls B=kin ws ls (ns ++ A):=funext fun h=>Y6 (fun x=>p.mem_iff) h
 rw [e]
 refine p6 ?_ ((T7 _).filter _) ((up.imp fun h=>Int.le_of_lt h).filter _)
 refine (List.perm_ext_iff_of_nodup ((x9 _).filter _) ((bg7.mp nd).2.1.filter _)).mpr fun h=>?_
 rw [bk8,bk8]
 constructor
 ·rintro ⟨h1,h2⟩
  refine⟨?_,h2⟩
  by_cases hz:h ∈ ns ++ L
  ·rcases bf0.mp hz with hz | hz
   ·exact absurd (bg3 _ hz) (Z1 h2)
   ·exact hz
  ·have:=sC h2 (fun x hx=>by
    rcases bf0.mp hx with hx | hx
    ·exact bg3 _ hx
    ·exact bd9 _ (sub x hx)) hz
   rw [hL.shut h h1] at this; cases this
 ·rintro ⟨h1,h2⟩
  exact⟨inn h (bd9 _ h1),h2⟩
abbrev zw:List Int:=List.replicate 13 0
theorem Z2:Wb zw []:=⟨by decide,by decide,fun l hl=>by cases hl⟩
theorem aS7 (S:List Int) (h:Int):kin zw [] S h = !decide (h ∈ S):=by
 unfold kin
 have e:zw.getD h.toNat 0=0:=by
  rw [bd6,List.getElem?_replicate]
  split <;> rfl
 rw [e]
 have:decide ((0:Int)<=(((cQ [] h).filter fun x=>decide (x ∈ S)).length:Int))=true:=bd4 (by omega)
 rw [this,bq0]
theorem aS8 {ns L:List Int} (hL:cH zw [] ns L) (hs:aW 13 ns=true):ns.length+L.length=13:=by
 obtain ⟨nd,inn⟩:=hL.nd (ws:=zw) hs
 have h1:=nd.length_le_of_subset inn
 have h2:=(x9 13).length_le_of_subset (l₂:=ns ++ L) fun x hx=>by
  have:=hL.shut x hx
  rw [aS7] at this
  have this:decide (x ∈ ns ++ L)=true:=by
   cases hz:decide (x ∈ ns ++ L) with
   | true=>rfl
   | false=>rw [hz] at this; cases this
  exact bm8 this
 rw [gP,bc0] at h1
 rw [gP,bc0] at h2
 have:zw.length=13:=rfl
 omega
def dQ (O:List Int):List Int:=O.foldl (fun A h=>dM h A) []
theorem yB (O:List Int) (h:Int):dQ (O ++ [h])=dM h (dQ O):=by unfold dQ; rw [List.foldl_append]; rfl
theorem nK:∀ O:List Int,(dQ O).Perm O/\(dQ O).Pairwise (· <= ·):=by
 refine lT ⟨bq2 _,.nil⟩ ?_
 rintro O h ⟨i1,i2⟩
 rw [yB]
 exact⟨(lS h _).trans (i1.append_right [h]),tE h i2⟩
theorem yC {O ms:List Int} (p:ms.Perm O) (s:ms.Pairwise (· <= ·)):ms=dQ O:=p6 (p.trans (nK O).1.symm) s (nK O).2
theorem Z3 (O:List Int):(dQ O).length=O.length:=(nK O).1.length_eq
theorem aS9 {L:List Int} (up:L.Pairwise (· < ·)):∀ O:List Int,O.Nodup->(∀ x ∈ O,x ∈ L)->dQ O ∈ bN L:=by
 refine lT (fun _ _=>Y9 L) ?_
 intro O h ih nd sub
 obtain ⟨n1,_,n3⟩:=bg7.mp nd
 obtain ⟨p,hp⟩:=List.getElem?_of_mem (ih n1 fun x hx=>sub x (bg3 _ hx))
 have hn:h ∉ dQ O:=fun z=>n3 h ((nK O).1.mem_iff.mp z) h bd0 rfl
 obtain ⟨q,_,hq⟩:=Y3 up p _ hp h (sub h (bd9 _ bd0)) hn
 rw [yB]
 exact be1 hq
section
variable {ws : List Int} {ls : List (Int × Int)} {ns L : List Int}
theorem cH.sub (hL:cH ws ls ns L) (hs:aW ws.length ns=true) {R:List Int} (g:bE ws ls ns R=true):R.Nodup/\∀ x ∈ R,x ∈ L:=by
 obtain ⟨nd,inn⟩:=iY hs g
 obtain ⟨n1,n2,n3⟩:=bg7.mp nd
 refine⟨n2,fun x hx=>?_⟩
 rcases bf0.mp (nI hL.shut g (fun x hx=>bg3 _ hx) x (bd9 _ hx)) with h | h
 ·exact absurd rfl (n3 x h x hx)
 ·exact h
theorem cH.key (hL:cH ws ls ns L) (hs:aW ws.length ns=true) {R:List Int} (g:bE ws ls ns R=true):dQ R ∈ bN L:=aS9 (hL.up hs) R (hL.sub hs g).1 (hL.sub hs g).2
theorem Z4 (hL:cH ws ls ns L) (hs:aW ws.length ns=true) {R:List Int} (g:bE ws ls ns R=true):cK ws ls ns L (dQ R)=lV ws ls (ns ++ R):=
 (aS6 hL hs (fun x hx=>(hL.sub hs g).2 x ((nK R).1.mem_iff.mp hx)) (bn5 ns (nK R).1.symm)).symm
theorem aT0 {R:List Int}{h:Int} (g:bE ws ls ns R=true) (hh:h ∈ lV ws ls (ns ++ R)):bE ws ls ns (R ++ [h])=true:=by
 have hm:=bk8.mp hh
 have hr:=iS.mp hm.1
 rw [pH,g,hm.2]
 have:inB ws.length h=true:=by unfold inB; simp; omega
 rw [this]; rfl
theorem aT1 {R:List Int}:lV ws ls (ns ++ R) = [] ↔ eO ws ls (ns ++ R):=by
 unfold lV eO
 rw [bm9]
 exact⟨fun z h hh=>by simpa using z h hh,fun z h hh=>by rw [z h hh]; decide⟩
theorem aT2 (hL:cH ws ls ns L) (hs:aW ws.length ns=true) (A:List Int):(cK ws ls ns L A).Pairwise (· < ·):=(hL.up hs).filter _
noncomputable def cP (ws:List Int) (ls:List (Int × Int)) (ns L O:List Int):List (Int × Int):=gW (cK ws ls ns L) (L.length - O.length) (dQ O)
theorem BR.at (br:BR ws ls ns L ps) (hL:cH ws ls ns L) (hs:aW ws.length ns=true) {R:List Int} (g:bE ws ls ns R=true):bV ps (eC (dQ R))=some (.lst (dL (cP ws ls ns L R))):=by
 have:=br _ (hL.key hs g)
 rwa [Z3] at this
noncomputable def wO (ws:List Int) (ls:List (Int × Int)) (ns L O:List Int):Int:=Wt (cK ws ls ns L) (L.length - O.length) (dQ O)
theorem aT3 (hL:cH ws ls ns L) (hs:aW ws.length ns=true) {O:List Int} (g:bE ws ls ns O=true):lU (cP ws ls ns L O)=wO ws ls ns L O:=by
 unfold cP wO
 refine tF fun e=>tG (pI (hL.key hs g)) ((hL.up hs).imp fun h=>Int.ne_of_lt h) (by rw [Z3]; exact e)
theorem aT4 {O:List Int}{i:Nat}{p:Int × Int} (hp:(cP ws ls ns L O)[i]? = some p):(cK ws ls ns L (dQ O))[i]? = some p.1/\p.2=wO ws ls ns L (O ++ [p.1]):=by
 unfold cP gW at hp
 rw [bc9] at hp
 cases h:(cK ws ls ns L (dQ O))[i]? with
 | none=>rw [h] at hp; cases hp
 | some a=>
  rw [h] at hp
  cases hp
  refine⟨rfl,?_⟩
  unfold wO
  rw [yB,bc0]
  show Wt _ (L.length - O.length - 1) _=Wt _ (L.length - (O.length+1)) _
  rw [show L.length - (O.length+1)=L.length - O.length - 1 by omega]
noncomputable def kM (ws:List Int) (ls:List (Int × Int)) (ns L O:List Int) (h:Int):Int:=(((cP ws ls ns L O).filter fun p=>decide (p.1 < h)).map (·.2)).sum
noncomputable def iF (ws:List Int) (ls:List (Int × Int)) (ns L O:List Int):Nat->Int
 | 0=>0
 | i+1=>iF ws ls ns L O i+kM ws ls ns L (O.take i) (O.getD i 0)
noncomputable def kN (ws:List Int) (ls:List (Int × Int)) (ns L O:List Int):Int:=iF ws ls ns L O O.length
theorem Z5 (O R:List Int):∀ i,i<=O.length->iF ws ls ns L (O ++ R) i=iF ws ls ns L O i
 | 0,_=>rfl
 | i+1,h=>by
  show iF ws ls ns L (O ++ R) i+kM ws ls ns L ((O ++ R).take i) ((O ++ R).getD i 0)=iF ws ls ns L O i+kM ws ls ns L (O.take i) (O.getD i 0)
  rw [Z5 O R i (by omega),List.take_append_of_le_length (by omega)]
  congr 2
  rw [bd6,bd6,bk1 (by omega)]
theorem aT5 (O:List Int) (h:Int):kN ws ls ns L (O ++ [h])=kN ws ls ns L O+kM ws ls ns L O h:=by
 unfold kN
 rw [bc0]
 show iF ws ls ns L (O ++ [h]) O.length+kM ws ls ns L ((O ++ [h]).take O.length) ((O ++ [h]).getD O.length 0)=_
 rw [Z5 O [h] _ (bc1 _),List.take_append_of_le_length (bc1 _),bf1]
 congr 2
 rw [bd6,bk7 (bc1 _),Nat.sub_self]; rfl
theorem aT6 (hL:cH ws ls ns L) (hs:aW ws.length ns=true) {O:List Int}{i:Nat}{p:Int × Int} (hp:(cP ws ls ns L O)[i]? = some p):kM ws ls ns L O p.1=(((cP ws ls ns L O).take i).map (·.2)).sum:=by
 unfold kM
 congr 2
 have up:(cP ws ls ns L O).Pairwise fun a b=>a.1 < b.1:=by
  unfold cP gW
  rw [bl5]
  exact aT2 hL hs _
 generalize cP ws ls ns L O=C at hp up
 induction C generalizing i with
 | nil=>cases hp
 | cons c r ih=>
  obtain ⟨u1,u2⟩:=bp1.mp up
  cases i with
  | zero=>
   cases hp
   rw [bq3,bm9]
   intro x hx
   rcases bc5.mp hx with rfl | hx
   ·simp
   ·have:=u1 x hx; simp; omega
  | succ i=>
   rw [bf3] at hp
   have h1:=u1 p (be1 hp)
   rw [List.filter_cons,if_pos (bd4 h1),List.take_succ_cons,ih hp u2]
end
def tI:cX:=fun Ep xs Q=>∃ ws ls x ns,∃ num:Int,xs = [aZ ws ls,x,.int num]/\Wb ws ls/\bS x ns/\ns.length<=1000/\(aW ws.length ns=true->∀ L,cH ws ls ns L->(L.length<=12->((0<=num/\num < gX ws ls ns L)->∀ O,bE ws ls ns O=true->eO ws ls (ns ++ O)->kN ws ls ns L O=num->Q (.tup (intz O)))/\((num < 0 ∨ gX ws ls ns L<=num)->Ep "NoSuch"))/\(12 < L.length->Ep "TooMany"))/\(aW ws.length ns=false->Ep "BadSet")
def aT7:aH:=(dU (dE (k6 (a5 3) (aB jQ (a6 (a5 4) a9)))) (i5 6 7)
   (aG (bL (aU (lE (a5 5) (a5 7))) (aG (b5 4 (pA (a5 4) (dB (a6 (a5 6) a9))))
    vK) cC)
   (b5 5 (k7 (a5 5) (a5 7)))))
def Z6:aH:=(aG (mJ (oP (k6 (a5 3) (aB jQ (a6 (a5 4) a9))))
  aT7)
 (dJ 4))
def Z7 (Ep:Str->Prop):aH:=(aG (b5 3 (fF Ep kL (a6 (a5 0) (a6 (a5 1) a9))))
 (aG (bL (mF (aU (lE (a5 2) (qC (.int 0)))) (aU (oS (a5 2) (aB kK (a6 (k6 (a5 3) (dB a9)) a9))))) (lP Ep "NoSuch" (a6 (qC (.str "no order has this number")) a9)) cC)
 (aG (b5 4 (dB a9))
 (aG (b5 5 (a5 2))
 Z6))))
theorem aT8 {ws:List Int}{ls:List (Int × Int)}{ns L:List Int}{ps:List (List aC × PV)}{num:Int}{Q:PV->Prop}{Qn:Prop}{y0 y1 y2:Option Slot} (hL:cH ws ls ns L) (hs:aW ws.length ns=true) (l12:L.length<=12) (br:BR ws ls ns L ps) (n0:0<=num) (n1:num < gX ws ls ns L)
  (q:∀ O,bE ws ls ns O=true->eO ws ls (ns ++ O)->kN ws ls ns L O=num->Q (.tup (intz O))) :
  Z6 { nx:=fun _=>Qn,rt:=Q } [y0,y1,y2,some (.sh true (.dT ps)),some (.sh true (.tup (intz []))),some (.sh true (.int num)),none,none]:=by
 refine⟨fun m ρ=>∃ (O:List Int) (l:Int) (y6 y7:Option Slot),ρ = [y0,y1,y2,some (.sh true (.dT ps)),some (.sh true (.tup (intz O))),some (.sh true (.int l)),y6,y7]/\m=L.length - O.length/\bE ws ls ns O=true/\0<=l/\l < wO ws ls ns L O/\kN ws ls ns L O+l=num,⟨L.length,[],num,none,none,rfl,rfl,rfl,n0,n1,Int.zero_add _⟩,?_⟩
 rintro m ρ ⟨O,l,y6,y7,rfl,rfl,g,l0,l1,hnum⟩
 obtain ⟨ndO,subO⟩:=hL.sub hs g
 have ol:O.length<=L.length:=ndO.length_le_of_subset subO
 have clen:(cP ws ls ns L O).length<=L.length:=tH
 refine⟨_,rfl,_,rfl,_,O,rfl,.inl rfl,by omega,fun ms pm sm=>?_⟩
 obtain rfl:=yC pm sm
 refine⟨_,.inr ⟨ps,eC (dQ O),rfl,by rw [pK],(br.at hL hs g).symm⟩,_,rfl,?_⟩
 have cs:=aT3 hL hs g
 cases hC:(dL (cP ws ls ns L O)).isEmpty with
 | true=>
  refine aR ?_
  have cn:cP ws ls ns L O = []:=by
   cases h:cP ws ls ns L O with
   | nil=>rfl
   | cons a r=>rw [h] at hC; cases hC
  have an:cK ws ls ns L (dQ O) = []:=List.map_eq_nil_iff.mp cn
  rw [cn] at cs
  have w1:wO ws ls ns L O=1:=cs.symm
  refine⟨_,rfl,trivial,q O g ?_ (by omega)⟩
  rw [Z4 hL hs g] at an
  exact aT1.mp an
 | false=>
  refine aV ?_
  have cne:cP ws ls ns L O ≠ []:=fun z=>by rw [z] at hC; cases hC
  have tot:((cP ws ls ns L O).map (·.2)).sum=wO ws ls ns L O:=by rw [<- cs]; unfold lU; rw [if_neg cne]
  refine⟨_,rfl,_,rfl,_,O,rfl,.inl rfl,by omega,fun ms pm sm=>?_⟩
  obtain rfl:=yC pm sm
  refine⟨_,.inr ⟨ps,eC (dQ O),rfl,by rw [pK],(br.at hL hs g).symm⟩,_,rfl,(fun z=>by cases z),fun i ρ=>∃ y6 y7:Option Slot,ρ = [y0,y1,y2,some (.sh true (.dT ps)),some (.sh true (.tup (intz O))),some (.sh true (.int (l - (((cP ws ls ns L O).take i).map (·.2)).sum))),y6,y7]/\0<=l - (((cP ws ls ns L O).take i).map (·.2)).sum,⟨y6,y7,by rw [bq3,List.map_nil,List.sum_nil,Int.sub_zero],by rw [bq3,List.map_nil,List.sum_nil,Int.sub_zero]; exact l0⟩,?_,?_⟩
  ·rintro i y ρ hy ⟨z6,z7,rfl,inv⟩
   obtain ⟨p,rfl,hp⟩:=yA hy
   obtain ⟨hpa,hpw⟩:=aT4 hp
   have nx:(((cP ws ls ns L O).take (i+1)).map (·.2)).sum=(((cP ws ls ns L O).take i).map (·.2)).sum+p.2:=by
    rw [bf9,hp,be7,List.sum_append]
    show _+(p.2+0)=_
    omega
   have ls':=aT6 hL hs hp
   refine⟨_,_,rfl,?_⟩
   refine⟨_,rfl,_,rfl,_,_,rfl,rfl,_,rfl,?_⟩
   generalize (((cP ws ls ns L O).take i).map (·.2)).sum=s at inv nx ls'
   show if decide (l - s < p.2)=true then _ else _
   by_cases hlt:l - s < p.2
   ·rw [bd4 hlt]
    have pin:p.1 ∈ lV ws ls (ns ++ O):=by rw [<- Z4 hL hs g]; exact be1 hpa
    have g2:=aT0 g pin
    obtain ⟨nd2,sub2⟩:=hL.sub hs g2
    have o2:=nd2.length_le_of_subset sub2
    rw [bc0] at o2
    have o2:O.length+1<=L.length:=o2
    refine aV ⟨_,rfl,_,rfl,by show 1<=1000; decide,rfl,_,_,rfl,rfl,bP _,rfl,by rw [aP]; show O.length+1<=_; omega,trivial,L.length - (O ++ [p.1]).length,by rw [bc0]; show L.length - (O.length+1) < _; omega,O ++ [p.1],l - s,some (.sh true (.int p.1)),some (.sh true (.int p.2)),?_,rfl,g2,inv,by rw [<- hpw]; exact hlt,?_⟩
    ·rw [cT]; rfl
    ·rw [aT5,ls']; omega
   ·rw [bc8 hlt]
    refine aR ⟨_,rfl,_,rfl,_,_,rfl,rfl,trivial,some (.sh true (.int p.1)),some (.sh true (.int p.2)),?_,?_⟩
    ·dsimp only
     rw [nx,show l - (s+p.2)=l - s - p.2 by omega]; rfl
    ·rw [nx]; omega
  ·rintro ρ ⟨z6,z7,rfl,inv⟩
   rw [pJ,bf1,tot] at inv
   exfalso; omega
theorem aT9:gV Z7 ["web","seeds","number","branches","order","left","hearth","many"] tI:=by
 rintro Ep xs Q ⟨ws,ls,x,ns,num,rfl,wb,hx,hl,q,qe⟩
 refine⟨_,rfl,_,rfl,ws,ls,x,ns,rfl,wb,hx,hl,fun hs L hL=>⟨fun l12 ps br=>⟨trivial,?_⟩,(q hs L hL).2⟩,qe⟩
 obtain ⟨q0,q1⟩:=(q hs L hL).1 l12
 refine⟨_,rfl,_,_,rfl,rfl,_,rfl,?_⟩
 show if decide (num < 0)=true then _ else _
 by_cases h0:num < 0
 ·rw [bd4 h0]
  exact aV (aV ⟨by show 1<=1000; decide,q1 (.inl h0)⟩)
 rw [bc8 h0]
 refine aR ⟨_,rfl,_,rfl,by decide,rfl,_,.inr ⟨ps,eC [],rfl,rfl,br.nil.symm⟩,_,rfl,by have:=tH (ws:=ws) (ls:=ls) (ns:=ns) (L:=L) (A:=[]) (k:=L.length); omega,_,_,rfl,rfl,_,rfl,?_⟩
 rw [tF (fun e=>tG (List.nil_sublist L) (bg7.mp (hL.nd hs).1).2.1 (by rw [e]; rfl))]
 show if decide (num >= gX ws ls ns L)=true then _ else _
 by_cases h1:gX ws ls ns L<=num
 ·rw [bd4 h1]
  exact aV ⟨by show 1<=1000; decide,q1 (.inr h1)⟩
 ·rw [bc8 h1]
  refine aR ⟨by decide,rfl,trivial,_,rfl,trivial,?_⟩
  exact aT8 hL hs l12 br (by omega) (by omega) fun O=>q0 ⟨by omega,by omega⟩ O
theorem Z8 {ws:List Int}{ls:List (Int × Int)}{ns R:List Int} (hs:aW ws.length ns=true) (g:bE ws ls ns R=true) {m:Nat} (en:c7 ws ls ns m):ns.length+R.length=(b7 ws ls ns m).length ↔ eO ws ls (ns ++ R):=by
 constructor
 ·intro e
  have s2:eO ws ls (b7 ws ls ns m):=fun h hh=>by
   have:=bm9.mp (show (rng ws.length).filter (kin ws ls (b7 ws ls ns m)) = [] from en.2) h hh
   simpa using this
  have base:∀ y ∈ ns,∀ m,y ∈ b7 ws ls ns m:=fun y hy m=>by
   induction m with
   | zero=>exact hy
   | succ m ih=>exact bg3 _ ih
  obtain ⟨nd,inn⟩:=iY hs g
  have sub:∀ x ∈ ns ++ R,x ∈ b7 ws ls ns m:=nI s2 g fun y hy=>base y hy m
  intro h hh
  cases hk:kin ws ls (ns ++ R) h with
  | false=>rfl
  | true=>
   exfalso
   have hn:=Z1 hk
   by_cases hm:h ∈ b7 ws ls ns m
   ·have n2:(ns ++ R ++ [h]).Nodup:=bg7.mpr ⟨nd,bf8 _ _,fun x hx y hy w=>by rw [bd1] at hy; rw [w,hy] at hx; exact hn hx⟩
    have:=n2.length_le_of_subset (l₂:=b7 ws ls ns m) fun x hx=>by
     rcases bf0.mp hx with hx | hx
     ·exact sub x hx
     ·rw [bd1] at hx; rw [hx]; exact hm
    rw [bc0,bc0] at this
    have:ns.length+R.length+1<=_:=this
    omega
   ·have:=sC hk sub hm
    rw [s2 h hh] at this; cases this
 ·intro sh
  rw [<- bc0]
  exact (aQ5 hs g sh en).length_eq
def tJ:cX:=fun Ep xs Q=>∃ ws ls x ns y R,xs = [aZ ws ls,x,y]/\Wb ws ls/\bS x ns/\ns.length<=1000/\bS y R/\R.length<=1000/\(aW ws.length ns=true->∀ L,cH ws ls ns L->(L.length<=12->((bE ws ls ns R=true/\eO ws ls (ns ++ R))->Q (.int (kN ws ls ns L R)))/\(¬ (bE ws ls ns R=true/\eO ws ls (ns ++ R))->Ep "BadOrder"))/\(12 < L.length->Ep "TooMany"))/\(aW ws.length ns=false->Ep "BadSet")
def Z9:aH:=(aG (dU (sA (a5 2)) (i5 5 6)
  (aG (b5 7 (cG (dE (k6 (a5 3) (aB jQ (a6 (rC (a5 2) rA (rB (a5 5))) a9)))) [none,none,some 6] (i5 0 1) (aU (lE (a5 0) (a5 2))) (a5 1)))
  (b5 4 (eL (a5 4) (aB sE (a6 (a5 7) a9))))))
 (dJ 4))
def aa0 (Ep:Str->Prop):aH:=(aG (b5 3 (fF Ep kL (a6 (a5 0) (a6 (a5 1) a9))))
 (aG (bL (jE (aU (fF Ep t8 (a6 (a5 0) (a6 (a5 1) (a6 (a5 2) a9)))))) (lP Ep "BadOrder" (a6 (qC (.str "this is no order for the seeds")) a9)) cC)
 (aG (b5 4 (qC (.int 0)))
 Z9)))
theorem aU0 {ws:List Int}{ls:List (Int × Int)}{ns:List Int}:∀ {R:List Int},bE ws ls ns R=true->∀ i,bE ws ls ns (R.take i)=true:=by
 intro R
 refine lT (motive:=fun R=>bE ws ls ns R=true->∀ i,bE ws ls ns (R.take i)=true) (fun _ i=>by simp [bE]) ?_ R
 intro R h ih g i
 rw [pH,bd8] at g
 by_cases hi:i<=R.length
 ·rw [List.take_append_of_le_length hi]; exact ih g.1 i
 ·rw [bk3 (by rw [bc0]; show R.length+1<=i; omega),pH,bd8]; exact g
theorem aU1 {ws:List Int}{ls:List (Int × Int)}{ns L R:List Int}{ps:List (List aC × PV)}{y:PV}{Q:PV->Prop}{Qn:Prop}{y0 y1:Option Slot} (hL:cH ws ls ns L) (hs:aW ws.length ns=true) (l12:L.length<=12) (br:BR ws ls ns L ps) (hy:bS y R) (g:bE ws ls ns R=true) (q:Q (.int (kN ws ls ns L R))) :
  Z9 { nx:=fun _=>Qn,rt:=Q } [y0,y1,some (.sh (flat y) y),some (.sh true (.dT ps)),some (.sh true (.int 0)),none,none,none]:=by
 obtain ⟨ndR,subR⟩:=hL.sub hs g
 have rl:R.length<=L.length:=ndR.length_le_of_subset subR
 refine⟨_,rfl,intz R,hy.symm,(kD hy),fun i ρ=>∃ y5 y6 y7:Option Slot,ρ = [y0,y1,some (.sh (flat y) y),some (.sh true (.dT ps)),some (.sh true (.int (iF ws ls ns L R i))),y5,y6,y7],⟨none,none,none,rfl⟩,?_,?_⟩
 ·rintro i z ρ hz ⟨y5,y6,y7,rfl⟩
  obtain ⟨z,hz2,rfl⟩:=T1 hz
  obtain ⟨h,rfl,hh⟩:=fB hz2
  have il:=(bc6.mp hh).1
  have gt:=aU0 g i
  have tl:(R.take i).length<=12:=by rw [bh3]; omega
  refine⟨_,_,rfl,?_⟩
  have cut:bS (r9 y (fO (intz R) none (some (i:Int)))) (R.take i):=by
   rw [aN0 _ (by omega),bj9]
   rcases hy with rfl | rfl
   ·exact .inl rfl
   ·exact .inr rfl
  have clen:(cP ws ls ns L (R.take i)).length<=L.length:=tH
  refine⟨_,rfl,_,rfl,_,rfl,_,rfl,_,hy.seqT,bP _,_,R.take i,rfl,cut,by omega,fun ms pm sm=>?_⟩
  obtain rfl:=yC pm sm
  refine⟨_,.inr ⟨ps,eC (dQ (R.take i)),rfl,by rw [pK],(br.at hL hs gt).symm⟩,_,rfl,(fun z=>by cases z),by rw [pJ]; omega,fun j acc=>acc=intz ((((cP ws ls ns L (R.take i)).take j).filter fun p=>decide (p.1 < h)).map (·.2)),rfl,?_,?_⟩
  ·rintro j z acc hz rfl
   obtain ⟨p,rfl,hp⟩:=yA hz
   have tk:=lI (p:=fun p:Int × Int=>decide (p.1 < h)) hp
   refine⟨_,_,rfl,_,rfl,_,rfl,_,_,rfl,rfl,_,rfl,?_⟩
   show if decide (p.1 < h)=true then _ else _
   cases hm:decide (p.1 < h) with
   | true=>
    rw [hm] at tk
    refine aV ⟨_,rfl,trivial,?_⟩
    dsimp only
    rw [tk,be7,cT]; rfl
   | false=>
    rw [hm] at tk
    refine aR ?_
    dsimp only
    rw [tk]; simp
  rintro acc rfl
  rw [pJ,bf1]
  refine⟨trivial,_,rfl,_,rfl,_,_,rfl,rfl,_,_,rfl,rfl,trivial,some (.sh (l9 (Slot.sh (flat y) y).tag (intz R) || flat (.int (i:Int))) (.int (i:Int))),some (.sh (l9 (Slot.sh (flat y) y).tag (intz R) || flat (.int h)) (.int h)),some (.sh true (.lst (intz (((cP ws ls ns L (R.take i)).filter fun p=>decide (p.1 < h)).map (·.2))))),?_⟩
  have e:iF ws ls ns L R (i+1)=iF ws ls ns L R i+(((cP ws ls ns L (R.take i)).filter fun p=>decide (p.1 < h)).map (·.2)).sum:=by
   show iF ws ls ns L R i+kM ws ls ns L (R.take i) (R.getD i 0)=_
   rw [show R.getD i 0=h by rw [bd6,hh]; rfl]; rfl
  rw [e]; rfl
 ·rintro ρ ⟨y5,y6,y7,rfl⟩
  rw [s0,aP]
  exact⟨_,rfl,trivial,q⟩
theorem aU2:gV aa0 ["web","seeds","row","branches","number","turn","hearth","lesser"] tJ:=by
 rintro Ep xs Q ⟨ws,ls,x,ns,y,R,rfl,wb,hx,hl,hy,rl,q,qe⟩
 refine⟨_,rfl,_,rfl,ws,ls,x,ns,rfl,wb,hx,hl,fun hs L hL=>⟨fun l12 ps br=>⟨trivial,?_⟩,(q hs L hL).2⟩,qe⟩
 obtain ⟨q0,q1⟩:=(q hs L hL).1 l12
 refine⟨_,rfl,_,rfl,_,rfl,ws,ls,x,ns,y,R,rfl,wb,hx,hl,hy,rl,fun _=>⟨fun g=>?_,fun g m en=>?_⟩,qe⟩
 ·exact⟨_,rfl,aV ⟨by show 1<=1000; decide,q1 fun z=>by rw [g] at z; cases z.1⟩⟩
 ·by_cases sh:eO ws ls (ns ++ R)
  ·rw [bd4 ((Z8 hs g en).mpr sh)]
   exact⟨_,rfl,aR ⟨trivial,aU1 hL hs l12 br hy g (q0 ⟨g,sh⟩)⟩⟩
  ·rw [bc8 fun z=>sh ((Z8 hs g en).mp z)]
   exact⟨_,rfl,aV ⟨by show 1<=1000; decide,q1 fun z=>sh z.2⟩⟩
end Core
namespace PP
open PySem L2
section
variable {X : Cx} {σ : St} {H : Hp} {D : c7} {pos : Pos}
def yD (i:Nat):aH:=fun D ρ=>∃ xs y,ρ[i]? = some (some (.own (.lst (xs ++ [y]))))/\D.nx (ρ.set i (some (.own (.lst xs))))
theorem aU3 {i:Nat} (h:LS X (yD i) D σ H):jR (uI X.K "list" B5 (eF i)) D σ H:=by
 obtain ⟨W,ρ,D',px,⟨xs,y,hi,q⟩,k⟩:=h
 obtain ⟨v,ev,a,rfl,wa,us,ea,r⟩:=px.sl i _ hi
 obtain ⟨vs,w,rfl,r1,ry⟩:=r.snoc_inv
 refine⟨_,ev,kX (aN.of ea),a,_,w,rfl,rfl,ea,by simp,?_⟩
 rw [List.dropLast_concat]
 exact k.nx W σ _ _ (Ev.upd wa) (px.updL hi ev wa (r1.keep (.upd ea rfl fun b m=>⟨i4 wa m,m⟩))) q
theorem aU4 (i:Nat) {x:Str}{apos cpos xpos:Pos} (hN:X.N[i]? = some x:=by rfl) (hv:eD X.env.scope x:=by first | exact Or.inl rfl | exact Or.inr (Or.inl rfl) | exact Or.inr (Or.inr rfl)) (hd:(x == ("__debug__" : Str))=false:=by decide) (hcd:(x == ("__classdict__" : Str))=false:=by decide)
  (hbase:attributeBase (.Name x xpos) "pop" X.env (eval (.Name x xpos) X.env)=eval (.Name x xpos) X.env:=by rfl) (hline:(apos.endLine == cpos.line)=true:=by rfl)
  (hsw:swapsWith (.Call (.Attribute (.Name x xpos) "pop" apos) [] [] cpos) none pos.line X.env=pure false:=by rfl):QS X (.Expr (.Call (.Attribute (.Name x xpos) "pop" apos) [] [] cpos) pos) (yD i):=
 cO (j3 (B1 bk6 PySem.F.slot_list_pop PySem.F.type_list_pop am6 (fG hN hv hd hcd) hbase hline) hsw) fun _ _ _=>aU3
end
end PP
namespace Core
open PySem L2 PP
def fJ (ws:List Int) (ls:List (Int × Int)) (ns R:List Int):Prop:=bE ws ls ns R=true/\eO ws ls (ns ++ R)
section
variable {ws : List Int} {ls : List (Int × Int)} {ns R Y : List Int}
theorem aU5 (hs:aW ws.length ns=true) (h:fJ ws ls ns R) (h':fJ ws ls ns Y):R.length=Y.length:=by
 have p:(ns ++ R).Perm (ns ++ Y):=(List.perm_ext_iff_of_nodup (iY hs h.1).1 (iY hs h'.1).1).mpr fun x=>⟨fun hx=>nI h'.2 h.1 (fun y hy=>bg3 _ hy) x hx,fun hx=>nI h.2 h'.1 (fun y hy=>bg3 _ hy) x hx⟩
 have:=p.length_eq
 rw [bc0,bc0] at this
 omega
theorem aa1 (hs:aW ws.length ns=true) (h:fJ ws ls ns R) (e:R.length ≠ Y.length) : ¬ fJ ws ls ns Y:=fun z=>e (aU5 hs h z)
theorem aU6 (hs:aW ws.length ns=true) {x:Int} (hx:x ∈ Y) (b:x < 0 ∨ (ws.length:Int)<=x) : ¬ fJ ws ls ns Y:=fun z=>by
 have:=iS.mp ((iY hs z.1).2 x (bd9 _ hx))
 omega
theorem aa2 (hs:aW ws.length ns=true) (h : ¬ (ns ++ Y).Nodup) : ¬ fJ ws ls ns Y:=fun z=>h (iY hs z.1).1
end
theorem aa3 {ns R:List Int}{k:Nat}{x:Int} (hx:x ∈ ns ++ R) : ¬ (ns ++ (R.take k ++ [x] ++ R.drop k)).Nodup:=fun nd=>by
 have p:(ns ++ (R.take k ++ [x] ++ R.drop k)).Perm ((ns ++ R) ++ [x]):=by
  rw [bf5 ns R]
  refine bn5 ns ?_
  rw [bf5]
  have:(R.take k ++ ([x] ++ R.drop k)).Perm (R.take k ++ (R.drop k ++ [x])):=bn5 _ List.perm_append_comm
  rw [<- bf5 (R.take k) (R.drop k),bn4] at this
  exact this
 have:=bg7.mp (p.nodup_iff.mp nd)
 exact this.2.2 x hx x bd0 rfl
def tK:bF:=fun xs Q=>∃ ws ls ns R,∃ c:Int,xs = [aZ ws ls,.tup (intz ns),.lst (intz R),.int c]/\Wb ws ls/\(∀ l ∈ ls,l.1 ≠ l.2)/\aW ws.length ns=true/\fJ ws ls ns R/\R.length<=40/\∀ ys,ys.length<=41->¬ fJ ws ls ns ys->Q (.lst (intz ys))
def sq5:aH:=(jP 4 (a5 7) (cL (eV (a6 (i7 (qC (.int 1))) (a6 (a5 5) (a6 (k7 (i7 (qC (.int 1))) (a5 6)) (a6 (eL (a5 5) (a5 6)) a9))))) (bM (cR (a5 3) (qC (.int 97))) (qC (.int 4)))))
def aa4:aH:=(bL (aU (aB t9 (a6 (a5 0) (a6 (a5 1) (a6 (a5 4) a9))))) (yD 4) cC)
def sq4:aH:=(bL (i3 (aU (dW (a5 8) (qC (.int 3)))) (aU (iO (aB bU (a6 (a5 4) a9)) (qC (.int 1))))) (aG (b5 9 (bM (cR (a5 3) (qC (.int 97))) (aB bU (a6 (a5 4) a9))))
     (aG (b5 7 (bM (a5 7) (aB bU (a6 (a5 4) a9))))
     (aG (b5 10 (cL (a5 4) (a5 7)))
     (aG (oN 4 (a5 7) (cL (a5 4) (a5 9)))
     (aG (oN 4 (a5 9) (a5 10))
     aa4))))) sq5)
def sq3:aH:=(bL (i3 (aU (dW (a5 8) (qC (.int 2)))) (aU (iO (aB bU (a6 (a5 1) a9)) (qC (.int 0))))) (jP 4 (a5 7) (cL (a5 1) (bM (cR (a5 3) (qC (.int 97))) (aB bU (a6 (a5 1) a9))))) sq4)
def sq2:aH:=(bL (i3 (aU (dW (a5 8) (qC (.int 1)))) (aU (iO (aB bU (a6 (a5 4) a9)) (qC (.int 0))))) (jP 4 (a5 7) (cL (a5 4) (bM (cR (a5 3) (qC (.int 97))) (aB bU (a6 (a5 4) a9))))) sq3)
def sq1:aH:=(bL (i3 (aU (dW (a5 8) (qC (.int 0)))) (aU (iO (aB bU (a6 (a5 4) a9)) (qC (.int 0))))) (xY 4 (bM (a5 7) (aB bU (a6 (a5 4) a9)))) sq2)
def aa5:aH:=(aG (dI 4 (aB jY (a6 (a5 2) a9)))
 (aG (b5 5 (aB bU (a6 (cL (a5 0) (qC (.int 0))) a9)))
 (aG (b5 6 (bM (cR (a5 3) (qC (.int 1009))) (vZ (qC (.int 10)) (qC (.int 30)))))
 (aG (b5 7 (bM (cR (a5 3) (qC (.int 8))) (eL (aB bU (a6 (a5 4) a9)) (qC (.int 1)))))
 (aG (b5 8 (bM (a5 3) (qC (.int 5))))
 (aG sq1
 (dJ 4)))))))
theorem aU7:cU aa5 ["web","seeds","row","cell","some","many","far","spot","way","other","kept"] tK:=by
 rintro xs Q ⟨ws,ls,ns,R,c,rfl,wb,ne,hs,ho,hl,q⟩
 have few:=wb.few
 have nl:=nC hs
 have inR:=iY hs ho.1
 refine⟨_,rfl,_,_,rfl,rfl,bP _,rfl,bP _,?_⟩
 refine⟨_,rfl,_,_,_,rfl,rfl,rfl,_,_,rfl,rfl,trivial,?_⟩
 rw [aP]
 refine⟨_,rfl,_,_,rfl,rfl,⟨by decide,by decide⟩,_,_,rfl,rfl,⟨by decide,by decide,by decide⟩,_,_,rfl,rfl,(by show (0:Int) < 10 ^ (30:Int).toNat; decide),trivial,?_⟩
 dsimp only
 have f0:0<=c / 1009 % 10 ^ (30:Int).toNat:=bf2 _ (by decide)
 generalize c / 1009 % 10 ^ (30:Int).toNat=f at f0
 refine⟨_,rfl,_,_,rfl,rfl,⟨by decide,by decide⟩,_,rfl,_,_,rfl,rfl,_,_,rfl,rfl,_,_,rfl,rfl,by omega,trivial,?_⟩
 dsimp only
 rw [aP]
 have k0:0<=c / 8 % ((R.length:Int)+1):=bf2 _ (by omega)
 have k1:c / 8 % ((R.length:Int)+1) < (R.length:Int)+1:=bg2 _ (by omega)
 generalize c / 8 % ((R.length:Int)+1)=k at k0 k1
 obtain ⟨k,rfl⟩:∃ m:Nat,k=m:=⟨k.toNat,by omega⟩
 refine⟨_,rfl,_,_,rfl,rfl,(by show (0:Int) < 5; decide),trivial,?_⟩
 dsimp only
 generalize c % 5=w
 have fin:∀ (ys:List Int) (y7 y9 y10:Option Slot),ys.length<=41->¬ fJ ws ls ns ys->dJ 4 { nx:=fun _=>Q .non,rt:=Q } [some (.sh (flat (aZ ws ls)) (aZ ws ls)),some (.sh (flat (.tup (intz ns))) (.tup (intz ns))),some (.sh (flat (.lst (intz R))) (.lst (intz R))),si c,some (.own (.lst (intz ys))),si (ws.length:Nat),si f,y7,si w,y9,y10]:=fun ys y7 y9 y10 h1 h2=>⟨_,rfl,trivial,q ys h1 h2⟩
 have ins:∀ x:Int,¬ fJ ws ls ns (R.take k ++ [x] ++ R.drop k)->dJ 4 { nx:=fun _=>Q .non,rt:=Q } [some (.sh (flat (aZ ws ls)) (aZ ws ls)),some (.sh (flat (.tup (intz ns))) (.tup (intz ns))),some (.sh (flat (.lst (intz R))) (.lst (intz R))),si c,some (.own (.lst ((intz R).take k ++ PV.int x :: (intz R).drop k))),si (ws.length:Nat),si f,si k,si w,none,none]:=fun x hx=>by
  have e:(intz R).take k ++ PV.int x :: (intz R).drop k=intz (R.take k ++ [x] ++ R.drop k):=by
   unfold intz
   rw [be7,be7,List.map_take,List.map_drop,bf5]
   rfl
  rw [e]
  refine fin _ _ _ _ ?_ hx
  rw [bc0,bc0,bh3,bj5]
  show _+1+_<=41
  omega
 have s5:sq5 { nx:=dJ 4 { nx:=fun _=>Q .non,rt:=Q },rt:=Q } [some (.sh (flat (aZ ws ls)) (aZ ws ls)),some (.sh (flat (.tup (intz ns))) (.tup (intz ns))),some (.sh (flat (.lst (intz R))) (.lst (intz R))),si c,some (.own (.lst (intz R))),si (ws.length:Nat),si f,si k,si w,none,none]:=by
  have j0:0<=c / 97 % 4:=bf2 _ (by decide)
  have j1:c / 97 % 4 < 4:=bg2 _ (by decide)
  obtain ⟨x,at4,hv⟩:∃ x:Int,L2.atI [PV.int (-1),.int (ws.length:Int),.int (-1 - f),.int ((ws.length:Int)+f)] (c / 97 % 4)=some (.int x)/\(x < 0 ∨ (ws.length:Int)<=x):=by
   obtain ⟨z,h1,h2⟩:=S4 (a:=-1) (b:=(ws.length:Int)) (c:=-1 - f) (d:=(ws.length:Int)+f) j0 j1
   exact⟨z,h1,by rcases h2 with rfl | rfl | rfl | rfl <;> omega⟩
  refine⟨_,rfl,_,rfl,k,rfl,by rw [aP]; omega,by rw [aP]; omega,?_⟩
  refine⟨_,rfl,_,rfl,_,rfl,_,rfl,_,_,rfl,rfl,_,rfl,_,rfl,_,_,rfl,rfl,(by show 4<=1000; decide),rfl,?_⟩
  refine⟨_,rfl,_,_,rfl,rfl,⟨by decide,by decide⟩,_,_,rfl,rfl,(by show (0:Int) < 4; decide),?_⟩
  exact⟨_,_,_,rfl,rfl,at4,trivial,ins x (aU6 hs (x:=x) (by simp) hv)⟩
 have s4:sq4 { nx:=dJ 4 { nx:=fun _=>Q .non,rt:=Q },rt:=Q } [some (.sh (flat (aZ ws ls)) (aZ ws ls)),some (.sh (flat (.tup (intz ns))) (.tup (intz ns))),some (.sh (flat (.lst (intz R))) (.lst (intz R))),si c,some (.own (.lst (intz R))),si (ws.length:Nat),si f,si k,si w,none,none]:=by
  refine⟨_,rfl,.inl ⟨_,_,rfl,rfl,_,rfl,t4 ?_ (aR s5)⟩⟩
  refine⟨_,rfl,_,_,rfl,rfl,_,_,rfl,rfl,_,rfl,?_⟩
  show if decide (((intz R).length:Int) > 1)=true then _ else _
  rw [aP]
  by_cases h2:(1:Int) < R.length
  ·rw [bd4 h2]
   refine aV ⟨_,rfl,_,_,rfl,rfl,⟨by decide,by decide⟩,_,rfl,_,_,rfl,rfl,_,_,rfl,rfl,by rw [aP]; omega,trivial,?_⟩
   dsimp only
   rw [aP]
   have a0:0<=c / 97 % (R.length:Int):=bf2 _ (by omega)
   have a1:c / 97 % (R.length:Int) < (R.length:Int):=bg2 _ (by omega)
   generalize c / 97 % (R.length:Int)=a at a0 a1
   refine⟨_,rfl,_,rfl,_,_,rfl,rfl,_,_,rfl,rfl,by rw [aP]; omega,trivial,?_⟩
   dsimp only
   rw [aP]
   have j0:0<=(k:Int) % (R.length:Int):=bf2 _ (by omega)
   have j1:(k:Int) % (R.length:Int) < (R.length:Int):=bg2 _ (by omega)
   generalize (k:Int) % (R.length:Int)=j at j0 j1
   obtain ⟨j,rfl⟩:∃ m:Nat,j=m:=⟨j.toNat,by omega⟩
   obtain ⟨a,rfl⟩:∃ m:Nat,a=m:=⟨a.toNat,by omega⟩
   refine⟨_,rfl,_,rfl,_,_,_,rfl,rfl,lJ j0 j1,aL7 _ _,?_⟩
   refine⟨_,rfl,_,rfl,_,_,_,rfl,rfl,lJ a0 a1,_,rfl,_,rfl,_,j,rfl,?_,nD _ _,?_⟩
   ·unfold gF
    rw [aP,if_pos j0,if_pos j1,bj9]
   rw [show (intz R).set j (.int (R.getD (a:Int).toNat 0))=intz (R.set j (R.getD (a:Int).toNat 0)) from (List.map_set).symm]
   refine⟨_,rfl,_,rfl,_,rfl,_,a,rfl,?_,nD _ _,?_⟩
   ·unfold gF
    rw [aP,bg1,if_pos a0,if_pos a1,bj9]
   have e:∀ (Z:List Int) (y:Int),(intz Z).set a (.int y)=intz (Z.set a y):=fun Z y=>(List.map_set).symm
   show aa4 _ [_,_,_,_,some (.own (.lst ((intz (R.set j _)).set a (.int _)))),_,_,_,_,_,_]
   rw [e]
   generalize hZ:(R.set j (R.getD (a:Int).toNat 0)).set a _=Z
   have zl:Z.length=R.length:=by rw [<- hZ,bg1,bg1]
   refine⟨_,rfl,_,rfl,_,rfl,ws,ls,ns,Z,rfl,ne,wb.most,by omega,by omega,_,rfl,?_⟩
   cases hg:bE ws ls ns Z with
   | false=>exact aR (fin _ _ _ _ (by omega) fun z=>by have:=z.1; rw [hg] at this; cases this)
   | true=>
    have zne:Z ≠ []:=fun z=>by rw [z] at zl; simp at zl; omega
    have zs:=List.dropLast_concat_getLast zne
    have dl:Z.dropLast.length=R.length - 1:=by rw [List.length_dropLast,zl]
    refine aV ⟨intz Z.dropLast,.int (Z.getLast zne),?_,fin _ _ _ _ (by omega) (aa1 hs ho (by omega))⟩
    show some (some (Slot.own (.lst (intz Z))))=some (some (Slot.own (.lst (intz Z.dropLast ++ [PV.int (Z.getLast zne)]))))
    have:intz Z.dropLast ++ [PV.int (Z.getLast zne)]=intz (Z.dropLast ++ [Z.getLast zne]):=by rw [cT]; rfl
    rw [this,zs]
  ·rw [bc8 h2]
   exact aR s5
 have s3:sq3 { nx:=dJ 4 { nx:=fun _=>Q .non,rt:=Q },rt:=Q } [some (.sh (flat (aZ ws ls)) (aZ ws ls)),some (.sh (flat (.tup (intz ns))) (.tup (intz ns))),some (.sh (flat (.lst (intz R))) (.lst (intz R))),si c,some (.own (.lst (intz R))),si (ws.length:Nat),si f,si k,si w,none,none]:=by
  refine⟨_,rfl,.inl ⟨_,_,rfl,rfl,_,rfl,t4 ?_ (aR s4)⟩⟩
  refine⟨_,rfl,_,_,rfl,rfl,_,_,rfl,rfl,_,rfl,?_⟩
  show if decide (((intz ns).length:Int) > 0)=true then _ else _
  rw [aP]
  by_cases h2:(0:Int) < ns.length
  ·rw [bd4 h2]
   refine aV ⟨_,rfl,_,rfl,k,rfl,by rw [aP]; omega,by rw [aP]; omega,?_⟩
   refine⟨_,rfl,_,rfl,_,_,rfl,rfl,⟨by decide,by decide⟩,_,rfl,_,_,rfl,rfl,_,_,rfl,rfl,by rw [aP]; exact h2,?_⟩
   dsimp only
   rw [aP]
   have a0:0<=c / 97 % (ns.length:Int):=bf2 _ (by omega)
   have a1:c / 97 % (ns.length:Int) < (ns.length:Int):=bg2 _ h2
   refine⟨_,_,_,rfl,rfl,lJ a0 a1,nD _ _,ins _ (aa2 hs (aa3 (bg3 _ ?_)))⟩
   rw [bd6,bc2 (by omega)]
   exact bn7 _
  ·rw [bc8 h2]
   exact aR s4
 have s2:sq2 { nx:=dJ 4 { nx:=fun _=>Q .non,rt:=Q },rt:=Q } [some (.sh (flat (aZ ws ls)) (aZ ws ls)),some (.sh (flat (.tup (intz ns))) (.tup (intz ns))),some (.sh (flat (.lst (intz R))) (.lst (intz R))),si c,some (.own (.lst (intz R))),si (ws.length:Nat),si f,si k,si w,none,none]:=by
  refine⟨_,rfl,.inl ⟨_,_,rfl,rfl,_,rfl,t4 ?_ (aR s3)⟩⟩
  refine⟨_,rfl,_,_,rfl,rfl,_,_,rfl,rfl,_,rfl,?_⟩
  show if decide (((intz R).length:Int) > 0)=true then _ else _
  rw [aP]
  by_cases h2:(0:Int) < R.length
  ·rw [bd4 h2]
   refine aV ⟨_,rfl,_,rfl,k,rfl,by rw [aP]; omega,by rw [aP]; omega,?_⟩
   refine⟨_,rfl,_,rfl,_,_,rfl,rfl,⟨by decide,by decide⟩,_,rfl,_,_,rfl,rfl,_,_,rfl,rfl,by rw [aP]; exact h2,?_⟩
   dsimp only
   rw [aP]
   have a0:0<=c / 97 % (R.length:Int):=bf2 _ (by omega)
   have a1:c / 97 % (R.length:Int) < (R.length:Int):=bg2 _ h2
   refine⟨_,_,_,rfl,rfl,lJ a0 a1,nD _ _,ins _ (aa2 hs (aa3 (bd9 _ ?_)))⟩
   rw [bd6,bc2 (by omega)]
   exact bn7 _
  ·rw [bc8 h2]
   exact aR s3
 refine⟨_,rfl,.inl ⟨_,_,rfl,rfl,_,rfl,t4 ?_ (aR s2)⟩⟩
 refine⟨_,rfl,_,_,rfl,rfl,_,_,rfl,rfl,_,rfl,?_⟩
 show if decide (((intz R).length:Int) > 0)=true then _ else _
 rw [aP]
 by_cases h2:(0:Int) < R.length
 ·rw [bd4 h2]
  refine aV ⟨_,rfl,_,rfl,_,rfl,_,_,rfl,rfl,_,_,rfl,rfl,by rw [aP]; exact h2,?_⟩
  dsimp only
  rw [aP]
  have j0:0<=(k:Int) % (R.length:Int):=bf2 _ (by omega)
  have j1:(k:Int) % (R.length:Int) < (R.length:Int):=bg2 _ h2
  generalize (k:Int) % (R.length:Int)=j at j0 j1
  obtain ⟨j,rfl⟩:∃ m:Nat,j=m:=⟨j.toNat,by omega⟩
  refine⟨j,rfl,by omega,by omega,?_⟩
  rw [show (intz R).eraseIdx j=intz (R.eraseIdx j) from S3 PV.int R j]
  have el:(R.eraseIdx j).length=R.length - 1:=by rw [List.length_eraseIdx,if_pos (by omega)]
  exact fin _ _ _ _ (by omega) (aa1 hs ho (by omega))
 ·rw [bc8 h2]
  exact aR s2
abbrev sg (a b c d:Bool):PV:=.lst [.bl a,.bl b,.bl c,.bl d,.bl true]
def aa6 (w:Int) (y:PV):Prop:=(w=0/\∃ n:Int,y = .int n) ∨ (w=1/\∃ R,bS y R/\R.length<=1000) ∨ w=2
def kO:bF:=fun xs Q=>∃ (w:Int) (ws:List Int) (ls:List (Int × Int)) (x:PV) (ns:List Int) (y:PV),xs = [.int w,aZ ws ls,x,y]/\Wb ws ls/\bS x ns/\ns.length<=1000/\aa6 w y/\
 ((aW ws.length ns=false/\Q (sg false false true false)) ∨ (aW ws.length ns=true/\∀ L,cH ws ls ns L->(12 < L.length/\Q (sg false false false true)) ∨ (L.length<=12/\w=0/\(∃ n,y = .int n/\(n < 0 ∨ gX ws ls ns L<=n))/\Q (sg true false false false)) ∨ (L.length<=12/\w=1/\(∃ R,bS y R/\R.length<=1000/\¬ fJ ws ls ns R)/\Q (sg false true false false))))
def aa7:aH:=(aG (dI 4 (eV (a6 (kH "NoSuch" (a5 5)) (a6 (kH "BadOrder" (a5 5)) (a6 (kH "BadSet" (a5 5)) (a6 (kH "TooMany" (a5 5)) a9))))))
  (jX 4 (kH "ValueError" (a5 5))))
def aa8:aH:=(aG (dI 4 (eV a9))
 (aG (xN "HearthError" 5 (xK (aU (dW (a5 0) (qC (.int 0)))) (sF tI (a6 (a5 1) (a6 (a5 2) (a6 (a5 3) a9)))) (xK (aU (dW (a5 0) (qC (.int 1)))) (sF tJ (a6 (a5 1) (a6 (a5 2) (a6 (a5 3) a9)))) (sF nJ (a6 (a5 1) (a6 (a5 2) a9))))) aa7)
 (dJ 4)))
theorem aU8:cU aa8 ["way","web","seeds","what","signs","e"] kO:=by
 rintro xs Q ⟨w,ws,ls,x,ns,y,rfl,wb,hx,hl,hw,c⟩
 refine⟨by decide,rfl,rfl,rfl,?_⟩
 have go:∀ (n:Str) (a b c d:Bool),fQ n "HearthError" = some true->fQ n "NoSuch" = some a->fQ n "BadOrder" = some b->fQ n "BadSet" = some c->fQ n "TooMany" = some d->fQ n "ValueError" = some true->Q (sg a b c d)->fQ n "HearthError" = some true/\aa7 (xM { nx:=fun ρ=>(dJ 4) { nx:=fun _=>Q .non,rt:=Q } ρ,rt:=Q } 5) [some (.sh true (.int w)),some (.sh (flat (aZ ws ls)) (aZ ws ls)),some (.sh (flat x) x),some (.sh (flat y) y),some (.own (.lst [])),some (.sh true (.exc n))]:=fun n a b c d h0 h1 h2 h3 h4 h5 q=>by
  refine⟨h0,_,rfl,a,h1,_,rfl,b,h2,_,rfl,c,h3,_,rfl,d,h4,by show 4<=1000; decide,rfl,rfl,rfl,?_⟩
  exact⟨_,rfl,_,rfl,true,h5,trivial,(by show 4 < 16000000; decide),_,rfl,trivial,q⟩
 have bad:Q (sg false false true false)->_:=fun q=>go "BadSet" false false true false (by decide) (by decide) (by decide) (by decide) (by decide) (by decide) q
 have many:Q (sg false false false true)->_:=fun q=>go "TooMany" false false false true (by decide) (by decide) (by decide) (by decide) (by decide) (by decide) q
 have such:Q (sg true false false false)->_:=fun q=>go "NoSuch" true false false false (by decide) (by decide) (by decide) (by decide) (by decide) (by decide) q
 have ord:Q (sg false true false false)->_:=fun q=>go "BadOrder" false true false false (by decide) (by decide) (by decide) (by decide) (by decide) (by decide) q
 have noT:∀ {P:Prop},aW ws.length ns=false->aW ws.length ns=true->P:=fun {P} a b=>by rw [a] at b; cases b
 refine⟨_,rfl,.inl ⟨_,_,rfl,rfl,_,rfl,?_⟩⟩
 show if decide (w=0)=true then _ else _
 rcases hw with ⟨rfl,n,rfl⟩ | ⟨rfl,R,hR,rl⟩ | rfl
 ·refine aV ⟨_,rfl,_,rfl,_,rfl,ws,ls,x,ns,n,rfl,wb,hx,hl,fun hs L hL=>?_,fun hs=>?_⟩
  ·rcases c with ⟨c,_⟩ | ⟨_,c⟩
   ·exact noT c hs
   rcases c L hL with ⟨h12,q⟩ | ⟨l12,_,⟨m,e,hm⟩,q⟩ | ⟨_,z,_⟩
   ·exact⟨fun z=>by omega,fun _=>many q⟩
   ·cases e
    exact⟨fun _=>⟨fun z=>by omega,fun _=>such q⟩,fun z=>by omega⟩
   ·cases z
  ·rcases c with ⟨_,q⟩ | ⟨c,_⟩
   ·exact bad q
   ·exact noT hs c
 ·refine aR ⟨_,rfl,.inl ⟨_,_,rfl,rfl,_,rfl,?_⟩⟩
  refine aV ⟨_,rfl,_,rfl,_,rfl,ws,ls,x,ns,y,R,rfl,wb,hx,hl,hR,rl,fun hs L hL=>?_,fun hs=>?_⟩
  ·rcases c with ⟨c,_⟩ | ⟨_,c⟩
   ·exact noT c hs
   rcases c L hL with ⟨h12,q⟩ | ⟨_,z,_⟩ | ⟨l12,_,⟨R',hR',_,hno⟩,q⟩
   ·exact⟨fun z=>by omega,fun _=>many q⟩
   ·cases z
   ·have e:R=R':=by
     rcases hR with rfl | rfl <;> rcases hR' with h | h
     ·injection h with h; exact (List.map_inj_right fun _ _ e=>by cases e; rfl).mp h
     ·cases h
     ·cases h
     ·injection h with h; exact (List.map_inj_right fun _ _ e=>by cases e; rfl).mp h
    subst e
    exact⟨fun _=>⟨fun z=>absurd z hno,fun _=>ord q⟩,fun z=>by omega⟩
  ·rcases c with ⟨_,q⟩ | ⟨c,_⟩
   ·exact bad q
   ·exact noT hs c
 ·refine aR ⟨_,rfl,.inl ⟨_,_,rfl,rfl,_,rfl,?_⟩⟩
  refine aR ⟨_,rfl,_,rfl,ws,ls,x,ns,rfl,wb,hx,hl,fun hs L hL=>?_,fun hs=>?_⟩
  ·rcases c with ⟨c,_⟩ | ⟨_,c⟩
   ·exact noT c hs
   rcases c L hL with ⟨h12,q⟩ | ⟨_,z,_⟩ | ⟨_,z,_⟩
   ·exact⟨fun z=>by omega,fun _=>many q⟩
   ·cases z
   ·cases z
  ·rcases c with ⟨_,q⟩ | ⟨c,_⟩
   ·exact bad q
   ·exact noT hs c
def nL (a b c d:Bool):aE:=(eV (a6 (qC (.bl a)) (a6 (qC (.bl b)) (a6 (qC (.bl c)) (a6 (qC (.bl d)) (a6 (qC (.bl true)) a9))))))
theorem pM {a b c d:Bool}{A B:Prop}{ρ:bG} (h:B):(nL a b c d) ρ fun y g=>i8 2 true (sg a b c d) .fr y g fun x _=>∃ b,x = .bl b/\if b=true then A else B:=by
 refine⟨by show 5<=1000; decide,rfl,.inr ⟨_,_,rfl,rfl⟩,rfl,_,rfl,?_⟩
 cases a <;> cases b <;> cases c <;> cases d <;> exact aR h
def yE:bF:=S5
def aa9:aH:=(aG (dU (fW (qC (.int 3))) (bK 11)
  (aG (b5 12 (cL (xZ (a6 (a5 7) (a6 (a5 8) (a6 (a5 8) a9)))) (a5 11)))
  (aG (bL (aU (q2 (i8 2 true) (aB kO (a6 (a5 11) (a6 (a5 3) (a6 (a5 9) (a6 (a5 12) a9))))) (nL false false true false))) (bC (qC (.bl false))) cC)
  (aG (bL (aU (q2 (i8 2 true) (aB kO (a6 (a5 11) (a6 (a5 10) (a6 (dB a9) (a6 (a5 12) a9))))) (nL false false false true))) (bC (qC (.bl false))) cC)
  (bL (aU (q2 (i8 2 true) (aB kO (a6 (a5 11) (a6 (a5 10) (a6 (dB (a6 (qC (.int 13)) a9)) (a6 (a5 12) a9))))) (nL false false true false))) (bC (qC (.bl false))) cC)))))
 (bC (qC (.bl true))))
def aU9:aH:=(aG (b5 5 (aB (nJ fun _=>False) (a6 (a5 3) (a6 (a5 4) a9))))
 (aG (b5 6 (bM (cR (a5 2) (qC (.int 4))) (vZ (qC (.int 10)) (qC (.int 30)))))
 (aG (b5 7 (cL (eV (a6 (i7 (qC (.int 1))) (a6 (a5 5) (a6 (k7 (i7 (qC (.int 1))) (a5 6)) (a6 (eL (a5 5) (a5 6)) a9))))) (bM (a5 2) (qC (.int 4)))))
 (aG (bL (aU (q2 (i8 2 true) (aB kO (a6 (qC (.int 0)) (a6 (a5 3) (a6 (a5 4) (a6 (a5 7) a9))))) (nL true false false false))) (bC (qC (.bl false))) cC)
 (aG (b5 8 (aB tK (a6 (a5 3) (a6 (a5 4) (a6 (aB tD (a6 (a5 3) (a6 (a5 4) (a6 (a5 2) a9)))) (a6 (cR (a5 2) (qC (.int 4))) a9))))))
 (aG (bL (aU (q2 (i8 2 true) (aB kO (a6 (qC (.int 1)) (a6 (a5 3) (a6 (a5 4) (a6 (a5 8) a9))))) (nL false true false false))) (bC (qC (.bl false))) cC)
 (aG (b5 9 (aB sU (a6 (a5 4) (a6 (a5 1) (a6 (cR (a5 2) (qC (.int 4))) a9)))))
 (aG (b5 10 (dB (a6 (aE3 (dB (a6 (qC (.int 0)) a9)) (qC (.int 13))) (a6 (dB a9) a9))))
 aa9))))))))
def ab0:aH:=(aG (b5 1 (bM (aB lK (a6 (a5 0) (a6 (qC (.int 0)) a9))) (qC (.int 7))))
 (aG (b5 2 (aB lK (a6 (a5 0) (a6 (qC (.int 2)) a9))))
 (aG (b5 3 (aB sQ (a6 (rC (a5 0) (rB (qC (.int 3))) rA) (a6 (a5 1) (a6 (bM (aB lK (a6 (a5 0) (a6 (qC (.int 1)) a9))) (qC (.int 8))) a9)))))
 (aG (b5 4 (aB sR (a6 (cR (aB lK (a6 (a5 0) (a6 (qC (.int 1)) a9))) (qC (.int 8))) (a6 (a5 1) a9))))
 aU9))))
theorem aV0 {ws:List Int}{ls:List (Int × Int)}{Y ys:List Int}{num:Int}{y0 y1 y2 y4 y5 y6:Option Slot}{Q:PV->Prop} (wb:Wb ws ls) (yl:Y.length<=1000) (dl:ys.length<=1000) (dn:aW ws.length ys=false) (q:Q (.bl true)) :
  aa9 { nx:=fun _=>Q .non,rt:=Q } [y0,y1,y2,some (.sh true (aZ ws ls)),y4,y5,y6,some (.sh true (.int num)),some (.sh true (.lst (intz Y))),some (.sh true (.tup (intz ys))),some (.sh true (aZ zw [])),none,none]:=by
 refine⟨3,rfl,by decide,by decide,fun i ρ=>∃ y11 y12:Option Slot,ρ = [y0,y1,y2,some (.sh true (aZ ws ls)),y4,y5,y6,some (.sh true (.int num)),some (.sh true (.lst (intz Y))),some (.sh true (.tup (intz ys))),some (.sh true (aZ zw [])),y11,y12],⟨none,none,rfl⟩,?_,?_⟩
 ·rintro i z ρ hz ⟨y11,y12,rfl⟩
  obtain ⟨rfl,hi⟩:=iC hz
  have hi:i < 3:=hi
  refine lO ?_
  rw [Int.zero_add]
  obtain ⟨y,hy,wh⟩:∃ y,L2.atI [PV.int num,.lst (intz Y),.lst (intz Y)] (i:Int)=some y/\aa6 i y:=by
   rcases (show i=0 ∨ i=1 ∨ i=2 by omega) with rfl | rfl | rfl
   ·exact⟨_,rfl,.inl ⟨rfl,num,rfl⟩⟩
   ·exact⟨_,rfl,.inr (.inl ⟨rfl,Y,.inr rfl,yl⟩)⟩
   ·exact⟨_,rfl,.inr (.inr rfl)⟩
  refine⟨_,rfl,_,rfl,_,rfl,by show 3<=1000; decide,?_,_,rfl,_,_,y,rfl,rfl,hy,trivial,?_⟩
  ·intro p hp
   rcases bc5.mp hp with rfl | hp
   ·trivial
   rcases bc5.mp hp with rfl | hp
   ·trivial
   ·rw [bd1] at hp; rw [hp]; trivial
  refine⟨_,rfl,_,rfl,_,rfl,_,rfl,i,ws,ls,_,ys,y,rfl,wb,.inl rfl,dl,wh,.inl ⟨dn,pM ?_⟩⟩
  refine⟨_,rfl,_,rfl,by decide,rfl,_,rfl,i,zw,[],_,[],y,rfl,Z2,.inl rfl,by decide,wh,.inr ⟨by decide,fun L hL=>.inl ⟨?_,pM ?_⟩⟩⟩
  ·have:=aS8 hL (by decide)
   have:([]:List Int).length=0:=rfl
   omega
  refine⟨_,rfl,_,rfl,by show 1<=1000; decide,rfl,_,rfl,i,zw,[],_,[13],y,rfl,Z2,.inl rfl,by decide,wh,.inl ⟨by decide,pM ?_⟩⟩
  exact⟨_,_,rfl⟩
 ·rintro ρ ⟨y11,y12,rfl⟩
  exact⟨trivial,q⟩
theorem aV1:cU ab0 ["script","many","cell","web","seeds","count","far","number","row","odd","wide","way","what"] yE:=by
 rintro xs Q ⟨ns,rfl,hl,q⟩
 refine⟨_,rfl,_,ns,0,rfl,.inl rfl,by decide,_,_,rfl,rfl,(by show (0:Int) < 7; decide),trivial,?_⟩
 dsimp only
 have m0:0<=ns.getD (0:Int).toNat 0 % 7:=bf2 _ (by decide)
 have m1:ns.getD (0:Int).toNat 0 % 7 < 7:=bg2 _ (by decide)
 generalize ns.getD (0:Int).toNat 0 % 7=M at m0 m1
 refine⟨_,rfl,_,ns,2,rfl,.inl rfl,by decide,trivial,?_⟩
 generalize ns.getD (2:Int).toNat 0=c
 have hc:gS (r9 (.scr ns) (fO (intz ns) (some 3) none)) (ns.drop 3):=.inr (by show PV.lst (fO (intz ns) (some 3) none)=_; rw [xA ns (by decide)]; rfl)
 refine⟨_,rfl,_,rfl,_,rfl,bP _,_,rfl,_,rfl,_,ns,1,rfl,.inl rfl,by decide,_,_,rfl,rfl,(by show (0:Int) < 8; decide),_,_,M,_,rfl,hc,by rw [bj5]; omega,by omega,by omega,fun ws ls w=>⟨trivial,?_⟩⟩
 have wl:=w.many
 have wb:Wb ws ls:=w.wb (by omega)
 have ne:∀ l ∈ ls,l.1 ≠ l.2:=fun l hl=>by have:=w.inn l hl; omega
 refine⟨_,rfl,_,ns,1,rfl,.inl rfl,by decide,_,_,rfl,rfl,⟨by decide,by decide⟩,_,rfl,_,M,rfl,m0,by omega,fun S hS=>⟨trivial,?_⟩⟩
 have hs:aW ws.length S=true:=by rw [show ws.length=M.toNat by omega]; exact hS
 have sl:=nC hs
 have no:∀ {P:Prop},aW ws.length S=false->P:=fun {P} z=>by rw [hs] at z; cases z
 have len:∀ L,cH ws ls S L->L.length<=12:=fun L hL=>by
  have nd:=hL.nd hs
  have:=nd.1.length_le_of_subset nd.2
  rw [gP,bc0] at this
  omega
 refine⟨_,rfl,_,rfl,ws,ls,_,S,rfl,wb,.inl rfl,by omega,fun _ L hL=>⟨fun _=>⟨trivial,?_⟩,fun z=>by have:=len L hL; omega⟩,no⟩
 have l12:=len L hL
 refine⟨_,rfl,_,_,rfl,rfl,⟨by decide,by decide⟩,_,_,rfl,rfl,⟨by decide,by decide,by decide⟩,_,_,rfl,rfl,(by show (0:Int) < 10 ^ (30:Int).toNat; decide),trivial,?_⟩
 dsimp only
 have f0:0<=c / 4 % 10 ^ (30:Int).toNat:=bf2 _ (by decide)
 generalize c / 4 % 10 ^ (30:Int).toNat=f at f0
 have j0:0<=c % 4:=bf2 _ (by decide)
 have j1:c % 4 < 4:=bg2 _ (by decide)
 obtain ⟨num,at4,hv⟩:∃ x:Int,L2.atI [PV.int (-1),.int (gX ws ls S L),.int (-1 - f),.int (gX ws ls S L+f)] (c % 4)=some (.int x)/\(x < 0 ∨ gX ws ls S L<=x):=by
  obtain ⟨z,h1,h2⟩:=S4 (a:=-1) (b:=gX ws ls S L) (c:=-1 - f) (d:=gX ws ls S L+f) j0 j1
  exact⟨z,h1,by rcases h2 with rfl | rfl | rfl | rfl <;> omega⟩
 refine⟨_,rfl,_,rfl,_,rfl,_,rfl,_,_,rfl,rfl,_,rfl,_,rfl,_,_,rfl,rfl,(by show 4<=1000; decide),rfl,_,rfl,_,_,rfl,rfl,(by show (0:Int) < 4; decide),_,_,_,rfl,rfl,at4,trivial,?_⟩
 refine⟨_,rfl,_,rfl,_,rfl,0,ws,ls,_,S,_,rfl,wb,.inl rfl,by omega,.inl ⟨rfl,num,rfl⟩,.inr ⟨hs,fun L' hL'=>?_⟩⟩
 obtain rfl:=hL.uniq hL'
 refine .inr (.inl ⟨l12,rfl,⟨num,rfl,hv⟩,pM ?_⟩)
 refine⟨_,rfl,_,rfl,_,rfl,_,rfl,_,rfl,ws,ls,S,c,rfl,wb,ne,hs,fun R gR shR rl=>?_⟩
 refine⟨_,rfl,_,_,rfl,rfl,⟨by decide,by decide⟩,ws,ls,S,R,_,rfl,wb,ne,hs,⟨gR,shR⟩,rl,fun Y yl hY=>⟨trivial,?_⟩⟩
 refine⟨_,rfl,_,rfl,_,rfl,1,ws,ls,_,S,_,rfl,wb,.inl rfl,by omega,.inr (.inl ⟨rfl,Y,.inr rfl,by omega⟩),.inr ⟨hs,fun L' hL'=>?_⟩⟩
 obtain rfl:=hL.uniq hL'
 refine .inr (.inr ⟨l12,rfl,⟨Y,.inr rfl,by omega,hY⟩,pM ?_⟩)
 refine⟨_,rfl,_,rfl,_,rfl,_,_,rfl,rfl,⟨by decide,by decide⟩,S,M.toNat,c / 4,?_,hS,by omega,fun ys yl' yn=>⟨trivial,?_⟩⟩
 ·show [PV.tup (intz S),.int M,PV.int (c / 4)]=_
  rw [show ((M.toNat:Nat):Int)=M by omega]
 refine⟨by show 1<=1000; decide,rfl,_,_,rfl,rfl,rfl,(by simp),(by decide),(by decide),(by show 1<=10; decide),by decide,rfl,by show 2<=1000; decide,rfl,trivial,?_⟩
 exact aV0 wb (by omega) (by omega) (by rw [show ws.length=M.toNat by omega]; exact yn) q
end Core
namespace K_k45
open PySem PySem.W L2 PP Core
theorem _root_.L2.FnScope.au {N P:List Str}{s:Scope} (a:s.kind=.function:=by rfl) (b:s.isCoroutine=false:=by rfl) (c:s.isGenerator=false:=by rfl) (d:N.Nodup:=by decide +kernel) (e:N.take P.length=P:=by rfl) (f:∀ x∈P,s.names.lookup x=some .local∨s.names.lookup x=some .cell:=by decide +kernel) (g:∀ y∈s.names,y.2≠.free:=by decide +kernel):FnScope N P s:=⟨a,b,c,d,e,f,g⟩
def b4 (i:Nat):Stmt:=PySem.Challenge.pw_kindleweb_k45_orders_refused.main.body.getD i (.Pass ⟨0,0,0,0⟩)
structure FK (K:Frag) (n:Str) (i:Nat) (f:Addr) (d:FuncData):Prop where
 a:nsIn K mainGlobals n=some (some (.ref f))
 F:eS K n n (b4 i) f d
structure FM (K:Frag) (mg:Str->Option Value) (n:Str) (i:Nat) (f:Addr) (d:FuncData):Prop where
 F:eS K n n (b4 i) f d
 m:mg n=some (.ref f)
theorem FK.M {K:Frag}{mg:Str->Option Value}{n:Str}{i:Nat}{f:Addr}{d:FuncData}{h:Heap} (z:FK K n i f d) (X:K.In h) (G:h.Ns mainGlobals mg):FM K mg n i f d:=⟨z.F,mg_of X G z.a⟩
abbrev Hb (x:Str) (ps:List Str) (i:Nat):Prop:=∀ (kV doc pm:Value) (an:Option Addr) (cdv ct:Value) (us:List Value),us.length=ps.length->bindArgs (fnOf x x (iL (b4 i)) (dZ (b4 i)) (aS (b4 i)) .none kV doc pm an cdv ct) ⟨us,[]⟩=pure (ps.zip us)
theorem yF {A:Around}{k:Nat} (hr:c8 k A):A.units+3 < cLine:=by have:=hr.units; omega
section
variable {P : Program} {w : World} {K : Frag} {mg : Str → Option Value} {base : Heap} {f : Addr} {fd : FuncData} {k i : Nat} {x : Str} {ps N : List Str}
theorem Df.au {p:bF} (F:FM K mg x i f fd) (S:FnScope N ps (aS (b4 i))) (body:∀ (cdv:Value) (A:Around) (outer:List Env) (s:Shared) (H:Hp) (E:XK),c8 k (A.deeper (PyProof.Rows.envOfC x (aS (b4 i)) s.heap.objs.size f cdv))->∃ t,eZ (dA dG P w K mg base N x (aS (b4 i)) f cdv A outer s H E).nox (dZ (b4 i)) t/\∀ xs Q,p xs Q->t { nx:=fun _=>Q .non,rt:=Q } (eY N xs)) (hb:Hb x ps i:=by intro _ _ _ _ _ _ us hl; first | (obtain ⟨_,rfl⟩:=pE hl; rfl) | (obtain ⟨_,_,rfl⟩:=xS hl; rfl) | (obtain ⟨_,_,_,rfl⟩:=sN hl; rfl) | (obtain ⟨_,_,_,_,rfl⟩:=V3 hl; rfl) | (obtain ⟨_,_,_,_,_,rfl⟩:=us5 hl; rfl)) (len:∀ xs Q,p xs Q->xs.length=ps.length:=by intro xs Q h; repeat (first | (obtain ⟨rfl,_⟩:=h; rfl) | (obtain ⟨_,h⟩:=h))):Df P w K mg base (k+1) x ps p:=
 Df.of F.F F.m S hb len body
theorem bA.au {p:cX} (F:FM K mg x i f fd) (S:FnScope N ps (aS (b4 i))) (t:(Str->Prop)->aH) (rd:∀ Ep xs Q,p Ep xs Q->t Ep { nx:=fun _=>Q .non,rt:=Q } (eY N xs)) (body:∀ (cdv:Value) (A:Around) (outer:List Env) (s:Shared) (H:Hp) (E:XK) (Ep:Str->Prop),c8 k (A.deeper (PyProof.Rows.envOfC x (aS (b4 i)) s.heap.objs.size f cdv))->nA (dA (eB P w) P w K mg base N x (aS (b4 i)) f cdv A outer s H E) (EX K H Ep)->eZ (dA (eB P w) P w K mg base N x (aS (b4 i)) f cdv A outer s H E) (dZ (b4 i)) (t Ep)) (hb:Hb x ps i:=by intro _ _ _ _ _ _ us hl; first | (obtain ⟨_,rfl⟩:=pE hl; rfl) | (obtain ⟨_,_,rfl⟩:=xS hl; rfl) | (obtain ⟨_,_,_,rfl⟩:=sN hl; rfl) | (obtain ⟨_,_,_,_,rfl⟩:=V3 hl; rfl) | (obtain ⟨_,_,_,_,_,rfl⟩:=us5 hl; rfl)) (len:∀ Ep xs Q,p Ep xs Q->xs.length=ps.length:=by intro Ep xs Q h; repeat (first | (obtain ⟨rfl,_⟩:=h; rfl) | (obtain ⟨_,h⟩:=h))):bA P w K mg base (k+1) x ps p:=
 bA.of F.F F.m S hb t len rd body
end
section
variable {P : Program} {w : World} {K : Frag} {mg : Str → Option Value} {base : Heap} {f : Addr} {fd : FuncData}
theorem nd2:(["ahead","behind"]:List Str).Nodup:=by decide +kernel
abbrev ab1:Stmt:=b4 7
theorem scR:FnScope ["things"] ["things"] (aS ab1):=.au
theorem yG {ns:List Int}{i:Nat}{x y:V} (h1:(ns.map V.int)[i]? = some x) (h2:((ns.map V.int).drop 1)[i]? = some y):∃ p q:Int,x = .int p/\y = .int q/\(ns.zip (ns.drop 1))[i]? = some (p,q):=by
 rw [bc9] at h1
 rw [<- List.map_drop,bc9] at h2
 cases e1:ns[i]? with
 | none=>rw [e1] at h1; cases h1
 | some p=>
  cases e2:(ns.drop 1)[i]? with
  | none=>rw [e2] at h2; cases h2
  | some q=>
   rw [e1] at h1; rw [e2] at h2
   exact⟨p,q,(be8 h1).symm,(be8 h2).symm,List.getElem?_zip_eq_some.mpr ⟨e1,e2⟩⟩
theorem aV2 (B:Bt mg) (F:eS K "rises" "rises" ab1 f fd):cW P w K mg base dG 1 f fd ["things"] (R7 K):=by
 refine F.ok scR (fun vs H Q E h=>?_) (fun cdv A outer s H vs Q E hr h=>?_)
 ·obtain ⟨a,ns,rfl,_⟩:=h
  rfl
 obtain ⟨a,ns,rfl,hS,hn,q⟩:=h
 have lz:((ns.map V.int).drop 1).length<=sizeLine:=bi2 (hU (by rw [bj5,bc4]; omega))
 have lz2:((ns.map V.int).drop 1).length<=(ns.map V.int).length:=by rw [bj5]; omega
 have lz3:(ns.zip (ns.drop 1)).length=((ns.map V.int).drop 1).length:=by rw [List.length_zip,bj5,bj5,bc4]; omega
 rcases hS with hS | hS
 ·refine⟨_,lX (lZ (pT (vB rfl) rfl B.all PyProof.Rows.boot_all (dD (E8 (N:=["ahead","behind"]) (fr:=[none,none]) rfl (cA.of rfl rfl) (as1 rfl B.zip (dD (pv 0) (dD (uB J4 (pv 0) (uA nO) u9) dY)))
   ⟨fun _ _ _ _=>show PG _ _ (iK K 2 (dR (bX 0) (dR (bX 1) iJ))) from m5 rfl (g9 (eR (i:=0) nd2 rfl (Or.inl rfl) (.inr rfl)) (g9 (eR (i:=1) nd2 rfl (Or.inl rfl) (.inr rfl)) m3)),fun _ _ _ _=>qF,fun _ _ _ _=>tX pQ (pv 0) (pv 1) (fR _)⟩) dY))),?_⟩
  refine⟨_,rfl,_,rfl,1,rfl,a,_,rfl,hS,fun p hp=>?_,fun e=>?_⟩
  ·have s1:=bB hp (.tup (eG (ns.map V.int) (some 1) none))
   have hb:aO K (upd H p (.tup (eG (ns.map V.int) (some 1) none))) p ((ns.map V.int).drop 1):=aO.of (by rw [b8,vE])
   refine⟨a,p,_,_,rfl,s1.tup hS,hb,vD (J3 (s1.tup hS) hb lz2) (fun i acc _=>acc=((ns.zip (ns.drop 1)).take i).map fun (p:Int × Int)=>V.bl (decide (p.1 < p.2))) lz (fun _ _=>rfl) (fun _ _ _ _ _ h=>h) (fun i x acc D H' hi hR c hP=>?_) (fun D acc H' hD sm hDa hlen hP=>?_)⟩
   ·obtain ⟨T,x1,y1,rfl,hT,h1,h2⟩:=hR
    obtain ⟨m,k,rfl,rfl,hz⟩:=yG h1 h2
    refine⟨T,_,rfl,aO.of hT,rfl,_,_,rfl,_,_,rfl,rfl,((Wk.refl _).set (i:=0) rfl).set (i:=1) rfl,qQ ⟨_,rfl,_,rfl,_,_,rfl,rfl,c.yes (aD.refl _) ?_⟩⟩
    rw [rQ hz,hP]
   ·refine⟨D,(ns.zip (ns.drop 1)).map fun (p:Int × Int)=>decide (p.1 < p.2),rfl,aN.of ?_,q _ (s1.trans sm)⟩
    rw [hDa,hP,<- lz3,bf1,bk5]; rfl
  ·have hb:aO K H a ((ns.map V.int).drop 1):=by
    have:(ns.map V.int).drop 1=ns.map V.int:=by rw [<- vE]; exact e
    rw [this]; exact hS
   refine⟨a,a,_,_,rfl,hS,hb,vD (J3 hS hb lz2) (fun i acc _=>acc=((ns.zip (ns.drop 1)).take i).map fun (p:Int × Int)=>V.bl (decide (p.1 < p.2))) lz (fun _ _=>rfl) (fun _ _ _ _ _ h=>h) (fun i x acc D H' hi hR c hP=>?_) (fun D acc H' hD sm hDa hlen hP=>?_)⟩
   ·obtain ⟨T,x1,y1,rfl,hT,h1,h2⟩:=hR
    obtain ⟨m,k,rfl,rfl,hz⟩:=yG h1 h2
    refine⟨T,_,rfl,aO.of hT,rfl,_,_,rfl,_,_,rfl,rfl,((Wk.refl _).set (i:=0) rfl).set (i:=1) rfl,qQ ⟨_,rfl,_,rfl,_,_,rfl,rfl,c.yes (aD.refl _) ?_⟩⟩
    rw [rQ hz,hP]
   ·refine⟨D,(ns.zip (ns.drop 1)).map fun (p:Int × Int)=>decide (p.1 < p.2),rfl,aN.of ?_,q _ sm⟩
    rw [hDa,hP,<- lz3,bf1,bk5]; rfl
 ·refine⟨_,lX (lZ (pT (vB rfl) rfl B.all PyProof.Rows.boot_all (dD (E8 (N:=["ahead","behind"]) (fr:=[none,none]) rfl (cA.of rfl rfl) (as7 rfl B.zip (dD (pv 0) (dD (uB A7 (pv 0) (uA nO) u9) dY)))
   ⟨fun _ _ _ _=>show PG _ _ (iK K 2 (dR (bX 0) (dR (bX 1) iJ))) from m5 rfl (g9 (eR (i:=0) nd2 rfl (Or.inl rfl) (.inr rfl)) (g9 (eR (i:=1) nd2 rfl (Or.inl rfl) (.inr rfl)) m3)),fun _ _ _ _=>qF,fun _ _ _ _=>tX pQ (pv 0) (pv 1) (fR _)⟩) dY))),?_⟩
  refine⟨_,rfl,_,rfl,1,rfl,a,_,rfl,hS,fun p hp=>?_⟩
  have s1:=bB hp (.lst (eG (ns.map V.int) (some 1) none))
  have hb:aN K (upd H p (.lst (eG (ns.map V.int) (some 1) none))) p ((ns.map V.int).drop 1):=aN.of (by rw [b8,vE])
  refine⟨a,p,_,_,rfl,s1.seq hS,hb,vD (as8 (s1.seq hS) hb lz2) (fun i acc _=>acc=((ns.zip (ns.drop 1)).take i).map fun (p:Int × Int)=>V.bl (decide (p.1 < p.2))) lz (fun _ _=>rfl) (fun _ _ _ _ _ h=>h) (fun i x acc D H' hi hR c hP=>?_) (fun D acc H' hD sm hDa hlen hP=>?_)⟩
  ·obtain ⟨T,x1,y1,rfl,hT,h1,h2⟩:=hR
   obtain ⟨m,k,rfl,rfl,hz⟩:=yG h1 h2
   refine⟨T,_,rfl,aO.of hT,rfl,_,_,rfl,_,_,rfl,rfl,((Wk.refl _).set (i:=0) rfl).set (i:=1) rfl,qQ ⟨_,rfl,_,rfl,_,_,rfl,rfl,c.yes (aD.refl _) ?_⟩⟩
   rw [rQ hz,hP]
  ·refine⟨D,(ns.zip (ns.drop 1)).map fun (p:Int × Int)=>decide (p.1 < p.2),rfl,aN.of ?_,q _ (s1.trans sm)⟩
   rw [hDa,hP,<- lz3,bf1,bk5]; rfl
abbrev ab2:Stmt:=b4 9
theorem tL:FnScope ["web","around","one","other"] ["web"] (aS ab2):=.au
theorem aV3 (F:eS K "near_lists" "near_lists" ab2 f fd):cW P w K mg base dG 1 f fd ["web"] R8:=by
 refine F.ok tL (fun vs H Q E h=>?_) (fun cdv A outer s H vs Q E hr h=>?_)
 ·obtain ⟨v,ws,ls,rfl,_⟩:=h
  rfl
 obtain ⟨v,ws,ls,rfl,W,hn,hm,hin,q⟩:=h
 refine⟨_,nQ (ap6 (i:=1) (N:=["want"]) (fr:=[none]) rfl (cA.of rfl rfl) (yX (o0 uE (pv 0) nO (fun _ _=>rfl)))
   ⟨fun _ _ _ _=>eR (i:=0) (bf8 _ _) rfl (Or.inl rfl) (.inr rfl),fun _ _ _ _=>qF,fun _ _ _ _=>u6 dY⟩ tL.nd rfl rfl rfl)
  (nQ (zB PassesOwn.never rfl (yX (o0 uE (pv 0) nO (fun _ _=>rfl))) (m5 (n:=2) rfl (g9 (eR (i:=2) tL.nd rfl (Or.inl rfl) (.inr rfl)) (g9 (eR (i:=3) tL.nd rfl (Or.inl rfl) (.inr rfl)) m3)) )
   (nQ (j3 (o7 bk6 PySem.F.slot_list_append PySem.F.type_list_append pW (o0 uD (pv 1) (pv 2) (fun _ _=>rfl)) (dD (pv 3) dY)))
   (lX (j3 (o7 bk6 PySem.F.slot_list_append PySem.F.type_list_append pW (o0 uD (pv 1) (pv 3) (fun _ _=>rfl)) (dD (pv 2) dY))))))
  (lX (lZ (pv 1)))),?_⟩
 obtain ⟨a,p,q',ys,rfl,ha,hp,hq,hL⟩:=W.at_
 have lw:(ws.map V.int).length=ws.length:=bc4 _
 refine⟨_,rfl,a,_,_,_,rfl,rfl,aO.of ha,rfl,p,rfl,⟨_,aO.of hp⟩,ap8 (ap7 (aO.of hp)) (fun i acc H'=>∃ bs:List Addr,acc=bs.map V.ref/\bs.length=i/\bs.Nodup/\∀ b ∈ bs,H b=none/\H' b=some (.lst [])) (by rw [lw]; exact bi2 (oA hn))
  (fun D hD=>⟨[],rfl,rfl,List.nodup_nil,fun _ z=>nomatch z⟩) (fun i x acc D H' hx c hPv=>?_) (fun D acc H' hD sm hDa hlen hPv=>?_)⟩
 ·obtain ⟨bs,rfl,hbl,nd,hb⟩:=hPv
  refine⟨wk0 (n:=none),qQ ⟨bh2 _,fun r hr'=>?_⟩⟩
  have hrD:r ≠ D:=fun z=>by rw [z,c.acc] at hr'; cases hr'
  have hrH:H r=none:=c.same.free hr'
  refine c.yes (bB hr' _) ⟨bs ++ [r],by simp,by simp [hbl],?_,fun b hm=>?_⟩
  ·refine bg7.mpr ⟨nd,bf8 _ _,fun b hb1 b' hb2 e=>?_⟩
   rw [bd1.mp hb2] at e
   rw [e] at hb1
   rw [(hb r hb1).2] at hr'; cases hr'
  ·rcases bf0.mp hm with hm | hm
   ·have hbD:b ≠ D:=fun z=>by
     rw [z] at hm
     have:=(hb D hm).2
     rw [c.acc] at this
     have:bs.map V.ref = []:=by injection this with e1; injection e1
     have:bs = []:=List.map_eq_nil_iff.mp this
     rw [this] at hm; simp at hm
    refine⟨(hb b hm).1,?_⟩
    rw [aL hbD,aL (cE (hb b hm).2 hr')]
    exact (hb b hm).2
   ·rw [bd1.mp hm]
    exact⟨hrH,by rw [aL hrD,b8]⟩
 ·obtain ⟨bs,rfl,hbl,nd,hb⟩:=hPv
  rw [lw] at hbl
  have R0:jC H H' D bs (fun k=>cQ (ls.take 0) k):=by
   refine⟨hD,fun b hm=>⟨(hb b hm).1,fun z=>?_⟩,nd,hDa,fun k b hk=>(hb b (be1 hk)).2,sm⟩
   rw [z] at hm
   have:=(hb D hm).2
   rw [hDa] at this
   have:bs.map V.ref = []:=by injection this with e1; injection e1
   have:bs = []:=List.map_eq_nil_iff.mp this
   rw [this] at hm; simp at hm
  have lL:=hL.length
  refine⟨_,rfl,a,_,_,_,rfl,rfl,aO.of (sm _ _ ha),rfl,q',rfl,⟨_,aO.of (sm _ _ hq)⟩,ah3 (K:=K) (a:=q') (xs:=ys) (fun i σ H2=>∃ x y:Option V,σ = [some (.ref a),some (.ref D),x,y]/\jC H H2 D bs (fun k=>cQ (ls.take i) k))
   ⟨none,none,rfl,R0⟩ (fun i σ H2 _ ⟨_,_,_,R⟩=>aO.of (R.same _ _ hq)) ?_ ?_⟩
  ·rintro i y σ H2 hi ⟨x1,x2,rfl,R⟩
   obtain ⟨l,b,hl,rfl,hbt⟩:=hL.get hi
   have hlm:l ∈ ls:=be1 hl
   obtain ⟨⟨h1,h2⟩,h3,h4⟩:=hin l hlm
   have k1:l.1.toNat < bs.length:=by omega
   have k2:l.2.toNat < bs.length:=by omega
   have e1:bs[l.1.toNat]? = some (bs[l.1.toNat]):=bc2 k1
   have e2:bs[l.2.toNat]? = some (bs[l.2.toNat]):=bc2 k2
   refine⟨b,_,rfl,aO.of (R.same _ _ hbt),rfl,_,_,rfl,_,_,rfl,rfl,?_⟩
   refine⟨_,rfl,_,rfl,D,_,_,.ref bs[l.1.toNat],rfl,rfl,aN.of R.row,qP h1 (by rw [bc9,e1]; rfl),kX (aN.of (R.rows _ _ e1)),_,rfl,_,_,_,rfl,rfl,R.rows _ _ e1,?_,?_⟩
   ·rw [bc4]
    have:=qO (ls.take i) (l.1.toNat:Nat)
    rw [bh3] at this
    exact hU (by omega)
   ·have R1:=R.app e1 l.2
    refine⟨_,rfl,_,rfl,D,_,_,.ref bs[l.2.toNat],rfl,rfl,aN.of R1.row,qP h3 (by rw [bc9,e2]; rfl),kX (aN.of (R1.rows _ _ e2)),_,rfl,_,_,_,rfl,rfl,R1.rows _ _ e2,?_,?_⟩
    ·rw [bc4]
     have:=qO (ls.take i) (l.2.toNat:Nat)
     rw [bh3] at this
     split
     ·rw [bc0,bg9]; exact hU (by omega)
     ·exact hU (by omega)
    ·have R2:=R1.app e2 l.1
     refine⟨_,_,rfl,R2.congr fun k hk=>?_⟩
     rw [G8 hl]
     have c1:(k=l.1.toNat) ↔ l.1=(k:Int):=by omega
     have c2:(k=l.2.toNat) ↔ l.2=(k:Int):=by omega
     by_cases d1:k=l.1.toNat
     ·by_cases d2:k=l.2.toNat
      ·rw [if_pos d2,if_pos d1,if_pos (c1.mp d1),if_pos (c2.mp d2)]; simp
      ·rw [if_neg d2,if_pos d1,if_pos (c1.mp d1),if_neg (fun z=>d2 (c2.mpr z))]; simp
     ·by_cases d2:k=l.2.toNat
      ·rw [if_pos d2,if_neg d1,if_neg (fun z=>d1 (c1.mpr z)),if_pos (c2.mp d2)]; simp
      ·rw [if_neg d2,if_neg d1,if_neg (fun z=>d1 (c1.mpr z)),if_neg (fun z=>d2 (c2.mpr z))]; simp
  ·
   rintro σ H2 ⟨x1,x2,rfl,R⟩
   refine⟨_,rfl,q D bs H2 hbl ?_⟩
   rw [lL,bf1] at R
   exact R
theorem aV4:FnScope ["web"] ["web"] (aS (b4 8)):=.au
theorem aV5 (B:Bt mg) (F:FM K mg "hearths_in" 8 f fd)  : Df P w K mg base 1 "hearths_in" ["web"] iT:=
 Df.au F aV4 (fun cdv A outer s H E hr=>by
  exact⟨(P6),(aM (bJ (cD B (a7 (cS (qv 0) aF) aA)))),aD3⟩)
theorem ab3:FnScope ["hearths","chosen","hearth"] ["hearths"] (aS (b4 13)):=.au
theorem aV6 (B:Bt mg) (F:FM K mg "sets_among" 13 f fd)  : Df P w K mg base 1 "sets_among" ["hearths"] sZ:=
 Df.au F ab3 (fun cdv A outer s H E hr=>by
  have nd:=ab3.nd
  exact⟨(X0),(aI (bD (i:=1) nd (fA (a7 (dX aA) aA)))
   (aI (gO 2 nd (dP (qv 0))
    (aM (bD (i:=1) nd (S7 (qv 1) (mZ (N:=["some","hearth"]) (fr:=[none,some 2]) (dP (qv 1)) (fun _ _ _ _=>(sB (qv 0) (dX (a7 (qv 1) aA)))))))))
   (aM (gN 1)))),aP9⟩)
theorem ab4:FnScope ["hearths","inside","hearth"] ["hearths"] (aS (b4 15)):=.au
theorem aV7 (B:Bt mg) (F:FM K mg "marked" 15 f fd)  : Df P w K mg base 1 "marked" ["hearths"] iD:=
 Df.au F ab4 (fun cdv A outer s H E hr=>by
  have nd:=ab4.nd
  have hu:=gH hr
  exact⟨(Q3),(aI (eN (i:=1) nd N1)
   (aI (gO 2 nd (dP (qv 0))
    (aM (rJ hu (i:=1) (qv 2) bI)))
   (aM (gN 1)))),aD8⟩)
theorem aV8:FnScope ["hearths","inside"] ["hearths","inside"] (aS (b4 16)):=.au
theorem aV9 (B:Bt mg) (F:FM K mg "count_inside" 16 f fd)  : Df P w K mg base 1 "count_inside" ["hearths","inside"] rW:=
 Df.au F aV8 (fun cdv A outer s H E hr=>by
  have hu:=gH hr
  exact⟨(Q4),(aM (bJ (cD B (a7 (oX (N:=["hearth","inside"]) (fr:=[none,some 1]) (dP (qv 0)) (fun _ _ _ _=>(N0 hu (qv 0) (qv 1))) (fun _ _ _ _=>(qv 0))) aA)))),aD9⟩)
theorem aW0:FnScope ["choices"] ["choices"] (aS (b4 32)):=.au
theorem aW1 (B:Bt mg) (F:FM K mg "ways_on" 32 f fd)  : Df P w K mg base 1 "ways_on" ["choices"] kK:=
 Df.au F aW0 (fun cdv A outer s H E hr=>by
  exact⟨(Y5),(aI (bR (lF (wB (qv 0))) (aM (bJ aF)) cM)
   (aM (bJ (U4 B rfl (a7 (aJ5 (N:=["hearth","many"]) (fr:=[none,none]) (dP (qv 0)) (fun _ _ _ _=>(qv 1))) aA))))),aS1⟩)
theorem aW2:FnScope ["row"] ["row"] (aS (b4 33)):=.au
theorem aW3 (B:Bt mg) (F:FM K mg "set_of" 33 f fd)  : Df P w K mg base 1 "set_of" ["row"] jQ:=
 Df.au F aW2 (fun cdv A outer s H E hr=>by
  exact⟨(Y4),(aM (bJ (iA B (a7 (xB B (a7 (qv 0) aA)) aA)))),aS0⟩)
theorem aW4:FnScope ["script","k"] ["script","k"] (aS (b4 37)):=.au
theorem aW5 (B:Bt mg) (F:FM K mg "_law_cell_at" 37 f fd)  : Df P w K mg base 1 "_law_cell_at" ["script","k"] lK:=
 Df.au F aW4 (fun cdv A outer s H E hr=>by
  exact⟨(Q7),(aI (bR (mS (qv 1) (cD B (a7 (qv 0) aA))) (aM (bJ (cS (qv 0) (qv 1)))) cM)
   (aM (bJ aF))),aE4⟩)
theorem ab5:FnScope ["cell","k","turn"] ["cell","k"] (aS (b4 38)):=.au
theorem aW6 (B:Bt mg) (F:FM K mg "_law_stir" 38 f fd)  : Df P w K mg base 1 "_law_stir" ["cell","k"] kJ:=
 Df.au F ab5 (fun cdv A outer s H E hr=>by
  have nd:=ab5.nd
  exact⟨(V5),(aI (bD (i:=2) nd (bQ (w6 (fD (fD (bQ (qv 0) aF) (w6 (qv 1) (qv 1))) aF) aF) aF))
   (aM (bJ (dC (bQ (w6 (qv 2) (qv 2)) aF) aF)))),aO2⟩)
theorem aW7:FnScope ["way","wants","degrees"] ["way","wants","degrees"] (aS (b4 39)):=.au
theorem aW8 (B:Bt mg) (F:FM K mg "_law_wants" 39 f fd)  : nF P w K mg base 1 "_law_wants" ["way","wants","degrees"] nH:=
 nF.of F.F F.m aW7 (fun _ _ _ _ _ _ us hl=>by obtain ⟨_,_,_,rfl⟩:=sN hl; rfl) (fun xs Q h=>by unfold nH at h; repeat (first | (obtain ⟨rfl,_⟩:=h; rfl) | (obtain ⟨_,h⟩:=h))) 1 V6 aO3 (fun cdv A outer s H E hr=>by
  exact (sO (bR (eM (qv 0) aF) (aM (bJ (mZ (N:=["want"]) (fr:=[none]) (dP (qv 1)) (fun _ _ _ _=>aF)))) cM)
   (sO (bR (eM (qv 0) aF) (aM (bJ (mV B (a7 (qv 2) aA)))) cM)
   (sO (bR (eM (qv 0) aF) (aM (bJ (mZ (N:=["degree"]) (fr:=[none]) (dP (qv 2)) (fun _ _ _ _=>(rK B rfl (a7 aF (a7 (mR (qv 0) aF) aA))))))) cM)
   (sO (bR (eM (qv 0) aF) (aM (bJ (mZ (N:=["degree"]) (fr:=[none]) (dP (qv 2)) (fun _ _ _ _=>(dC (fD (qv 0) aF) aF))))) cM)
   (aO0 1))))))
theorem ab6:FnScope ["cell","many","wants","links","hearth","one","other"] ["cell","many"] (aS (b4 40)):=.au
theorem aW9 (B:Bt mg) (F:FM K mg "_law_by_digits" 40 f fd)  : Df P w K mg base 1 "_law_by_digits" ["cell","many"] sP:=
 Df.au F ab6 (fun cdv A outer s H E hr=>by
  have nd:=ab6.nd
  have hu:=gH hr
  exact⟨(V7),(aI (eN (i:=2) nd (fA aA))
   (aI (eN (i:=3) nd wD)
   (aI (gO 4 nd (iQ rfl B.range (qv 1))
    (aI (mU 2 (bQ (qv 0) aF))
    (aM (bD (i:=0) nd (dC (qv 0) aF)))))
   (aI (gO 5 nd (iQ rfl B.range (qv 1))
    (aM (gO 6 nd (az5 rfl B.range (fD (qv 5) aF) (qv 1))
     (aI (bR (eM (bQ (qv 0) aF) aF) (aM (wF hu (i:=3) (dX (a7 (qv 5) (a7 (qv 6) aA))) bI)) cM)
     (aM (bD (i:=0) nd (dC (qv 0) aF)))))))
   (aM (N3 2 (N3 3 (bJ (az2 (a7 (qv 2) (a7 (qv 3) aA))))))))))),aO4⟩)
theorem aX0:FnScope ["web","hearth"] ["web","hearth"] (aS (b4 43)):=.au
theorem aX1 (B:Bt mg) (F:FM K mg "_law_near" 43 f fd)  : Df P w K mg base 1 "_law_near" ["web","hearth"] sS:=
 Df.au F aX0 (fun cdv A outer s H E hr=>by
  exact⟨(W5),(aM (bJ (aJ6 (N:=["one","other","hearth"]) (fr:=[none,none,some 1]) (dP (cS (qv 0) aF)) (fun _ _ _ _=>(rL (qv 2) (dX (a7 (qv 0) (a7 (qv 1) aA))))) (fun _ _ _ _=>(mR (fD (qv 0) (qv 1)) (qv 2)))))),aO7⟩)
theorem ab7:FnScope ["some","many","cell","odd","far","spot"] ["some","many","cell"] (aS (b4 46)):=.au
theorem aX2 (B:Bt mg) (F:FM K mg "_law_odd_set" 46 f fd)  : Df P w K mg base 1 "_law_odd_set" ["some","many","cell"] sU:=
 Df.au F ab7 (fun cdv A outer s H E hr=>by
  have nd:=ab7.nd
  exact⟨(W6),(aI (eN (i:=3) nd (mV B (a7 (qv 0) aA)))
   (aI (bD (i:=4) nd (bQ (dC (qv 2) aF) (w9 aF aF)))
   (aI (bD (i:=5) nd (bQ (dC (qv 2) aF) (fD (cD B (a7 (qv 3) aA)) aF)))
   (aI (bR (i9 (kA (eM (bQ (qv 2) aF) aF) (k9 (jG (cD B (a7 (qv 3) aA)) aF)))) (aM (pG 3 (qv 5) (cS (qv 3) (bQ (dC (qv 2) aF) (cD B (a7 (qv 3) aA)))))) (aM (bR (i9 (kA (eM (bQ (qv 2) aF) aF) (k9 (jG (cD B (a7 (qv 3) aA)) aF)))) (aM (aO9 3)) (aM (pG 3 (qv 5) (cS (fA (a7 (mW aF) (a7 (qv 1) (a7 (mR (mW aF) (qv 4)) (a7 (fD (qv 1) (qv 4)) aA))))) (bQ (dC (qv 2) aF) aF)))))))
   (aM (bJ (iA B (a7 (qv 3) aA)))))))),aP2⟩)
theorem aX3:FnScope ["web","number"] ["web","number"] (aS (b4 10)):=.au
theorem aX4 (B:Bt mg) (F:FM K mg "is_hearth" 10 f fd) (d_hearths_in:Df P w K mg base 1 "hearths_in" ["web"] iT):Df P w K mg base 2 "is_hearth" ["web","number"] nB:=
 Df.au F aX3 (fun cdv A outer s H E hr=>by
  exact⟨(P7),(aM (bJ (rG (wA (qv 1) aF) (rF (ay8 (qv 1) (b6 d_hearths_in hr (a7 (qv 0) aA))))))),aD4⟩)
theorem aX5:FnScope ["web","numbers"] ["web","numbers"] (aS (b4 14)):=.au
theorem aX6 (B:Bt mg) (F:FM K mg "has_each_once" 14 f fd) (d_hearths_in:Df P w K mg base 1 "hearths_in" ["web"] iT):Df P w K mg base 2 "has_each_once" ["web","numbers"] sD:=
 Df.au F aX5 (fun cdv A outer s H E hr=>by
  have hu3:=yF hr
  exact⟨(T6),(aM (bJ (aA1 hu3 (xB B (a7 (qv 1) aA)) (R4 B (b6 d_hearths_in hr (a7 (qv 0) aA)))))),aK2⟩)
theorem aX7:FnScope ["web","around","burning","hearth"] ["web","around","burning","hearth"] (aS (b4 20)):=.au
theorem aX8 (B:Bt mg) (F:FM K mg "can_kindle" 20 f fd) (d_count_inside:Df P w K mg base 1 "count_inside" ["hearths","inside"] rW):Df P w K mg base 2 "can_kindle" ["web","around","burning","hearth"] iW:=
 Df.au F aX7 (fun cdv A outer s H E hr=>by
  have hu:=gH hr
  exact⟨(Q5),(aM (bJ (rG (az1 hu (qv 3) (qv 2)) (rF (wA (b6 d_count_inside hr (a7 (cS (qv 1) (qv 3)) (a7 (qv 2) aA))) (cS (cS (qv 0) aF) (qv 3))))))),aE1⟩)
theorem ab8:FnScope ["flow","many","way","wants","links","cell","turn","one","other","degrees"] ["flow","many","way"] (aS (b4 41)):=.au
theorem aX9 (B:Bt mg) (F:FM K mg "_law_web" 41 f fd) (d__law_by_digits:Df P w K mg base 1 "_law_by_digits" ["cell","many"] sP) (d__law_stir:Df P w K mg base 1 "_law_stir" ["cell","k"] kJ) (d__law_wants:nF P w K mg base 1 "_law_wants" ["way","wants","degrees"] nH):Df P w K mg base 2 "_law_web" ["flow","many","way"] sQ:=
 Df.au F ab8 (fun cdv A outer s H E hr=>by
  have nd:=ab8.nd
  have hu:=gH hr
  exact⟨(V8),(aI (aA2 (i:=3) nd (N:=["k"]) (fr:=[none]) (iQ rfl B.range (qv 1)) (fun _ _ _ _=>(fD aF (bQ (qv 0) aF))))
   (aI (eN (i:=4) nd wD)
   (aI (bR (i9 (kA (jG (cD B (a7 (qv 0) aA)) aF) (k9 (eM (bQ (cS (qv 0) aF) aF) aF)))) (aI (aN7 3 4 nd (b6 d__law_by_digits hr (a7 (dC (cS (qv 0) aF) aF) (a7 (qv 1) aA))))
    (aM (bD (i:=0) nd (wK (qv 0) (wJ aF) wI)))) cM)
   (aI (gO 5 nd (dP (qv 0))
    (aM (bR (jG (qv 1) aF) (aI (bD (i:=6) nd (b6 d__law_stir hr (a7 (qv 5) (a7 aF aA))))
     (aI (bD (i:=7) nd (bQ (qv 6) (qv 1)))
     (aI (bD (i:=8) nd (bQ (dC (qv 6) aF) (qv 1)))
     (aM (bR (eM (bQ (dC (qv 6) aF) aF) aF) (aM (wN (i:=3) (qv 7) (bQ (dC (qv 6) aF) aF))) (aM (bR (i9 (kA (M9 (qv 7) (qv 8)) (k9 (N0 hu (dX (a7 (wG B rfl (a7 (qv 7) (a7 (qv 8) aA))) (a7 (rK B rfl (a7 (qv 7) (a7 (qv 8) aA))) aA))) (qv 4))))) (aM (aN9 4 hu (dX (a7 (wG B rfl (a7 (qv 7) (a7 (qv 8) aA))) (a7 (rK B rfl (a7 (qv 7) (a7 (qv 8) aA))) aA))))) (aM (bR (M9 (qv 7) (qv 8)) (aM (wF hu (i:=4) (dX (a7 (wG B rfl (a7 (qv 7) (a7 (qv 8) aA))) (a7 (rK B rfl (a7 (qv 7) (a7 (qv 8) aA))) aA))) bI)) cM))))))))) cM)))
   (aI (aP4 (i:=9) nd (N:=["hearth","links"]) (fr:=[none,some 4]) (iQ rfl B.range (qv 1)) (fun _ _ _ _=>(cD B (a7 (aN5 (N:=["pair","hearth"]) (fr:=[none,some 0]) (qv 1) (fun _ _ _ _=>(rL (qv 1) (qv 0))) (fun _ _ _ _=>(qv 0))) aA))))
   (aM (bJ (dX (a7 (iA B (a7 (aO1 d__law_wants hr (a7 (qv 2) (a7 (qv 3) (a7 (qv 9) aA)))) aA)) (a7 (iA B (a7 (aG1 B (a7 (aF8 B rfl (a7 (qv 4) aA)) aA)) aA)) aA)))))))))),aO5⟩)
theorem aY0:FnScope ["cell","many"] ["cell","many"] (aS (b4 42)):=.au
theorem aY1 (B:Bt mg) (F:FM K mg "_law_some" 42 f fd) (d__law_stir:Df P w K mg base 1 "_law_stir" ["cell","k"] kJ):Df P w K mg base 2 "_law_some" ["cell","many"] sR:=
 Df.au F aY0 (fun cdv A outer s H E hr=>by
  exact⟨(W0),(aI (bR (eM (bQ (qv 0) aF) aF) (aM (bJ (iA B (a7 (oX (N:=["k","cell"]) (fr:=[none,some 0]) (iQ rfl B.range (qv 1)) (fun _ _ _ _=>(eM (bQ (ay7 (qv 1) (fD (qv 0) aF)) aF) aF)) (fun _ _ _ _=>(qv 0))) aA)))) cM)
   (aM (bJ (iA B (a7 (oX (N:=["k","cell"]) (fr:=[none,some 0]) (iQ rfl B.range (qv 1)) (fun _ _ _ _=>(mS (bQ (b6 d__law_stir hr (a7 (qv 1) (a7 (qv 0) aA))) aF) (fD aF (bQ (dC (qv 1) aF) aF)))) (fun _ _ _ _=>(qv 0))) aA))))),aO6⟩)
theorem aY2:FnScope ["web","burning","hearth"] ["web","burning","hearth"] (aS (b4 44)):=.au
theorem aY3 (B:Bt mg) (F:FM K mg "_law_kindles" 44 f fd) (d__law_near:Df P w K mg base 1 "_law_near" ["web","hearth"] sS):Df P w K mg base 2 "_law_kindles" ["web","burning","hearth"] lR:=
 Df.au F aY2 (fun cdv A outer s H E hr=>by
  exact⟨(X3),(aI (bR (rL (qv 2) (qv 1)) (aM (bJ bI)) cM)
   (aM (bJ (wA (cD B (a7 (oX (N:=["other","burning"]) (fr:=[none,some 1]) (dP (b6 d__law_near hr (a7 (qv 0) (a7 (qv 2) aA)))) (fun _ _ _ _=>(rL (qv 0) (qv 1))) (fun _ _ _ _=>(qv 0))) aA)) (cS (cS (qv 0) aF) (qv 2)))))),aQ2⟩)
theorem aY4:FnScope ["web","numbers"] ["web","numbers"] (aS (b4 11)):=.au
theorem aY5 (B:Bt mg) (F:FM K mg "is_set" 11 f fd) (d_rises:Df P w K mg base 1 "rises" ["things"] wW) (d_is_hearth:Df P w K mg base 2 "is_hearth" ["web","number"] nB):Df P w K mg base 3 "is_set" ["web","numbers"] rS:=
 Df.au F aY4 (fun cdv A outer s H E hr=>by
  exact⟨(P8),(aM (bJ (rG (b6 d_rises hr (a7 (qv 1) aA)) (rF (az7 B rfl (a7 (mZ (N:=["number","web"]) (fr:=[none,some 0]) (dP (qv 1)) (fun _ _ _ _=>(b6 d_is_hearth hr (a7 (qv 1) (a7 (qv 0) aA))))) aA)))))),aD5⟩)
theorem aY6:FnScope ["web","around","burning"] ["web","around","burning"] (aS (b4 19)):=.au
theorem aY7 (B:Bt mg) (F:FM K mg "kindling" 19 f fd) (d_can_kindle:Df P w K mg base 2 "can_kindle" ["web","around","burning","hearth"] iW) (d_hearths_in:Df P w K mg base 1 "hearths_in" ["web"] iT):Df P w K mg base 3 "kindling" ["web","around","burning"] oZ:=
 Df.au F aY6 (fun cdv A outer s H E hr=>by
  exact⟨(Q6),(aM (bJ (iA B (a7 (oX (N:=["hearth","web","around","burning"]) (fr:=[none,some 0,some 1,some 2]) (iQ rfl B.range (b6 d_hearths_in hr (a7 (qv 0) aA))) (fun _ _ _ _=>(gM (b6 d_can_kindle hr (a7 (qv 1) (a7 (qv 2) (a7 (qv 3) (a7 (qv 0) aA))))))) (fun _ _ _ _=>(qv 0))) aA)))),aE2⟩)
theorem ab9:FnScope ["web","around","burning","order","hearth"] ["web","around","burning","order"] (aS (b4 24)):=.au
theorem aY8 (B:Bt mg) (F:FM K mg "first_to_kindle" 24 f fd) (d_can_kindle:Df P w K mg base 2 "can_kindle" ["web","around","burning","hearth"] iW):Df P w K mg base 3 "first_to_kindle" ["web","around","burning","order"] pC:=
 Df.au F ab9 (fun cdv A outer s H E hr=>by
  have nd:=ab9.nd
  exact⟨(T9),(aI (gO 4 nd (dP (qv 3))
    (aM (bR (gM (b6 d_can_kindle hr (a7 (qv 0) (a7 (qv 1) (a7 (qv 2) (a7 (qv 4) aA)))))) (aM (gN 4)) cM)))
   (aM (bJ M7))),aK4⟩)
theorem ac0:FnScope ["web","seeds","cell","row","able"] ["web","seeds","cell"] (aS (b4 45)):=.au
theorem aY9 (B:Bt mg) (F:FM K mg "_law_picked" 45 f fd) (d__law_kindles:Df P w K mg base 2 "_law_kindles" ["web","burning","hearth"] lR) (d__law_stir:Df P w K mg base 1 "_law_stir" ["cell","k"] kJ):Df P w K mg base 3 "_law_picked" ["web","seeds","cell"] tD:=
 Df.au F ac0 (fun cdv A outer s H E hr=>by
  have nd:=ac0.nd
  have hu3:=yF hr
  exact⟨(X9),(aI (eN (i:=3) nd (fA aA))
   (aI (wM (i:=4) nd (N:=["hearth","web","seeds"]) (fr:=[none,some 0,some 1]) (iQ rfl B.range (cD B (a7 (cS (qv 0) aF) aA))) (fun _ _ _ _=>(gM (b6 d__law_kindles hr (a7 (qv 1) (a7 (mV B (a7 (qv 2) aA)) (a7 (qv 0) aA)))))) (fun _ _ _ _=>(qv 0)))
   (aI (rH PassesOwn.never (mY hu3 (qv 4) (fA aA))
    (aI (mU 3 (cS (qv 4) (bQ (b6 d__law_stir hr (a7 (qv 2) (a7 (cD B (a7 (qv 3) aA)) aA))) (cD B (a7 (qv 4) aA)))))
    (aM (wM (i:=4) nd (N:=["hearth","web","row","seeds"]) (fr:=[none,some 0,some 3,some 1]) (iQ rfl B.range (cD B (a7 (cS (qv 0) aF) aA))) (fun _ _ _ _=>(gM (b6 d__law_kindles hr (a7 (qv 1) (a7 (S7 (mV B (a7 (qv 3) aA)) (qv 2)) (a7 (qv 0) aA)))))) (fun _ _ _ _=>(qv 0))))))
   (aM (gN 3))))),aQ9⟩)
theorem ac1:FnScope ["web","seeds","row","burning","hearth"] ["web","seeds","row"] (aS (b4 47)):=.au
theorem aZ0 (B:Bt mg) (F:FM K mg "_law_good" 47 f fd) (d__law_kindles:Df P w K mg base 2 "_law_kindles" ["web","burning","hearth"] lR):Df P w K mg base 3 "_law_good" ["web","seeds","row"] t9:=
 Df.au F ac1 (fun cdv A outer s H E hr=>by
  have nd:=ac1.nd
  exact⟨(X8),(aI (eN (i:=3) nd (mV B (a7 (qv 1) aA)))
   (aI (gO 4 nd (dP (qv 2))
    (aI (bR (i9 (rE (mS (qv 4) aF) (rE (M8 (qv 4) (cD B (a7 (cS (qv 0) aF) aA))) (wC (lF (gM (b6 d__law_kindles hr (a7 (qv 0) (a7 (qv 3) (a7 (qv 4) aA)))))))))) (aM (bJ bI)) cM)
    (aM (mU 3 (qv 4)))))
   (aM (bJ bI)))),aQ8⟩)
theorem aZ1:FnScope ["web","hearths"] ["web","hearths"] (aS (b4 12)):=.au
theorem aZ2 (B:Bt mg) (F:FM K mg "made_set" 12 f fd) (d_is_set:Df P w K mg base 3 "is_set" ["web","numbers"] rS) (x_BadSet:Xc K mg base "BadSet"):bA P w K mg base 4 "made_set" ["web","hearths"] kI:=
 bA.au F aZ1 V0 aM9 (fun cdv A outer s H E Ep hr hX=>by
  exact (aI (bR (lF (gM (b6 d_is_set hr (a7 (qv 0) (a7 (qv 1) aA))))) (aM (pD hX x_BadSet (a7 oV aA))) cM)
   (aM (bJ (iA B (a7 (qv 1) aA))))))
theorem ac2:FnScope ["web","seeds","row","cell","some","many","far","spot","way","other","kept"] ["web","seeds","row","cell"] (aS (b4 48)):=.au
theorem aZ3 (B:Bt mg) (F:FM K mg "_law_spoiled" 48 f fd) (d__law_good:Df P w K mg base 3 "_law_good" ["web","seeds","row"] t9):Df P w K mg base 4 "_law_spoiled" ["web","seeds","row","cell"] tK:=
 Df.au F ac2 (fun cdv A outer s H E hr=>by
  have nd:=ac2.nd
  exact⟨(aa5),(aI (eN (i:=4) nd (mV B (a7 (qv 2) aA)))
   (aI (bD (i:=5) nd (cD B (a7 (cS (qv 0) aF) aA)))
   (aI (bD (i:=6) nd (bQ (dC (qv 3) aF) (w9 aF aF)))
   (aI (bD (i:=7) nd (bQ (dC (qv 3) aF) (fD (cD B (a7 (qv 4) aA)) aF)))
   (aI (bD (i:=8) nd (bQ (qv 3) aF))
   (aI (bR (i9 (kA (eM (qv 8) aF) (k9 (jG (cD B (a7 (qv 4) aA)) aF)))) (aM (aQ4 4 (bQ (qv 7) (cD B (a7 (qv 4) aA))))) (aM (bR (i9 (kA (eM (qv 8) aF) (k9 (jG (cD B (a7 (qv 4) aA)) aF)))) (aM (pG 4 (qv 7) (cS (qv 4) (bQ (dC (qv 3) aF) (cD B (a7 (qv 4) aA)))))) (aM (bR (i9 (kA (eM (qv 8) aF) (k9 (jG (cD B (a7 (qv 1) aA)) aF)))) (aM (pG 4 (qv 7) (cS (qv 1) (bQ (dC (qv 3) aF) (cD B (a7 (qv 1) aA)))))) (aM (bR (i9 (kA (eM (qv 8) aF) (k9 (jG (cD B (a7 (qv 4) aA)) aF)))) (aI (bD (i:=9) nd (bQ (dC (qv 3) aF) (cD B (a7 (qv 4) aA))))
       (aI (bD (i:=7) nd (bQ (qv 7) (cD B (a7 (qv 4) aA))))
       (aI (bD (i:=10) nd (cS (qv 4) (qv 7)))
       (aI (wN (i:=4) (qv 7) (cS (qv 4) (qv 9)))
       (aI (wN (i:=4) (qv 9) (qv 10))
       (aM (bR (gM (b6 d__law_good hr (a7 (qv 0) (a7 (qv 1) (a7 (qv 4) aA))))) (aM (aU4 4)) cM))))))) (aM (pG 4 (qv 7) (cS (fA (a7 (mW aF) (a7 (qv 5) (a7 (mR (mW aF) (qv 6)) (a7 (fD (qv 5) (qv 6)) aA))))) (bQ (dC (qv 3) aF) aF)))))))))))
   (aM (gN 4)))))))),aU7⟩)
theorem ac3:FnScope ["web","seeds","told","burning","around","lit"] ["web","seeds"] (aS (b4 18)):=.au
theorem aZ4 (B:Bt mg) (F:FM K mg "rounds" 18 f fd) (d_marked:Df P w K mg base 1 "marked" ["hearths"] iD) (d_near_lists:Df P w K mg base 1 "near_lists" ["web"] jJ) (d_kindling:Df P w K mg base 3 "kindling" ["web","around","burning"] oZ) (d_made_set:bA P w K mg base 4 "made_set" ["web","hearths"] kI):bA P w K mg base 5 "rounds" ["web","seeds"] sW:=
 bA.au F ac3 W7 aP5 (fun cdv A outer s H E Ep hr hX=>by
  have nd:=ac3.nd
  exact (aI (eN (i:=2) nd (fA (a7 (fZ hX d_made_set hr (a7 (qv 0) (a7 (qv 1) aA))) aA)))
   (aI (eN (i:=3) nd (b6 d_marked hr (a7 (cS (qv 2) aF) aA)))
   (aI (bD (i:=4) nd (b6 d_near_lists hr (a7 (qv 0) aA)))
   (aI (bD (i:=5) nd (b6 d_kindling hr (a7 (qv 0) (a7 (qv 4) (a7 (qv 3) aA)))))
   (aI (rH hX.own (wB (qv 5))
    (aI (mU 2 (qv 5))
    (aI (aA3 3 (b6 d_marked hr (a7 (qv 5) aA)))
    (aM (bD (i:=5) nd (b6 d_kindling hr (a7 (qv 0) (a7 (qv 4) (a7 (qv 3) aA)))))))))
   (aM (gN 2))))))))
theorem ac4:FnScope ["web","seeds","order","burning","around","kindled","hearth"] ["web","seeds","order"] (aS (b4 23)):=.au
theorem aZ5 (B:Bt mg) (F:FM K mg "kindled_by" 23 f fd) (d_marked:Df P w K mg base 1 "marked" ["hearths"] iD) (d_near_lists:Df P w K mg base 1 "near_lists" ["web"] jJ) (d_first_to_kindle:Df P w K mg base 3 "first_to_kindle" ["web","around","burning","order"] pC) (d_made_set:bA P w K mg base 4 "made_set" ["web","hearths"] kI) (d_has_each_once:Df P w K mg base 2 "has_each_once" ["web","numbers"] sD) (x_BadOrder:Xc K mg base "BadOrder"):bA P w K mg base 5 "kindled_by" ["web","seeds","order"] t5:=
 bA.au F ac4 X1 aQ0 (fun cdv A outer s H E Ep hr hX=>by
  have nd:=ac4.nd
  have hu:=gH hr
  exact (aI (eN (i:=3) nd (b6 d_marked hr (a7 (fZ hX d_made_set hr (a7 (qv 0) (a7 (qv 1) aA))) aA)))
   (aI (bR (lF (gM (b6 d_has_each_once hr (a7 (qv 0) (a7 (qv 2) aA))))) (aM (pD hX x_BadOrder (a7 oV aA))) cM)
   (aI (bD (i:=4) nd (b6 d_near_lists hr (a7 (qv 0) aA)))
   (aI (eN (i:=5) nd (fA aA))
   (aI (bD (i:=6) nd (b6 d_first_to_kindle hr (a7 (qv 0) (a7 (qv 4) (a7 (qv 3) (a7 (qv 2) aA))))))
   (aI (rH hX.own (az0 (qv 6) M7)
    (aI (mU 5 (qv 6))
    (aI (rJ hu (i:=3) (qv 6) bI)
    (aM (bD (i:=6) nd (b6 d_first_to_kindle hr (a7 (qv 0) (a7 (qv 4) (a7 (qv 3) (a7 (qv 2) aA))))))))))
   (aM (gN 5)))))))))
theorem ac5:FnScope ["web","seeds","row","burning","around","hearth"] ["web","seeds","row"] (aS (b4 27)):=.au
theorem aZ6 (B:Bt mg) (F:FM K mg "is_row" 27 f fd) (d_marked:Df P w K mg base 1 "marked" ["hearths"] iD) (d_near_lists:Df P w K mg base 1 "near_lists" ["web"] jJ) (d_made_set:bA P w K mg base 4 "made_set" ["web","hearths"] kI) (d_is_hearth:Df P w K mg base 2 "is_hearth" ["web","number"] nB) (d_can_kindle:Df P w K mg base 2 "can_kindle" ["web","around","burning","hearth"] iW):bA P w K mg base 5 "is_row" ["web","seeds","row"] t7:=
 bA.au F ac5 X6 aQ6 (fun cdv A outer s H E Ep hr hX=>by
  have nd:=ac5.nd
  have hu:=gH hr
  exact (aI (eN (i:=3) nd (b6 d_marked hr (a7 (fZ hX d_made_set hr (a7 (qv 0) (a7 (qv 1) aA))) aA)))
   (aI (bD (i:=4) nd (b6 d_near_lists hr (a7 (qv 0) aA)))
   (aI (gO 5 (hp:=hX.own) nd (dP (qv 2))
    (aI (bR (i9 (rE (lF (gM (b6 d_is_hearth hr (a7 (qv 0) (a7 (qv 5) aA))))) (wC (lF (gM (b6 d_can_kindle hr (a7 (qv 0) (a7 (qv 4) (a7 (qv 3) (a7 (qv 5) aA)))))))))) (aM (bJ bI)) cM)
    (aM (rJ hu (i:=3) (qv 5) bI))))
   (aM (bJ bI))))))
theorem ac6:FnScope ["web","seeds","ranks","rank","lit","hearth"] ["web","seeds"] (aS (b4 21)):=.au
theorem aZ7 (B:Bt mg) (F:FM K mg "ranks_of" 21 f fd) (d_rounds:bA P w K mg base 5 "rounds" ["web","seeds"] sW):bA P w K mg base 6 "ranks_of" ["web","seeds"] sX:=
 bA.au F ac6 W8 aP6 (fun cdv A outer s H E Ep hr hX=>by
  have nd:=ac6.nd
  have hu:=gH hr
  exact (aI (eN (i:=2) nd N1)
   (aI (wL 3 4 (hp:=hX.own) nd (T2 rfl B.enum (fZ hX d_rounds hr (a7 (qv 0) (a7 (qv 1) aA))))
    (aM (gO 5 (hp:=hX.own) nd (dP (qv 4))
     (aM (rJ hu (i:=2) (qv 5) (qv 3))))))
   (aM (gN 2)))))
theorem aZ8:FnScope ["web","seeds"] ["web","seeds"] (aS (b4 29)):=.au
theorem aZ9 (B:Bt mg) (F:FM K mg "first_order" 29 f fd) (d_kindled_by:bA P w K mg base 5 "kindled_by" ["web","seeds","order"] t5) (d_hearths_in:Df P w K mg base 1 "hearths_in" ["web"] iT):bA P w K mg base 6 "first_order" ["web","seeds"] t6:=
 bA.au F aZ8 X2 aQ1 (fun cdv A outer s H E Ep hr hX=>by
  exact (aM (bJ (iA B (a7 (fZ hX d_kindled_by hr (a7 (qv 0) (a7 (qv 1) (a7 (R4 B (b6 d_hearths_in hr (a7 (qv 0) aA))) aA)))) aA)))))
theorem ba0:FnScope ["web","seeds"] ["web","seeds"] (aS (b4 22)):=.au
theorem ba1 (B:Bt mg) (F:FM K mg "burnt" 22 f fd) (d_ranks_of:bA P w K mg base 6 "ranks_of" ["web","seeds"] sX):bA P w K mg base 7 "burnt" ["web","seeds"] sY:=
 bA.au F ba0 W9 aP7 (fun cdv A outer s H E Ep hr hX=>by
  exact (aM (bJ (iA B (a7 (aL2 B rfl (a7 (fZ hX d_ranks_of hr (a7 (qv 0) (a7 (qv 1) aA))) aA)) aA)))))
theorem ac7:FnScope ["web","seeds","later","around","branches","lit","burning","able"] ["web","seeds"] (aS (b4 31)):=.au
theorem ba2 (B:Bt mg) (F:FM K mg "branches_of" 31 f fd) (d_near_lists:Df P w K mg base 1 "near_lists" ["web"] jJ) (d_first_order:bA P w K mg base 6 "first_order" ["web","seeds"] t6) (d_sets_among:Df P w K mg base 1 "sets_among" ["hearths"] sZ) (d_marked:Df P w K mg base 1 "marked" ["hearths"] iD) (d_can_kindle:Df P w K mg base 2 "can_kindle" ["web","around","burning","hearth"] iW) (d_ways_on:Df P w K mg base 1 "ways_on" ["choices"] kK) (d_set_of:Df P w K mg base 1 "set_of" ["row"] jQ) (rv:mg "reversed" = none) (x_TooMany:Xc K mg base "TooMany") {u_MOST_ORDERED:Nat} (m_MOST_ORDERED:mg "MOST_ORDERED" = some (.int 12 u_MOST_ORDERED)):bA P w K mg base 7 "branches_of" ["web","seeds"] kL:=
 bA.au F ac7 Y8 aS4 (fun cdv A outer s H E Ep hr hX=>by
  have nd:=ac7.nd
  have hu:=gH hr
  exact (aI (bD (i:=2) nd (xB B (a7 (fZ hX d_first_order hr (a7 (qv 0) (a7 (qv 1) aA))) aA)))
   (aI (bR (jG (cD B (a7 (qv 2) aA)) (aJ8 rfl m_MOST_ORDERED)) (aM (pD hX x_TooMany (a7 oV aA))) cM)
   (aI (bD (i:=3) nd (b6 d_near_lists hr (a7 (qv 0) aA)))
   (aI (eN (i:=4) nd wD)
   (aI (gO 5 (hp:=hX.own) nd (aR5 rv (b6 d_sets_among hr (a7 (qv 2) aA)))
    (aI (bD (i:=6) nd (b6 d_marked hr (a7 (sB (iA B (a7 (qv 1) aA)) (qv 5)) aA)))
    (aI (wM (i:=7) nd (N:=["hearth","web","around","burning"]) (fr:=[none,some 0,some 3,some 6]) (dP (qv 2)) (fun _ _ _ _=>(gM (b6 d_can_kindle hr (a7 (qv 1) (a7 (qv 2) (a7 (qv 3) (a7 (qv 0) aA))))))) (fun _ _ _ _=>(qv 0)))
    (aM (wF hu (i:=4) (qv 5) (mZ (N:=["hearth","branches","lit"]) (fr:=[none,some 4,some 5]) (dP (qv 7)) (fun _ _ _ _=>(dX (a7 (qv 0) (a7 (b6 d_ways_on hr (a7 (mT hu (qv 1) (b6 d_set_of hr (a7 (sB (qv 2) (dX (a7 (qv 0) aA))) aA))) aA)) aA))))))))))
   (aM (gN 4))))))))
theorem ba3:FnScope ["web","seeds","row"] ["web","seeds","row"] (aS (b4 28)):=.au
theorem ba4 (B:Bt mg) (F:FM K mg "is_order" 28 f fd) (d_is_row:bA P w K mg base 5 "is_row" ["web","seeds","row"] t7) (d_burnt:bA P w K mg base 7 "burnt" ["web","seeds"] sY):bA P w K mg base 8 "is_order" ["web","seeds","row"] t8:=
 bA.au F ba3 X7 aQ7 (fun cdv A outer s H E Ep hr hX=>by
  exact (aM (bJ (rG (fZ hX d_is_row hr (a7 (qv 0) (a7 (qv 1) (a7 (qv 2) aA)))) (rF (ay9 (fD (cD B (a7 (qv 1) aA)) (cD B (a7 (qv 2) aA))) (cD B (a7 (fZ hX d_burnt hr (a7 (qv 0) (a7 (qv 1) aA))) aA))))))))
theorem ba5:FnScope ["web","seeds"] ["web","seeds"] (aS (b4 30)):=.au
theorem ba6 (B:Bt mg) (F:FM K mg "order_many" 30 f fd) (d_ways_on:Df P w K mg base 1 "ways_on" ["choices"] kK) (d_branches_of:bA P w K mg base 7 "branches_of" ["web","seeds"] kL):bA P w K mg base 8 "order_many" ["web","seeds"] nJ:=
 bA.au F ba5 Z0 aS5 (fun cdv A outer s H E Ep hr hX=>by
  have hu:=gH hr
  exact (aM (bJ (b6 d_ways_on hr (a7 (mT hu (fZ hX d_branches_of hr (a7 (qv 0) (a7 (qv 1) aA))) (dX aA)) aA)))))
theorem ac8:FnScope ["web","seeds","number","branches","order","left","hearth","many"] ["web","seeds","number"] (aS (b4 34)):=.au
theorem ba7 (B:Bt mg) (F:FM K mg "order_numbered" 34 f fd) (d_branches_of:bA P w K mg base 7 "branches_of" ["web","seeds"] kL) (d_set_of:Df P w K mg base 1 "set_of" ["row"] jQ) (d_ways_on:Df P w K mg base 1 "ways_on" ["choices"] kK) (x_NoSuch:Xc K mg base "NoSuch"):bA P w K mg base 8 "order_numbered" ["web","seeds","number"] tI:=
 bA.au F ac8 Z7 aT9 (fun cdv A outer s H E Ep hr hX=>by
  have nd:=ac8.nd
  have hu:=gH hr
  exact (aI (bD (i:=3) nd (fZ hX d_branches_of hr (a7 (qv 0) (a7 (qv 1) aA))))
   (aI (bR (i9 (rE (mS (qv 2) aF) (wC (M8 (qv 2) (b6 d_ways_on hr (a7 (mT hu (qv 3) (dX aA)) aA)))))) (aM (pD hX x_NoSuch (a7 oV aA))) cM)
   (aI (bD (i:=4) nd (dX aA))
   (aI (bD (i:=5) nd (qv 2))
   (aI (rH hX.own (wB (mT hu (qv 3) (b6 d_set_of hr (a7 (qv 4) aA))))
    (aM (wL 6 7 (hp:=hX.own) nd (dP (mT hu (qv 3) (b6 d_set_of hr (a7 (qv 4) aA))))
     (aI (bR (mS (qv 5) (qv 7)) (aI (bD (i:=4) nd (sB (qv 4) (dX (a7 (qv 6) aA))))
      (aM az3)) cM)
     (aM (bD (i:=5) nd (mR (qv 5) (qv 7))))))))
   (aM (gN 4))))))))
theorem ac9:FnScope ["web","seeds","row","branches","number","turn","hearth","lesser"] ["web","seeds","row"] (aS (b4 35)):=.au
theorem ba8 (B:Bt mg) (F:FM K mg "number_of_order" 35 f fd) (d_branches_of:bA P w K mg base 7 "branches_of" ["web","seeds"] kL) (d_is_order:bA P w K mg base 8 "is_order" ["web","seeds","row"] t8) (d_set_of:Df P w K mg base 1 "set_of" ["row"] jQ) (x_BadOrder:Xc K mg base "BadOrder"):bA P w K mg base 9 "number_of_order" ["web","seeds","row"] tJ:=
 bA.au F ac9 aa0 aU2 (fun cdv A outer s H E Ep hr hX=>by
  have nd:=ac9.nd
  have hu:=gH hr
  exact (aI (bD (i:=3) nd (fZ hX d_branches_of hr (a7 (qv 0) (a7 (qv 1) aA))))
   (aI (bR (lF (gM (fZ hX d_is_order hr (a7 (qv 0) (a7 (qv 1) (a7 (qv 2) aA)))))) (aM (pD hX x_BadOrder (a7 oV aA))) cM)
   (aI (bD (i:=4) nd aF)
   (aI (wL 5 6 (hp:=hX.own) nd (T2 rfl B.enum (qv 2))
    (aI (aJ7 (i:=7) nd (N:=["other","many","hearth"]) (fr:=[none,none,some 6]) (dP (mT hu (qv 3) (b6 d_set_of hr (a7 (wK (qv 2) wI (wJ (qv 5))) aA)))) (fun _ _ _ _=>(mS (qv 0) (qv 2))) (fun _ _ _ _=>(qv 1)))
    (aM (bD (i:=4) nd (fD (qv 4) (U4 B rfl (a7 (qv 7) aA)))))))
   (aM (gN 4)))))))
theorem ad0:FnScope ["way","web","seeds","what","signs","e"] ["way","web","seeds","what"] (aS (b4 49)):=.au
theorem ba9 (B:Bt mg) (F:FM K mg "_law_refusal" 49 f fd) (d_order_numbered:bA P w K mg base 8 "order_numbered" ["web","seeds","number"] tI) (d_number_of_order:bA P w K mg base 9 "number_of_order" ["web","seeds","row"] tJ) (d_order_many:bA P w K mg base 8 "order_many" ["web","seeds"] nJ) (cat_HearthError:xO K mg "HearthError") (is_BadSet:jN K mg "BadSet") (is_BadOrder:jN K mg "BadOrder") (is_NoSuch:jN K mg "NoSuch") (is_TooMany:jN K mg "TooMany") (is_ValueError:xQ K mg):Df P w K mg base 10 "_law_refusal" ["way","web","seeds","what"] kO:=
 Df.au F ad0 (fun cdv A outer s H E hr=>by
  have nd:=ad0.nd
  exact⟨(aa8),(aI (eN (i:=4) nd (fA aA))
   (aI (aM3 5 cat_HearthError nd (U8 (fun _=>(eM (qv 0) aF)) (xL d_order_numbered hr (fun _=>(a7 (qv 1) (a7 (qv 2) (a7 (qv 3) aA))))) (U8 (fun _=>(eM (qv 0) aF)) (xL d_number_of_order hr (fun _=>(a7 (qv 1) (a7 (qv 2) (a7 (qv 3) aA))))) (xL d_order_many hr (fun _=>(a7 (qv 1) (a7 (qv 2) aA)))))) (fun _=>(aI (eN (i:=4) nd (fA (a7 (sG B is_NoSuch (qv 5)) (a7 (sG B is_BadOrder (qv 5)) (a7 (sG B is_BadSet (qv 5)) (a7 (sG B is_TooMany (qv 5)) aA))))))
    (aM (mU 4 (aM7 B is_ValueError (qv 5)))))))
   (aM (gN 4)))),aU8⟩)
theorem ad1:FnScope ["script","many","cell","web","seeds","count","far","number","row","odd","wide","way","what"] ["script"] (aS (b4 50)):=.au
theorem bb0 (B:Bt mg) (F:eS K "law" "law" (b4 50) f fd) (d__law_cell_at:Df P w K mg base 1 "_law_cell_at" ["script","k"] lK) (d__law_web:Df P w K mg base 2 "_law_web" ["flow","many","way"] sQ) (d__law_some:Df P w K mg base 2 "_law_some" ["cell","many"] sR) (d_order_many:bA P w K mg base 8 "order_many" ["web","seeds"] nJ) (d__law_spoiled:Df P w K mg base 4 "_law_spoiled" ["web","seeds","row","cell"] tK) (d__law_odd_set:Df P w K mg base 1 "_law_odd_set" ["some","many","cell"] sU) (d__law_refusal:Df P w K mg base 10 "_law_refusal" ["way","web","seeds","what"] kO) (d__law_picked:Df P w K mg base 3 "_law_picked" ["web","seeds","cell"] tD):cW P w K mg base dG 11 f fd ["script"] (oO K yE):=
 aH2 F ad1 (fun xs Q h=>by unfold yE at h; repeat (first | (obtain ⟨rfl,_⟩:=h; rfl) | (obtain ⟨_,h⟩:=h))) (fun cdv A outer s H E hr=>by
  have nd:=ad1.nd
  have hu3:=yF hr
  exact⟨(ab0),(aI (bD (i:=1) nd (bQ (b6 d__law_cell_at hr (a7 (qv 0) (a7 aF aA))) aF))
   (aI (bD (i:=2) nd (b6 d__law_cell_at hr (a7 (qv 0) (a7 aF aA))))
   (aI (bD (i:=3) nd (b6 d__law_web hr (a7 (wK (qv 0) (wJ aF) wI) (a7 (qv 1) (a7 (bQ (b6 d__law_cell_at hr (a7 (qv 0) (a7 aF aA))) aF) aA)))))
   (aI (bD (i:=4) nd (b6 d__law_some hr (a7 (dC (b6 d__law_cell_at hr (a7 (qv 0) (a7 aF aA))) aF) (a7 (qv 1) aA))))
   (aI (bD (i:=5) nd (aM0 d_order_many hr (a7 (qv 3) (a7 (qv 4) aA))))
   (aI (bD (i:=6) nd (bQ (dC (qv 2) aF) (w9 aF aF)))
   (aI (bD (i:=7) nd (cS (fA (a7 (mW aF) (a7 (qv 5) (a7 (mR (mW aF) (qv 6)) (a7 (fD (qv 5) (qv 6)) aA))))) (bQ (qv 2) aF)))
   (aI (bR (mY hu3 (b6 d__law_refusal hr (a7 aF (a7 (qv 3) (a7 (qv 4) (a7 (qv 7) aA))))) (fA (a7 bI (a7 bI (a7 bI (a7 bI (a7 bI aA))))))) (aM (bJ bI)) cM)
   (aI (bD (i:=8) nd (b6 d__law_spoiled hr (a7 (qv 3) (a7 (qv 4) (a7 (b6 d__law_picked hr (a7 (qv 3) (a7 (qv 4) (a7 (qv 2) aA)))) (a7 (dC (qv 2) aF) aA))))))
   (aI (bR (mY hu3 (b6 d__law_refusal hr (a7 aF (a7 (qv 3) (a7 (qv 4) (a7 (qv 8) aA))))) (fA (a7 bI (a7 bI (a7 bI (a7 bI (a7 bI aA))))))) (aM (bJ bI)) cM)
   (aI (bD (i:=9) nd (b6 d__law_odd_set hr (a7 (qv 4) (a7 (qv 1) (a7 (dC (qv 2) aF) aA)))))
   (aI (bD (i:=10) nd (dX (a7 (aF2 (dX (a7 aF aA)) aF) (a7 (dX aA) aA))))
   (aI (gO 11 nd (iQ rfl B.range aF)
    (aI (bD (i:=12) nd (cS (aR1 (a7 (qv 7) (a7 (qv 8) (a7 (qv 8) aA)))) (qv 11)))
    (aI (bR (mY hu3 (b6 d__law_refusal hr (a7 (qv 11) (a7 (qv 3) (a7 (qv 9) (a7 (qv 12) aA))))) (fA (a7 bI (a7 bI (a7 bI (a7 bI (a7 bI aA))))))) (aM (bJ bI)) cM)
    (aI (bR (mY hu3 (b6 d__law_refusal hr (a7 (qv 11) (a7 (qv 10) (a7 (dX aA) (a7 (qv 12) aA))))) (fA (a7 bI (a7 bI (a7 bI (a7 bI (a7 bI aA))))))) (aM (bJ bI)) cM)
    (aM (bR (mY hu3 (b6 d__law_refusal hr (a7 (qv 11) (a7 (qv 10) (a7 (dX (a7 aF aA)) (a7 (qv 12) aA))))) (fA (a7 bI (a7 bI (a7 bI (a7 bI (a7 bI aA))))))) (aM (bJ bI)) cM))))))
   (aM (bJ bI))))))))))))))),aV1⟩)
end
set_option autoImplicit true in
theorem bb1 {l:OpenLaw}{w:World}{K:Frag}{h:Heap}{mg:Str->Option Value} (X:K.In h) (G:h.Ns mainGlobals mg) (hfa:mg "law" = some (.ref fa))
  (h0:FK K "rises" 7 f0 d0)
  (h1:FK K "hearths_in" 8 f1 d1)
  (h2:FK K "near_lists" 9 f2 d2)
  (h3:FK K "sets_among" 13 f3 d3)
  (h4:FK K "marked" 15 f4 d4)
  (h5:FK K "count_inside" 16 f5 d5)
  (h6:FK K "ways_on" 32 f6 d6)
  (h7:FK K "set_of" 33 f7 d7)
  (h8:FK K "_law_cell_at" 37 f8 d8)
  (h9:FK K "_law_stir" 38 f9 d9)
  (h10:FK K "_law_wants" 39 f10 d10)
  (h11:FK K "_law_by_digits" 40 f11 d11)
  (h12:FK K "_law_near" 43 f12 d12)
  (h13:FK K "_law_odd_set" 46 f13 d13)
  (h14:FK K "is_hearth" 10 f14 d14)
  (h15:FK K "has_each_once" 14 f15 d15)
  (h16:FK K "can_kindle" 20 f16 d16)
  (h17:FK K "_law_web" 41 f17 d17)
  (h18:FK K "_law_some" 42 f18 d18)
  (h19:FK K "_law_kindles" 44 f19 d19)
  (h20:FK K "is_set" 11 f20 d20)
  (h21:FK K "kindling" 19 f21 d21)
  (h22:FK K "first_to_kindle" 24 f22 d22)
  (h23:FK K "_law_picked" 45 f23 d23)
  (h24:FK K "_law_good" 47 f24 d24)
  (h25:FK K "made_set" 12 f25 d25)
  (h26:FK K "_law_spoiled" 48 f26 d26)
  (h27:FK K "rounds" 18 f27 d27)
  (h28:FK K "kindled_by" 23 f28 d28)
  (h29:FK K "is_row" 27 f29 d29)
  (h30:FK K "ranks_of" 21 f30 d30)
  (h31:FK K "first_order" 29 f31 d31)
  (h32:FK K "burnt" 22 f32 d32)
  (h33:FK K "branches_of" 31 f33 d33)
  (h34:FK K "is_order" 28 f34 d34)
  (h35:FK K "order_many" 30 f35 d35)
  (h36:FK K "order_numbered" 34 f36 d36)
  (h37:FK K "number_of_order" 35 f37 d37)
  (h38:FK K "_law_refusal" 49 f38 d38)
  (a39:nsIn K mainGlobals "law" = some (some (.ref f39))) (l39:K.lookup f39=some ⟨oc39,od39,.func (fnOf "law" "law" (iL (b4 50)) (dZ (b4 50)) (aS (b4 50)) .none kV39 dc39 pm39 an39 cd39 ct39),sl39⟩) (c39:codeIn K cd39 "law" = true) (k39:keepIn K (.ref f39)=true)
  (z_len:nsIn K mainGlobals "len" = some none)
  (z_range:nsIn K mainGlobals "range" = some none)
  (z_tuple:nsIn K mainGlobals "tuple" = some none)
  (z_list:nsIn K mainGlobals "list" = some none)
  (z_sorted:nsIn K mainGlobals "sorted" = some none)
  (z_all:nsIn K mainGlobals "all" = some none)
  (z_any:nsIn K mainGlobals "any" = some none)
  (z_zip:nsIn K mainGlobals "zip" = some none)
  (z_min:nsIn K mainGlobals "min" = some none)
  (z_max:nsIn K mainGlobals "max" = some none)
  (z_sum:nsIn K mainGlobals "sum" = some none)
  (z_isinstance:nsIn K mainGlobals "isinstance" = some none)
  (z_int:nsIn K mainGlobals "int" = some none)
  (z_bool:nsIn K mainGlobals "bool" = some none)
  (z_enumerate:nsIn K mainGlobals "enumerate" = some none)
  (z_reversed:nsIn K mainGlobals "reversed" = some none)
  {u_MOST_ORDERED:Nat} (z_MOST_ORDEREDx:nsIn K mainGlobals "MOST_ORDERED" = some (some (.int 12 u_MOST_ORDERED)))
  {C_HearthError C_BadSet C_BadOrder C_NoSuch C_TooMany:Addr}
  (aX_HE:nsIn K mainGlobals "HearthError" = some (some (.ref C_HearthError)))
  (aX_BS:nsIn K mainGlobals "BadSet" = some (some (.ref C_BadSet)))
  (aX_BO:nsIn K mainGlobals "BadOrder" = some (some (.ref C_BadOrder)))
  (aX_NS:nsIn K mainGlobals "NoSuch" = some (some (.ref C_NoSuch)))
  (aX_TM:nsIn K mainGlobals "TooMany" = some (some (.ref C_TooMany)))
  (zX_BW:nsIn K mainGlobals "BadWeb" = some none)
  (zX_BP:nsIn K mainGlobals "BadPrices" = some none)
  (zX_BB:nsIn K mainGlobals "BadBoard" = some none)
  (zX_BD:nsIn K mainGlobals "BadDeed" = some none)
  (zX_NW:nsIn K mainGlobals "NotWood" = some none)
  (zX_NP:nsIn K mainGlobals "NoPaper" = some none)
  (zX_NT:nsIn K mainGlobals "NoText" = some none)
  (zX_OR:nsIn K mainGlobals "OddRound" = some none)
  (y_fg:specialIn K (.builtin "object.__class__") "__get__" = some (some (.builtin "getset_descriptor.__get__")))
  (y_ft:takesIn K (.builtin "object.__class__")=some true)
  (z_VE:nsIn K mainGlobals "ValueError" = some none)
  (y1_HE:isClsIn K C_HearthError=true)
  (y2_HE:typeIn K (.ref C_HearthError)=some (.type "type"))
  (y3_HE:findIn K (.ref C_HearthError) "__getattribute__" = some (some (.builtin "BaseException.__getattribute__")))
  (y4_HE:findIn K (.ref C_HearthError) "__getattr__" = some none)
  (y5_HE:findIn K (.ref C_HearthError) "__class__" = some (some (.builtin "object.__class__")))
  (y6_HE:mroIn K C_HearthError (.type "object")=some true)
  (y7_HE:mroIn K C_HearthError (.type "BaseException")=some true)
  (y1_BS:isClsIn K C_BadSet=true)
  (y2_BS:typeIn K (.ref C_BadSet)=some (.type "type"))
  (y3_BS:findIn K (.ref C_BadSet) "__getattribute__" = some (some (.builtin "BaseException.__getattribute__")))
  (y4_BS:findIn K (.ref C_BadSet) "__getattr__" = some none)
  (y5_BS:findIn K (.ref C_BadSet) "__class__" = some (some (.builtin "object.__class__")))
  (y6_BS:mroIn K C_BadSet (.type "object")=some true)
  (y7_BS:mroIn K C_BadSet (.type "BaseException")=some true)
  (y1_BO:isClsIn K C_BadOrder=true)
  (y2_BO:typeIn K (.ref C_BadOrder)=some (.type "type"))
  (y3_BO:findIn K (.ref C_BadOrder) "__getattribute__" = some (some (.builtin "BaseException.__getattribute__")))
  (y4_BO:findIn K (.ref C_BadOrder) "__getattr__" = some none)
  (y5_BO:findIn K (.ref C_BadOrder) "__class__" = some (some (.builtin "object.__class__")))
  (y6_BO:mroIn K C_BadOrder (.type "object")=some true)
  (y7_BO:mroIn K C_BadOrder (.type "BaseException")=some true)
  (y1_NS:isClsIn K C_NoSuch=true)
  (y2_NS:typeIn K (.ref C_NoSuch)=some (.type "type"))
  (y3_NS:findIn K (.ref C_NoSuch) "__getattribute__" = some (some (.builtin "BaseException.__getattribute__")))
  (y4_NS:findIn K (.ref C_NoSuch) "__getattr__" = some none)
  (y5_NS:findIn K (.ref C_NoSuch) "__class__" = some (some (.builtin "object.__class__")))
  (y6_NS:mroIn K C_NoSuch (.type "object")=some true)
  (y7_NS:mroIn K C_NoSuch (.type "BaseException")=some true)
  (y1_TM:isClsIn K C_TooMany=true)
  (y2_TM:typeIn K (.ref C_TooMany)=some (.type "type"))
  (y3_TM:findIn K (.ref C_TooMany) "__getattribute__" = some (some (.builtin "BaseException.__getattribute__")))
  (y4_TM:findIn K (.ref C_TooMany) "__getattr__" = some none)
  (y5_TM:findIn K (.ref C_TooMany) "__class__" = some (some (.builtin "object.__class__")))
  (y6_TM:mroIn K C_TooMany (.type "object")=some true)
  (y7_TM:mroIn K C_TooMany (.type "BaseException")=some true)
  (sB_HE:subIn K (.ref C_HearthError) (.type "BaseException")=some true)
  (s_BS_HE:subIn K (.ref C_BadSet) (.ref C_HearthError)=some true)
  (s_BO_HE:subIn K (.ref C_BadOrder) (.ref C_HearthError)=some true)
  (s_NS_HE:subIn K (.ref C_NoSuch) (.ref C_HearthError)=some true)
  (s_TM_HE:subIn K (.ref C_TooMany) (.ref C_HearthError)=some true)
  (sN_BO:subIn K (.type "NoneType") (.ref C_BadOrder)=some false)
  (s_BS_BO:subIn K (.ref C_BadSet) (.ref C_BadOrder)=some false)
  (n_BS_BO:(C_BadSet == C_BadOrder)=false)
  (s_NS_BO:subIn K (.ref C_NoSuch) (.ref C_BadOrder)=some false)
  (n_NS_BO:(C_NoSuch == C_BadOrder)=false)
  (s_TM_BO:subIn K (.ref C_TooMany) (.ref C_BadOrder)=some false)
  (n_TM_BO:(C_TooMany == C_BadOrder)=false)
  (sN_BS:subIn K (.type "NoneType") (.ref C_BadSet)=some false)
  (s_BO_BS:subIn K (.ref C_BadOrder) (.ref C_BadSet)=some false)
  (n_BO_BS:(C_BadOrder == C_BadSet)=false)
  (s_NS_BS:subIn K (.ref C_NoSuch) (.ref C_BadSet)=some false)
  (n_NS_BS:(C_NoSuch == C_BadSet)=false)
  (s_TM_BS:subIn K (.ref C_TooMany) (.ref C_BadSet)=some false)
  (n_TM_BS:(C_TooMany == C_BadSet)=false)
  (sN_NS:subIn K (.type "NoneType") (.ref C_NoSuch)=some false)
  (s_BS_NS:subIn K (.ref C_BadSet) (.ref C_NoSuch)=some false)
  (n_BS_NS:(C_BadSet == C_NoSuch)=false)
  (s_BO_NS:subIn K (.ref C_BadOrder) (.ref C_NoSuch)=some false)
  (n_BO_NS:(C_BadOrder == C_NoSuch)=false)
  (s_TM_NS:subIn K (.ref C_TooMany) (.ref C_NoSuch)=some false)
  (n_TM_NS:(C_TooMany == C_NoSuch)=false)
  (sN_TM:subIn K (.type "NoneType") (.ref C_TooMany)=some false)
  (s_BS_TM:subIn K (.ref C_BadSet) (.ref C_TooMany)=some false)
  (n_BS_TM:(C_BadSet == C_TooMany)=false)
  (s_BO_TM:subIn K (.ref C_BadOrder) (.ref C_TooMany)=some false)
  (n_BO_TM:(C_BadOrder == C_TooMany)=false)
  (s_NS_TM:subIn K (.ref C_NoSuch) (.ref C_TooMany)=some false)
  (n_NS_TM:(C_NoSuch == C_TooMany)=false)
  (sV_BS:subIn K (.ref C_BadSet) (.type "ValueError")=some true)
  (sV_BO:subIn K (.ref C_BadOrder) (.type "ValueError")=some true)
  (sV_NS:subIn K (.ref C_NoSuch) (.type "ValueError")=some true)
  (sV_TM:subIn K (.ref C_TooMany) (.type "ValueError")=some true)
  (q_BO:excIn K C_BadOrder [.type "ValueError",.type "Exception",.type "BaseException",.type "object"] "ValueError.__new__" = true)
  (q_BS:excIn K C_BadSet [.type "ValueError",.type "Exception",.type "BaseException",.type "object"] "ValueError.__new__" = true)
  (q_NS:excIn K C_NoSuch [.type "ValueError",.type "Exception",.type "BaseException",.type "object"] "ValueError.__new__" = true)
  (q_TM:excIn K C_TooMany [.type "ValueError",.type "Exception",.type "BaseException",.type "object"] "ValueError.__new__" = true)
  : ∃ fd:FuncData,(∀ (s:Shared) (v:Value),BindsTo s fd ⟨[v],[]⟩ [("script",v)])/\∀ base:Heap,K.In base->base.Ns mainGlobals mg->cW l.prog w K mg base dG 11 fa fd ["script"] (rZ K):=by
 have e:=hfa.symm.trans (mg_of X G a39)
 cases e
 have F39:=ao9 (st:=b4 50) l39 c39 k39
 have m39:=mg_of X G a39
 have B:Bt mg:=⟨mg_none_of X G z_len,mg_none_of X G z_range,mg_none_of X G z_tuple,mg_none_of X G z_list,mg_none_of X G z_sorted,mg_none_of X G z_all,mg_none_of X G z_any,mg_none_of X G z_zip,mg_none_of X G z_min,mg_none_of X G z_max,mg_none_of X G z_sum,mg_none_of X G z_isinstance,mg_none_of X G z_int,mg_none_of X G z_bool,mg_none_of X G z_enumerate⟩
 have rv:=mg_none_of X G z_reversed
 have m_MOST_ORDERED:=mg_of X G z_MOST_ORDEREDx
 refine⟨fnOf "law" "law" (iL (b4 50)) (dZ (b4 50)) (aS (b4 50)) .none kV39 dc39 pm39 an39 cd39 ct39,fun s v=>.of_eq rfl,fun base KB _=>?_⟩
 have XK_HearthError:jO K C_HearthError:=⟨y1_HE,y2_HE,y3_HE,y4_HE,y5_HE,y_fg,y_ft,y6_HE,y7_HE⟩
 have XK_BadSet:jO K C_BadSet:=⟨y1_BS,y2_BS,y3_BS,y4_BS,y5_BS,y_fg,y_ft,y6_BS,y7_BS⟩
 have XK_BadOrder:jO K C_BadOrder:=⟨y1_BO,y2_BO,y3_BO,y4_BO,y5_BO,y_fg,y_ft,y6_BO,y7_BO⟩
 have XK_NoSuch:jO K C_NoSuch:=⟨y1_NS,y2_NS,y3_NS,y4_NS,y5_NS,y_fg,y_ft,y6_NS,y7_NS⟩
 have XK_TooMany:jO K C_TooMany:=⟨y1_TM,y2_TM,y3_TM,y4_TM,y5_TM,y_fg,y_ft,y6_TM,y7_TM⟩
 have cat_HearthError:xO K mg "HearthError":=⟨C_HearthError,mg_of X G aX_HE,⟨y1_HE,y2_HE,sB_HE⟩,fun n C h2 h1=>by
  obtain ⟨hm,hb⟩:=nE h2
  simp only [kG,bc5,bc7,bg5] at hm
  rcases hm with rfl | rfl | rfl | rfl | rfl | rfl | rfl | rfl | rfl | rfl | rfl | rfl
  ·rw [zX_BW] at h1; cases h1
  ·rw [aX_BS] at h1; cases h1; exact s_BS_HE
  ·rw [aX_BO] at h1; cases h1; exact s_BO_HE
  ·rw [zX_BP] at h1; cases h1
  ·rw [zX_BB] at h1; cases h1
  ·rw [zX_BD] at h1; cases h1
  ·rw [zX_NW] at h1; cases h1
  ·rw [zX_NP] at h1; cases h1
  ·rw [aX_NS] at h1; cases h1; exact s_NS_HE
  ·rw [aX_TM] at h1; cases h1; exact s_TM_HE
  ·rw [zX_NT] at h1; cases h1
  ·rw [zX_OR] at h1; cases h1⟩
 have is_BadOrder:jN K mg "BadOrder":=⟨C_BadOrder,mg_of X G aX_BO,fun z=>(by cases z),(fun n C b h1 h2=>by
  obtain ⟨hm,hb⟩:=nE h2
  simp only [kG,bc5,bc7,bg5] at hm
  rcases hm with rfl | rfl | rfl | rfl | rfl | rfl | rfl | rfl | rfl | rfl | rfl | rfl
  ·rw [zX_BW] at h1; cases h1
  ·rw [aX_BS] at h1; cases h1; rw [hb,show (("BadSet" : Str) == "BadOrder" || ("BadOrder" : Str) == "HearthError" || ("BadOrder" : Str) == "ValueError")=false by decide]; exact⟨XK_BadSet.exc,gU XK_BadOrder n_BS_BO s_BS_BO⟩
  ·rw [aX_BO] at h1; cases h1; rw [hb,show (("BadOrder" : Str) == "BadOrder" || ("BadOrder" : Str) == "HearthError" || ("BadOrder" : Str) == "ValueError")=true by decide]; exact⟨XK_BadOrder.exc,sI⟩
  ·rw [zX_BP] at h1; cases h1
  ·rw [zX_BB] at h1; cases h1
  ·rw [zX_BD] at h1; cases h1
  ·rw [zX_NW] at h1; cases h1
  ·rw [zX_NP] at h1; cases h1
  ·rw [aX_NS] at h1; cases h1; rw [hb,show (("NoSuch" : Str) == "BadOrder" || ("BadOrder" : Str) == "HearthError" || ("BadOrder" : Str) == "ValueError")=false by decide]; exact⟨XK_NoSuch.exc,gU XK_BadOrder n_NS_BO s_NS_BO⟩
  ·rw [aX_TM] at h1; cases h1; rw [hb,show (("TooMany" : Str) == "BadOrder" || ("BadOrder" : Str) == "HearthError" || ("BadOrder" : Str) == "ValueError")=false by decide]; exact⟨XK_TooMany.exc,gU XK_BadOrder n_TM_BO s_TM_BO⟩
  ·rw [zX_NT] at h1; cases h1
  ·rw [zX_OR] at h1; cases h1),sK XK_BadOrder sN_BO⟩
 have is_BadSet:jN K mg "BadSet":=⟨C_BadSet,mg_of X G aX_BS,fun z=>(by cases z),(fun n C b h1 h2=>by
  obtain ⟨hm,hb⟩:=nE h2
  simp only [kG,bc5,bc7,bg5] at hm
  rcases hm with rfl | rfl | rfl | rfl | rfl | rfl | rfl | rfl | rfl | rfl | rfl | rfl
  ·rw [zX_BW] at h1; cases h1
  ·rw [aX_BS] at h1; cases h1; rw [hb,show (("BadSet" : Str) == "BadSet" || ("BadSet" : Str) == "HearthError" || ("BadSet" : Str) == "ValueError")=true by decide]; exact⟨XK_BadSet.exc,sI⟩
  ·rw [aX_BO] at h1; cases h1; rw [hb,show (("BadOrder" : Str) == "BadSet" || ("BadSet" : Str) == "HearthError" || ("BadSet" : Str) == "ValueError")=false by decide]; exact⟨XK_BadOrder.exc,gU XK_BadSet n_BO_BS s_BO_BS⟩
  ·rw [zX_BP] at h1; cases h1
  ·rw [zX_BB] at h1; cases h1
  ·rw [zX_BD] at h1; cases h1
  ·rw [zX_NW] at h1; cases h1
  ·rw [zX_NP] at h1; cases h1
  ·rw [aX_NS] at h1; cases h1; rw [hb,show (("NoSuch" : Str) == "BadSet" || ("BadSet" : Str) == "HearthError" || ("BadSet" : Str) == "ValueError")=false by decide]; exact⟨XK_NoSuch.exc,gU XK_BadSet n_NS_BS s_NS_BS⟩
  ·rw [aX_TM] at h1; cases h1; rw [hb,show (("TooMany" : Str) == "BadSet" || ("BadSet" : Str) == "HearthError" || ("BadSet" : Str) == "ValueError")=false by decide]; exact⟨XK_TooMany.exc,gU XK_BadSet n_TM_BS s_TM_BS⟩
  ·rw [zX_NT] at h1; cases h1
  ·rw [zX_OR] at h1; cases h1),sK XK_BadSet sN_BS⟩
 have is_NoSuch:jN K mg "NoSuch":=⟨C_NoSuch,mg_of X G aX_NS,fun z=>(by cases z),(fun n C b h1 h2=>by
  obtain ⟨hm,hb⟩:=nE h2
  simp only [kG,bc5,bc7,bg5] at hm
  rcases hm with rfl | rfl | rfl | rfl | rfl | rfl | rfl | rfl | rfl | rfl | rfl | rfl
  ·rw [zX_BW] at h1; cases h1
  ·rw [aX_BS] at h1; cases h1; rw [hb,show (("BadSet" : Str) == "NoSuch" || ("NoSuch" : Str) == "HearthError" || ("NoSuch" : Str) == "ValueError")=false by decide]; exact⟨XK_BadSet.exc,gU XK_NoSuch n_BS_NS s_BS_NS⟩
  ·rw [aX_BO] at h1; cases h1; rw [hb,show (("BadOrder" : Str) == "NoSuch" || ("NoSuch" : Str) == "HearthError" || ("NoSuch" : Str) == "ValueError")=false by decide]; exact⟨XK_BadOrder.exc,gU XK_NoSuch n_BO_NS s_BO_NS⟩
  ·rw [zX_BP] at h1; cases h1
  ·rw [zX_BB] at h1; cases h1
  ·rw [zX_BD] at h1; cases h1
  ·rw [zX_NW] at h1; cases h1
  ·rw [zX_NP] at h1; cases h1
  ·rw [aX_NS] at h1; cases h1; rw [hb,show (("NoSuch" : Str) == "NoSuch" || ("NoSuch" : Str) == "HearthError" || ("NoSuch" : Str) == "ValueError")=true by decide]; exact⟨XK_NoSuch.exc,sI⟩
  ·rw [aX_TM] at h1; cases h1; rw [hb,show (("TooMany" : Str) == "NoSuch" || ("NoSuch" : Str) == "HearthError" || ("NoSuch" : Str) == "ValueError")=false by decide]; exact⟨XK_TooMany.exc,gU XK_NoSuch n_TM_NS s_TM_NS⟩
  ·rw [zX_NT] at h1; cases h1
  ·rw [zX_OR] at h1; cases h1),sK XK_NoSuch sN_NS⟩
 have is_TooMany:jN K mg "TooMany":=⟨C_TooMany,mg_of X G aX_TM,fun z=>(by cases z),(fun n C b h1 h2=>by
  obtain ⟨hm,hb⟩:=nE h2
  simp only [kG,bc5,bc7,bg5] at hm
  rcases hm with rfl | rfl | rfl | rfl | rfl | rfl | rfl | rfl | rfl | rfl | rfl | rfl
  ·rw [zX_BW] at h1; cases h1
  ·rw [aX_BS] at h1; cases h1; rw [hb,show (("BadSet" : Str) == "TooMany" || ("TooMany" : Str) == "HearthError" || ("TooMany" : Str) == "ValueError")=false by decide]; exact⟨XK_BadSet.exc,gU XK_TooMany n_BS_TM s_BS_TM⟩
  ·rw [aX_BO] at h1; cases h1; rw [hb,show (("BadOrder" : Str) == "TooMany" || ("TooMany" : Str) == "HearthError" || ("TooMany" : Str) == "ValueError")=false by decide]; exact⟨XK_BadOrder.exc,gU XK_TooMany n_BO_TM s_BO_TM⟩
  ·rw [zX_BP] at h1; cases h1
  ·rw [zX_BB] at h1; cases h1
  ·rw [zX_BD] at h1; cases h1
  ·rw [zX_NW] at h1; cases h1
  ·rw [zX_NP] at h1; cases h1
  ·rw [aX_NS] at h1; cases h1; rw [hb,show (("NoSuch" : Str) == "TooMany" || ("TooMany" : Str) == "HearthError" || ("TooMany" : Str) == "ValueError")=false by decide]; exact⟨XK_NoSuch.exc,gU XK_TooMany n_NS_TM s_NS_TM⟩
  ·rw [aX_TM] at h1; cases h1; rw [hb,show (("TooMany" : Str) == "TooMany" || ("TooMany" : Str) == "HearthError" || ("TooMany" : Str) == "ValueError")=true by decide]; exact⟨XK_TooMany.exc,sI⟩
  ·rw [zX_NT] at h1; cases h1
  ·rw [zX_OR] at h1; cases h1),sK XK_TooMany sN_TM⟩
 have is_ValueError:xQ K mg:=⟨mg_none_of X G z_VE,fun z=>(by cases z),(fun n C b h1 h2=>by
  obtain ⟨hm,hb⟩:=nE h2
  simp only [kG,bc5,bc7,bg5] at hm
  rcases hm with rfl | rfl | rfl | rfl | rfl | rfl | rfl | rfl | rfl | rfl | rfl | rfl
  ·rw [zX_BW] at h1; cases h1
  ·rw [aX_BS] at h1; cases h1; rw [hb,show (("BadSet" : Str) == "ValueError" || ("ValueError" : Str) == "HearthError" || ("ValueError" : Str) == "ValueError")=true by decide]; exact⟨XK_BadSet.exc,sJ sV_BS⟩
  ·rw [aX_BO] at h1; cases h1; rw [hb,show (("BadOrder" : Str) == "ValueError" || ("ValueError" : Str) == "HearthError" || ("ValueError" : Str) == "ValueError")=true by decide]; exact⟨XK_BadOrder.exc,sJ sV_BO⟩
  ·rw [zX_BP] at h1; cases h1
  ·rw [zX_BB] at h1; cases h1
  ·rw [zX_BD] at h1; cases h1
  ·rw [zX_NW] at h1; cases h1
  ·rw [zX_NP] at h1; cases h1
  ·rw [aX_NS] at h1; cases h1; rw [hb,show (("NoSuch" : Str) == "ValueError" || ("ValueError" : Str) == "HearthError" || ("ValueError" : Str) == "ValueError")=true by decide]; exact⟨XK_NoSuch.exc,sJ sV_NS⟩
  ·rw [aX_TM] at h1; cases h1; rw [hb,show (("TooMany" : Str) == "ValueError" || ("ValueError" : Str) == "HearthError" || ("ValueError" : Str) == "ValueError")=true by decide]; exact⟨XK_TooMany.exc,sJ sV_TM⟩
  ·rw [zX_NT] at h1; cases h1
  ·rw [zX_OR] at h1; cases h1),aM8⟩
 have x_BadOrder:Xc K mg base "BadOrder":=⟨C_BadOrder,_,_,_,_,sH KB (mg_of X G aX_BO) q_BO,bp2,aX_BO⟩
 have x_BadSet:Xc K mg base "BadSet":=⟨C_BadSet,_,_,_,_,sH KB (mg_of X G aX_BS) q_BS,bp2,aX_BS⟩
 have x_NoSuch:Xc K mg base "NoSuch":=⟨C_NoSuch,_,_,_,_,sH KB (mg_of X G aX_NS) q_NS,bp2,aX_NS⟩
 have x_TooMany:Xc K mg base "TooMany":=⟨C_TooMany,_,_,_,_,sH KB (mg_of X G aX_TM) q_TM,bp2,aX_TM⟩
 have D0:=aG2 (aV2 (P:=l.prog) (w:=w) (base:=base) B h0.F) (h0.F.binds (ps:=["things"]) fun _ _ _ _ _ _ us hl=>by obtain ⟨_,rfl⟩:=pE hl; rfl) h0.F.kp (mg_of X G h0.a)
 have D1:=aV5 (P:=l.prog) (w:=w) (base:=base) B (h1.M X G)
 have D2:=aG4 (aV3 (P:=l.prog) (w:=w) (mg:=mg) (base:=base) h2.F) (h2.F.binds (ps:=["web"]) fun _ _ _ _ _ _ us hl=>by obtain ⟨_,rfl⟩:=pE hl; rfl) h2.F.kp (mg_of X G h2.a)
 have D3:=aV6 (P:=l.prog) (w:=w) (base:=base) B (h3.M X G)
 have D4:=aV7 (P:=l.prog) (w:=w) (base:=base) B (h4.M X G)
 have D5:=aV9 (P:=l.prog) (w:=w) (base:=base) B (h5.M X G)
 have D6:=aW1 (P:=l.prog) (w:=w) (base:=base) B (h6.M X G)
 have D7:=aW3 (P:=l.prog) (w:=w) (base:=base) B (h7.M X G)
 have D8:=aW5 (P:=l.prog) (w:=w) (base:=base) B (h8.M X G)
 have D9:=aW6 (P:=l.prog) (w:=w) (base:=base) B (h9.M X G)
 have D10:=aW8 (P:=l.prog) (w:=w) (base:=base) B (h10.M X G)
 have D11:=aW9 (P:=l.prog) (w:=w) (base:=base) B (h11.M X G)
 have D12:=aX1 (P:=l.prog) (w:=w) (base:=base) B (h12.M X G)
 have D13:=aX2 (P:=l.prog) (w:=w) (base:=base) B (h13.M X G)
 have D14:=aX4 (P:=l.prog) (w:=w) (base:=base) B (h14.M X G) D1
 have D15:=aX6 (P:=l.prog) (w:=w) (base:=base) B (h15.M X G) D1
 have D16:=aX8 (P:=l.prog) (w:=w) (base:=base) B (h16.M X G) D5
 have D17:=aX9 (P:=l.prog) (w:=w) (base:=base) B (h17.M X G) D11 D9 D10
 have D18:=aY1 (P:=l.prog) (w:=w) (base:=base) B (h18.M X G) D9
 have D19:=aY3 (P:=l.prog) (w:=w) (base:=base) B (h19.M X G) D12
 have D20:=aY5 (P:=l.prog) (w:=w) (base:=base) B (h20.M X G) D0 D14
 have D21:=aY7 (P:=l.prog) (w:=w) (base:=base) B (h21.M X G) D16 D1
 have D22:=aY8 (P:=l.prog) (w:=w) (base:=base) B (h22.M X G) D16
 have D23:=aY9 (P:=l.prog) (w:=w) (base:=base) B (h23.M X G) D19 D9
 have D24:=aZ0 (P:=l.prog) (w:=w) (base:=base) B (h24.M X G) D19
 have D25:=aZ2 (P:=l.prog) (w:=w) (base:=base) B (h25.M X G) D20 x_BadSet
 have D26:=aZ3 (P:=l.prog) (w:=w) (base:=base) B (h26.M X G) D24
 have D27:=aZ4 (P:=l.prog) (w:=w) (base:=base) B (h27.M X G) D4 D2 D21 D25
 have D28:=aZ5 (P:=l.prog) (w:=w) (base:=base) B (h28.M X G) D4 D2 D22 D25 D15 x_BadOrder
 have D29:=aZ6 (P:=l.prog) (w:=w) (base:=base) B (h29.M X G) D4 D2 D25 D14 D16
 have D30:=aZ7 (P:=l.prog) (w:=w) (base:=base) B (h30.M X G) D27
 have D31:=aZ9 (P:=l.prog) (w:=w) (base:=base) B (h31.M X G) D28 D1
 have D32:=ba1 (P:=l.prog) (w:=w) (base:=base) B (h32.M X G) D30
 have D33:=ba2 (P:=l.prog) (w:=w) (base:=base) B (h33.M X G) D2 D31 D3 D4 D16 D6 D7 rv x_TooMany m_MOST_ORDERED
 have D34:=ba4 (P:=l.prog) (w:=w) (base:=base) B (h34.M X G) D29 D32
 have D35:=ba6 (P:=l.prog) (w:=w) (base:=base) B (h35.M X G) D6 D33
 have D36:=ba7 (P:=l.prog) (w:=w) (base:=base) B (h36.M X G) D33 D7 D6 x_NoSuch
 have D37:=ba8 (P:=l.prog) (w:=w) (base:=base) B (h37.M X G) D33 D34 D7 x_BadOrder
 have D38:=ba9 (P:=l.prog) (w:=w) (base:=base) B (h38.M X G) D36 D37 D35 cat_HearthError is_BadSet is_BadOrder is_NoSuch is_TooMany is_ValueError
 exact aH3 (bb0 B F39 D8 D17 D18 D35 D26 D13 D38 D23)
theorem bb2 {l:OpenLaw}{q:Program}{loose:List Str}{XP:(Str->Option Value)->Heap->Prop}{YP:World->Heap->Prop}{d:DefRec}{K:Params->Frag} (hn:l.most=some 63) (hdf:d.params.defaults = [])
  (hY:∀ (w:World) (h:Heap),YP w h->(K w.params).In h)
  (F:∀ (w:World) (mg:Str->Option Value) (fa:Addr) (h:Heap),(K w.params).In h->h.Ns mainGlobals mg->mg d.name=some (.ref fa)->
   ∃ fd:FuncData,(∀ (s:Shared) (u:Value),BindsTo s fd ⟨[u],[]⟩ [("script",u)])/\∀ base:Heap,(K w.params).In base->base.Ns mainGlobals mg->cW l.prog w (K w.params) mg base dG 11 fa fd ["script"] (rZ (K w.params))) :
  WalkO q loose XP YP l.row.toRowW d [] (fun f vs=>PySem.call f vs):=
 L2.ao8 (n:=63) (k:=11) (x:="script") (CX:=fun _=>dG) (sp:=fun w=>rZ (K w.params)) hn (by decide) hdf ⟨rfl,by decide,by decide⟩ hY F (fun _ _ a ns hl hO hS=>⟨a,ns,rfl,aH4 hO hS,hl,fun _=>rfl⟩) fun _ _ _ _ _ z=>z
end K_k45
open PySem PySem.W PyProof.Rows
theorem PySem.W.Fast.te13052408679150730464 : True := trivial
theorem PySem.W.Fast.te16555476440528808052 : True := trivial
theorem PySem.W.Fast.te5369427470323729400 : True := trivial
set_option maxRecDepth 100000 in
set_option maxHeartbeats 0 in
theorem PySem.Challenge.cw_kindleweb_k45_orders_refused_holds : PySem.Challenge.rw_kindleweb_k45_orders_refused.Holds := by
 w_on; o_law; k_head; (case hw => w_witness2)
 k_fill
 refine K_k45.bb2 (l := PySem.Challenge.rw_kindleweb_k45_orders_refused) rfl rfl (fun w h Y => PySem.W.kIn_of Y) ?F
 case F =>
  intro w mg fa h KX G hmg
  refine' K_k45.bb1 KX G hmg ?h0 ?h1 ?h2 ?h3 ?h4 ?h5 ?h6 ?h7 ?h8 ?h9 ?h10 ?h11 ?h12 ?h13 ?h14 ?h15 ?h16 ?h17 ?h18 ?h19 ?h20 ?h21 ?h22 ?h23 ?h24 ?h25 ?h26 ?h27 ?h28 ?h29 ?h30 ?h31 ?h32 ?h33 ?h34 ?h35 ?h36 ?h37 ?h38 ?a39 ?l39 ?c39 ?k39 ?z_len ?z_range ?z_tuple ?z_list ?z_sorted ?z_all ?z_any ?z_zip ?z_min ?z_max ?z_sum ?z_isinstance ?z_int ?z_bool ?z_enumerate ?z_reversed ?z_MOST_ORDEREDx ?aX_HE ?aX_BS ?aX_BO ?aX_NS ?aX_TM ?zX_BW ?zX_BP ?zX_BB ?zX_BD ?zX_NW ?zX_NP ?zX_NT ?zX_OR ?y_fg ?y_ft ?z_VE ?y1_HE ?y2_HE ?y3_HE ?y4_HE ?y5_HE ?y6_HE ?y7_HE ?y1_BS ?y2_BS ?y3_BS ?y4_BS ?y5_BS ?y6_BS ?y7_BS ?y1_BO ?y2_BO ?y3_BO ?y4_BO ?y5_BO ?y6_BO ?y7_BO ?y1_NS ?y2_NS ?y3_NS ?y4_NS ?y5_NS ?y6_NS ?y7_NS ?y1_TM ?y2_TM ?y3_TM ?y4_TM ?y5_TM ?y6_TM ?y7_TM ?sB_HE ?s_BS_HE ?s_BO_HE ?s_NS_HE ?s_TM_HE ?sN_BO ?s_BS_BO ?n_BS_BO ?s_NS_BO ?n_NS_BO ?s_TM_BO ?n_TM_BO ?sN_BS ?s_BO_BS ?n_BO_BS ?s_NS_BS ?n_NS_BS ?s_TM_BS ?n_TM_BS ?sN_NS ?s_BS_NS ?n_BS_NS ?s_BO_NS ?n_BO_NS ?s_TM_NS ?n_TM_NS ?sN_TM ?s_BS_TM ?n_BS_TM ?s_BO_TM ?n_BO_TM ?s_NS_TM ?n_NS_TM ?sV_BS ?sV_BO ?sV_NS ?sV_TM ?q_BO ?q_BS ?q_NS ?q_TM
  (case h0 | h1 | h2 | h3 | h4 | h5 | h6 | h7 | h8 | h9 | h10 | h11 | h12 | h13 | h14 | h15 | h16 | h17 | h18 | h19 | h20 | h21 | h22 | h23 | h24 | h25 | h26 | h27 | h28 | h29 | h30 | h31 | h32 | h33 | h34 | h35 | h36 | h37 | h38 => exact ⟨by k_is, ⟨⟨_, _, _, _, _, _, _, _, _, rfl, by k_is, by k_is⟩, by k_is⟩⟩)
  (case a39|l39|c39|k39|z_len|z_range|z_tuple|z_list|z_sorted|z_all|z_any|z_zip|z_min|z_max|z_sum|z_isinstance|z_int|z_bool|z_enumerate|z_reversed|z_MOST_ORDEREDx|aX_HE|aX_BS|aX_BO|aX_NS|aX_TM|zX_BW|zX_BP|zX_BB|zX_BD|zX_NW|zX_NP|zX_NT|zX_OR|y_fg|y_ft|z_VE|y1_HE|y2_HE|y3_HE|y4_HE|y5_HE|y6_HE|y7_HE|y1_BS|y2_BS|y3_BS|y4_BS|y5_BS|y6_BS|y7_BS|y1_BO|y2_BO|y3_BO|y4_BO|y5_BO|y6_BO|y7_BO|y1_NS|y2_NS|y3_NS|y4_NS|y5_NS|y6_NS|y7_NS|y1_TM|y2_TM|y3_TM|y4_TM|y5_TM|y6_TM|y7_TM|sB_HE|s_BS_HE|s_BO_HE|s_NS_HE|s_TM_HE|sN_BO|s_BS_BO => k_is)
  (case n_BS_BO => decide)
  (case s_NS_BO => k_is)
  (case n_NS_BO => decide)
  (case s_TM_BO => k_is)
  (case n_TM_BO => decide)
  (case sN_BS|s_BO_BS => k_is)
  (case n_BO_BS => decide)
  (case s_NS_BS => k_is)
  (case n_NS_BS => decide)
  (case s_TM_BS => k_is)
  (case n_TM_BS => decide)
  (case sN_NS|s_BS_NS => k_is)
  (case n_BS_NS => decide)
  (case s_BO_NS => k_is)
  (case n_BO_NS => decide)
  (case s_TM_NS => k_is)
  (case n_TM_NS => decide)
  (case sN_TM|s_BS_TM => k_is)
  (case n_BS_TM => decide)
  (case s_BO_TM => k_is)
  (case n_BO_TM => decide)
  (case s_NS_TM => k_is)
  (case n_NS_TM => decide)
  (case sV_BS|sV_BO|sV_NS|sV_TM => k_is)
  (case q_BO|q_BS|q_NS|q_TM => k_exc)


