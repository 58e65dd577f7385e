import PyProof.Rows.All
import Wide.All
import OpenK.AllK
import Wide.FinOn
import Lean
import PyProof.EqAt
import PyProof.EqKinds
import PyProof.TupleCall
import PyProof.NeKinds
import PyProof.Draws
import PyProof.ZipIter
import PyProof.DictUpdate
import PyProof.AutoSeq1
import PyProof.ListRange
import PyProof.ListMulRoad
import PyProof.FactsAll.tuple_2
import PyProof.Rows.SortShell
import PyProof.EnumFor
import PyProof.EnumMake
import PyProof.EnumStmt
import PyProof.Rows.SortWalk
import KE.KDictList
import PyProof.SumAny
import PyProof.ConsumeWalk
import PyProof.WalksMore
import PyProof.Rows.TupAssign
import PyProof.ExcArgsOwn
import PySem.Challenge.RW_kindleweb_k73_best_plain_pledges
set_option Elab.async false
set_option linter.all false
set_option maxRecDepth 100000
set_option maxHeartbeats 4000000
section
open PySem PySem.Spec PyProof.Rows
def au5:=@wpAny_bind
def au6:=@Heap.get?_push_of_some
def au7:=@Nat.le_refl
def au8:=@List.length_map
def au9:=@wpAny_pure
def av0:=@List.getElem?_eq_getElem
def av1:=@List.mem_cons_of_mem
def av2:=@List.mem_singleton
def av3:=@wpS_bind
def av4:=@List.getElem?_eq_some_iff
def av5:=@List.mem_cons_self
def av6:=@Nat.lt_of_lt_of_le
def av7:=@decide_eq_false
def av8:=@List.mem_cons
def av9:=@wpS_pure
def aw0:=@Bool.false_ne_true
def aw1:=@List.size_toArray
def aw2:=@Heap.lt_size
def aw3:=@List.getElem?_map
def aw4:=@List.length_append
def aw5:=@decide_eq_true
def aw6:=@List.getD_eq_getElem?_getD
def aw8:=@Heap.get?_push_size
def aw9:=@Bool.false_eq_true
def ax0:=@List.mem_of_getElem?
def ax1:=@List.append_assoc
def ax2:=@Nat.le_add_right
def ax4:=@Option.some.inj
def ax5:=@List.mem_append
def ax6:=@List.not_mem_nil
def ax7:=@List.getElem?_set_ne
def ax8:=@List.mem_map
def ax9:=@List.mem_append_right
def ay0:=@List.pairwise_append
def ay1:=@Nat.ne_of_lt
def ay2:=@List.getElem?_append_left
def ay4:=@Nat.zero_le
def ay5:=@List.map_append
def ay6:=@Nat.le_trans
def ay7:=@List.take_of_length_le
def ay8:=@Array.getElem_mem
def ay9:=@Nat.lt_or_ge
def az0:=@List.map_cons
def az1:=@List.take_append_drop
def az3:=@List.pairwise_iff_getElem
def az4:=@PySem.mem_of_lookup
def az5:=@Nat.lt_irrefl
def az6:=@Array.length_toList
def az8:=@List.lookup_cons
def az9:=@decide_eq_true_eq
def aA0:=@Array.toList_append
def aA2:=@List.getElem?_append_right
def aA3:=@if_false
def aA4:=@List.pairwise_singleton
def aA5:=@List.pairwise_map
def aA6:=@wpS_forRange
def aA7:=@PySem.W.kia_one
def aA8:=@List.length_cons
def aA9:=@PyProof.Rows.callWith_type1
def aB0:=@wpAny_newObj_type
def aB1:=@List.take_add_one
def aB2:=@wpAny_callSpecial?_slot
def aB5:=@wpAny_loadPart'
def aB7:=@Nat.le_of_lt
def aB8:=@List.getElem?_set_self
def aB9:=@wpAny_call_entry
def aC1:=@List.getElem_mem
def aC2:=@List.take_length
def aC6:=@wpAny_mono
def aC7:=@List.getElem_of_mem
def aC8:=@wpAny_field
def aC9:=@List.length_singleton
def aD0:=@Array.getElem?_toList
def aD2:=@List.append_nil
def aD3:=@List.length_set
def aD4:=@List.getElem?_cons_succ
def aD5:=@decide_eq_false_iff_not
def aD6:=@Array.getD_eq_getD_getElem?
def aD7:=@Nat.ne_of_gt
def aD9:=@Int.le_refl
def aE0:=@PyProof.Rows.slot_tuple_getitem
def aE1:=@List.drop_eq_getElem_cons
def aE2:=@or_false
def aE3:=@Bool.and_eq_true
def aE5:=@Heap.size_push
def aE6:=@List.mem_of_mem_take
def aE8:=@wpAny_truthy_bool
def aE9:=@Int.toNat_natCast
def aF0:=@Bool.eq_false_iff
def aF1:=@PySem.F.plainAttrs_list
def aF2:=@Heap.SameBut.update
def aF3:=@List.length_take
def aF4:=@Nat.le_of_not_lt
def aF5:=@wpAny_pyIter_tuple
def aF7:=@of_decide_eq_false
def aF8:=@wpAny_seqItems
def aF9:=@wpAny_rule
def aG0:=@wpAny_setField_rec
def aG1:=@Nat.eq_or_lt_of_le
def aG2:=@wpAny_passesOwn
def aG3:=@Bool.eq_iff_iff
def aG4:=@Int.emod_nonneg
def aG5:=@List.mem_append_left
def aG6:=@List.length_range
def aG7:=@wpS_mono
def aG8:=@wpAny_holding
def aG9:=@List.any_cons
def aH3:=@List.drop_take
end
namespace L2
open PySem PySem.Spec PyProof.Rows
abbrev aH:=Sum Int Str
def iN:aH->Value->Bool
 | .inl k,v=>Value.isInt k v
 | .inr x,v=>Value.isStrOf x v
def A2 (w:World):aH->Int
 | .inl k=>hashInt k
 | .inr x=>hashStr w x
theorem fN:∀ {k:aH}{v:Value},iN k v=true->(∃ i t,k=Sum.inl i/\v=Value.int i t) ∨ (∃ x t,k=Sum.inr x/\v=Value.str x t)
 | .inl i,v,h=>by
  obtain ⟨t,e⟩:=Value.isInt_shape (k:=i) (v:=v) h
  exact .inl ⟨i,t,rfl,e⟩
 | .inr x,v,h=>by
  obtain ⟨t,e⟩:=Value.isStrOf_shape (x:=x) (v:=v) h
  exact .inr ⟨x,t,rfl,e⟩
theorem A3 (i:Int) (t:Tok):iN (.inl i) (.int i t)=true:=by simp [iN,Value.isInt]
theorem A4 (x:Str) (t:Tok):iN (.inr x) (.str x t)=true:=by simp [iN,Value.isStrOf]
theorem A5 (a b:Int):decide ((Sum.inl a:aH)=Sum.inl b)=(a == b):=by
 by_cases e:a=b
 ·subst e; simp
 ·have h : ¬ (Sum.inl a:aH)=Sum.inl b:=fun q=>e (Sum.inl.inj q)
  rw [av7 h]
  exact (beq_eq_false_iff_ne.mpr e).symm
theorem A6 (a b:Str):decide ((Sum.inr a:aH)=Sum.inr b)=decide (a=b):=by
 by_cases e:a=b
 ·subst e; simp
 ·have h : ¬ (Sum.inr a:aH)=Sum.inr b:=fun q=>e (Sum.inr.inj q)
  rw [av7 h,av7 e]
theorem A7 (a:Int) (b:Str):decide ((Sum.inl a:aH)=Sum.inr b)=false:=av7 (fun q=>nomatch q)
theorem A8 (a:Str) (b:Int):decide ((Sum.inr a:aH)=Sum.inl b)=false:=av7 (fun q=>nomatch q)
def dW (prog:Program) (w:World):PySem.KeyKind prog w aH where
 is:=iN
 hash:=A2 w
 inj:=fun v a b ha hb=>by
  rcases fN ha with ⟨i,t,rfl,rfl⟩ | ⟨x,t,rfl,rfl⟩
  ·rcases fN hb with ⟨j,u,rfl,e⟩ | ⟨y,u,rfl,e⟩
   ·injection e with e1 _; rw [e1]
   ·exact nomatch e
  ·rcases fN hb with ⟨j,u,rfl,e⟩ | ⟨y,u,rfl,e⟩
   ·exact nomatch e
   ·injection e with e1 _; rw [e1]
 byValue:=fun k v h=>by
  rcases fN h with ⟨i,t,rfl,rfl⟩ | ⟨x,t,rfl,rfl⟩ <;> rfl
 pyHash:=fun hv h=>by
  rcases fN hv with ⟨i,t,rfl,rfl⟩ | ⟨x,t,rfl,rfl⟩
  ·exact wpAny_pyHash_int h
  ·exact wpAny_pyHash_str h
 eqBool:=fun hu hv h=>by
  rcases fN hu with ⟨i,t,rfl,rfl⟩ | ⟨x,t,rfl,rfl⟩
  ·rcases fN hv with ⟨j,u,rfl,rfl⟩ | ⟨y,u,rfl,rfl⟩
   ·rw [A5] at h; exact wpAny_eqBool_int h
   ·rw [A7] at h; exact SeqAt.EqAt.int_str i t y u _ _ _ _ h
  ·rcases fN hv with ⟨j,u,rfl,rfl⟩ | ⟨y,u,rfl,rfl⟩
   ·rw [A8] at h; exact SeqAt.EqAt.str_int x t j u _ _ _ _ h
   ·rw [A6] at h; exact wpAny_eqBool_str h
 «strs»:=fun k x t v h=>by
  rcases fN h with ⟨i,u,rfl,e⟩ | ⟨y,u,rfl,e⟩
  ·exact nomatch e
  ·injection e with e1 _
   subst e1
   cases v <;> rfl
theorem A9 (prog:Program) (w:World) (i:Int) (t:Tok):(dW prog w).is (.inl i) (.int i t)=true:=A3 i t
theorem B0 (prog:Program) (w:World) (x:Str) (t:Tok):(dW prog w).is (.inr x) (.str x t)=true:=A4 x t
inductive V where
 | non | bl (b:Bool) | int (i:Int) | str (x:Str) | byt (b:Array UInt8) | flt (b:UInt64) | ref (a:Addr) | ty (n:String)
 deriving DecidableEq
def aO:V->Value->Prop
 | .non,u=>u=Value.none
 | .bl b,u=>u=Value.bool b
 | .int i,u=>∃ t,u=Value.int i t
 | .str x,u=>∃ t,u=Value.str x t
 | .byt b,u=>∃ t,u=Value.bytes b t
 | .flt b,u=>∃ t,u=Value.float b t
 | .ref a,u=>u=Value.ref a
 | .ty n,u=>u=Value.type n
abbrev aG:List V->List Value->Prop:=Paired aO
theorem aG.length {xs:List V}{us:List Value} (r:aG xs us):xs.length=us.length:=Paired.length r
theorem aG.get:∀ {xs:List V}{us:List Value}{i:Nat}{x:V},aG xs us->xs[i]? = some x->∃ u,us[i]? = some u/\aO x u
 | _,_,_,_,.nil,e=>by simp at e
 | _,_,0,_,.cons r _,e=>by simp at e; subst e; exact⟨_,rfl,r⟩
 | _,_,i+1,x,.cons _ t,e=>by
  obtain ⟨u,h1,h2⟩:=aG.get (i:=i) (x:=x) t (by simpa using e)
  exact⟨u,by simpa using h1,h2⟩
theorem aG.append:∀ {xs ys:List V}{us ws:List Value},aG xs us->aG ys ws->aG (xs ++ ys) (us ++ ws)
 | _,_,_,_,.nil,s=>s
 | _,_,_,_,.cons r t,s=>.cons r (aG.append t s)
theorem aG.take:∀ {xs:List V}{us:List Value} (n:Nat),aG xs us->aG (xs.take n) (us.take n)
 | _,_,0,_=>.nil
 | _,_,_+1,.nil=>.nil
 | _,_,n+1,.cons r t=>.cons r (aG.take n t)
theorem aG.drop:∀ {xs:List V}{us:List Value} (n:Nat),aG xs us->aG (xs.drop n) (us.drop n)
 | _,_,0,r=>r
 | _,_,_+1,.nil=>.nil
 | _,_,n+1,.cons _ t=>aG.drop n t
def iO:Option V->Option Value->Prop
 | some v,some u=>aO v u
 | none,none=>True
 | _,_=>False
def KV {κ:Type}:List (κ × V)->List (κ × Value)->Prop:=Paired fun (p:κ × V) (q:κ × Value)=>p.1=q.1/\aO p.2 q.2
def kV:aH->V
 | .inl i=>.int i
 | .inr x=>.str x
inductive HO where
 | lst (xs:List V)
 | tup (xs:List V)
 | dK (kvs:List (aH × V)) | dT (kvs:List (List aH × V))
 | set (S:Int->Bool) (n:Nat)
 | ins (C dx:Addr) (fs:List (Str × V))
 | own (x:Addr)
 | xd (fs:List (Str × V))
 | met (f x:Addr)
 | rng (lo hi:Int)
 | frz (o:Obj) (u:HO)
 | tbl (ps:Array Value)
 | ext (φ:Heap->Prop)
abbrev Hp:=Addr->Option HO
def upd (H:Hp) (a:Addr) (o:HO):Hp:=fun b=>if b=a then some o else H b
theorem aZ {H:Hp}{a:Addr}{o:HO}:upd H a o a=some o:=by unfold upd; rw [if_pos rfl]
theorem aN {H:Hp}{a b:Addr}{o:HO} (h:b ≠ a):upd H a o b=H b:=by unfold upd; rw [if_neg h]
theorem B1 {H:Hp}{a b:Addr}{o u:HO} (h:H a=some o) (h':H b=some u) (d:o ≠ u):a ≠ b:=by
 intro e; subst e; rw [h] at h'; exact d (ax4 h')
theorem cE {H:Hp}{a b:Addr}{o:HO} (h:H a=some o) (h':H b=none):a ≠ b:=by
 intro e; subst e; rw [h] at h'; cases h'
section
variable (P : Program) (w : World)
def b6 (H:Hp) (h:Heap) (a:Addr):HO->Prop
 | .lst xs=>xs.length<=sizeLine/\∃ (its:List Value) (n:Nat),aG xs its/\h.get? a=some { cls:=.type "list",data:=.seq its.toArray n }
 | .tup xs=>xs.length<=sizeLine/\∃ its:List Value,aG xs its/\IsTup h a its.toArray
 | .dK kvs=>kvs.length<=sizeLine/\(a == sysModules)=false/\∃ vs,KV kvs vs/\h.DictOf (dW P w) a vs
 | .dT kvs=>kvs.length<=sizeLine/\(a == sysModules)=false/\∃ xs:List (List aH × Addr × Value),
   Paired (fun (p:List aH × V) (q:List aH × Addr × Value)=>p.1=q.1/\H q.2.1=some (.tup (p.1.map kV))/\aO p.2 q.2.2) kvs xs/\
   ∃ o es ep,h.get? a=some o/\o.ExactDict/\o.data = .dict es ep/\es.toList=xs.map (entryOfKey (tupleKind (dW P w)))/\(xs.map (·.1)).Nodup
 | .set S n=>h.SetOf (intKind P w) a S n
 | .ins C dx fs=>H dx=some (.own a)/\fs.length<=1000/\dx ≠ a/\h.get? a=some (PySem.W.instObj C dx)/\
   ∃ mA,h.Ns1 dx mA/\(∀ f,iO (fs.lookup f) (mA f))/\PySem.Within mA (fs.map (·.1))
 | .own _=>∃ o,h.get? a=some o
 | .xd fs=>∃ mA,h.Ns1 a mA/\∀ f,iO (fs.lookup f) (mA f)
 | .rng lo hi=>∃ t u v,h.get? a=some { cls:=.type "range",data:=.fields #[.int lo t,.int hi u,.int 1 v] }
 | .frz o u=>h.get? a=some o/\b6 H h a u
 | .tbl ps=>h.get? a=some { cls:=.none,data:=.fields ps }
 | .met f x=>h.get? a=some (PySem.W.methodObj (.ref f) (.ref x))
 | .ext φ=>φ h/\(∃ o,h.get? a=some o)/\∀ h1 h2:Heap,φ h1->(∀ o,h1.get? a=some o->h2.get? a=some o)->φ h2
def bD (H:Hp) (h:Heap):Prop:=∀ a o,H a=some o->b6 P w H h a o
end
section
variable {P : Program} {w : World} {H H' : Hp} {h h' : Heap} {a : Addr} {o : HO}
theorem b6.lt (x:b6 P w H h a o):a < h.objs.size:=by
 cases o with
 | lst xs=>obtain ⟨_,_,_,_,e⟩:=x; exact aw2 e
 | tup xs=>obtain ⟨_,_,_,p⟩:=x; exact p.lt
 | dK kvs=>obtain ⟨_,_,_,_,o,_,_,e,_⟩:=x; exact aw2 e
 | dT kvs=>obtain ⟨_,_,_,_,o,_,_,e,_⟩:=x; exact aw2 e
 | set S n=>obtain ⟨o,_,_,_,e,_⟩:=x; exact aw2 e
 | ins C dx fs=>obtain ⟨_,_,_,e,_⟩:=x; exact aw2 e
 | own y=>obtain ⟨_,e⟩:=x; exact aw2 e
 | xd fs=>obtain ⟨_,⟨_,_,_,e,_⟩,_⟩:=x; exact aw2 e
 | rng lo hi=>obtain ⟨_,_,_,e⟩:=x; exact aw2 e
 | frz ob u=>obtain ⟨e,_⟩:=x; exact aw2 e
 | tbl ps=>exact aw2 (show h.get? a=some _ from x)
 | met f y=>exact aw2 (show h.get? a=some _ from x)
 | ext φ=>obtain ⟨_,⟨_,e⟩,_⟩:=x; exact aw2 e
theorem Paired.mapP {α β:Type}{F G:α->β->Prop}:∀ {l₁:List α}{l₂:List β},Paired F l₁ l₂->(∀ a b,F a b->G a b)->Paired G l₁ l₂
 | _,_,.nil,_=>.nil
 | _,_,.cons r t,f=>.cons (f _ _ r) (Paired.mapP t f)
theorem b6.stay (x:b6 P w H h a o) (k:∀ b u,(b=a ∨ H b=some (.own a))->h.get? b=some u->h'.get? b=some u)
  (ho:∀ b,H b=some (.own a)->H' b=some (.own a)) (ht:∀ b xs,H b=some (.tup xs)->H' b=some (.tup xs)):b6 P w H' h' a o:=by
 induction o with
 | lst xs=>obtain ⟨z,its,n,r,e⟩:=x; exact⟨z,its,n,r,k _ _ (.inl rfl) e⟩
 | tup xs=>obtain ⟨z,its,r,ob,e,c⟩:=x; exact⟨z,its,r,ob,k _ _ (.inl rfl) e,c⟩
 | dK kvs=>obtain ⟨z,y,vs,r,ob,es,ep,e,c⟩:=x; exact⟨z,y,vs,r,ob,es,ep,k _ _ (.inl rfl) e,c⟩
 | dT kvs=>
  obtain ⟨z,y,xs,r,ob,es,ep,e,c⟩:=x
  exact⟨z,y,xs,Paired.mapP r fun p q z=>⟨z.1,ht _ _ z.2.1,z.2.2⟩,ob,es,ep,k _ _ (.inl rfl) e,c⟩
 | set S n=>obtain ⟨ob,es,ep,t,e,c⟩:=x; exact⟨ob,es,ep,t,k _ _ (.inl rfl) e,c⟩
 | ins C dx fs=>
  obtain ⟨d,z,ne,e,mA,⟨od,es,ep,e2,c⟩,r⟩:=x
  exact⟨ho _ d,z,ne,k _ _ (.inl rfl) e,mA,⟨od,es,ep,k _ _ (.inr d) e2,c⟩,r⟩
 | own y=>obtain ⟨ob,e⟩:=x; exact⟨ob,k _ _ (.inl rfl) e⟩
 | xd fs=>obtain ⟨mA,⟨od,es,ep,e,c⟩,r⟩:=x; exact⟨mA,⟨od,es,ep,k _ _ (.inl rfl) e,c⟩,r⟩
 | rng lo hi=>obtain ⟨t,u,v,e⟩:=x; exact⟨t,u,v,k _ _ (.inl rfl) e⟩
 | frz ob u ih=>obtain ⟨e,q⟩:=x; exact⟨k _ _ (.inl rfl) e,ih q⟩
 | tbl ps=>
  have e:h.get? a=some { cls:=.none,data:=.fields ps }:=x
  show h'.get? a=some { cls:=.none,data:=.fields ps }
  exact k a _ (.inl rfl) e
 | met f y=>
  have e:h.get? a=some (PySem.W.methodObj (.ref f) (.ref y)):=x
  show h'.get? a=some (PySem.W.methodObj (.ref f) (.ref y))
  exact k a _ (.inl rfl) e
 | ext φ=>obtain ⟨p,⟨o,e⟩,st⟩:=x; exact⟨st _ _ p fun o q=>k _ _ (.inl rfl) q,⟨o,k _ _ (.inl rfl) e⟩,st⟩
theorem bD.lt (x:bD P w H h) (e:H a=some o):a < h.objs.size:=(x a o e).lt
theorem bD.fresh (x:bD P w H h) (e:h.objs.size<=a):H a=none:=by
 cases q:H a with
 | none=>rfl
 | some u=>exact absurd (av6 (x.lt q) e) (az5 _)
theorem bD.kept (x:bD P w H h) (k:∀ b u,h.get? b=some u->h'.get? b=some u):bD P w H h':=fun a o e=>
 (x a o e).stay (fun b u _ q=>k b u q) (fun _ q=>q) fun _ _ q=>q
theorem bD.laid (x:bD P w H h) (k:∀ b u,h.get? b=some u->h'.get? b=some u) (hp:h.objs.size<=a) (new:b6 P w (upd H a o) h' a o):bD P w (upd H a o) h':=fun b u e=>by
 have hn:=x.fresh hp
 by_cases hb:b=a
 ·subst hb; rw [aZ] at e; cases e; exact new
 ·rw [aN hb] at e
  exact (x b u e).stay (fun c v _ q=>k c v q) (fun c q=>by rw [aN (cE q hn)]; exact q) fun c xs q=>by rw [aN (cE q hn)]; exact q
end
def Rd (H:Hp) (a:Addr) (u:HO):Prop:=H a=some u ∨ ∃ o,H a=some (.frz o u)
theorem Rd.ok {P:Program}{w:World}{H:Hp}{h:Heap}{a:Addr}{u:HO} (r:Rd H a u) (x:bD P w H h):b6 P w H h a u:=by
 rcases r with r | ⟨o,r⟩
 ·exact x a u r
 ·obtain ⟨_,q⟩:=x a _ r
  exact q
def jI:Option HO->Prop
 | some (.lst _)=>True
 | some (.dK _)=>True
 | some (.dT _)=>True
 | some (.set _ _)=>True
 | some (.ins _ _ _)=>True
 | some (.ext _)=>True
 | _=>False
section
variable {P : Program} {w : World} {H : Hp} {h h' : Heap} {x e : Addr} {o' : HO}
theorem bD.write (ok:bD P w H h) (mu:jI (H x)) (he:e=x ∨ H e=some (.own x)) (k:∀ b u,b ≠ e->h.get? b=some u->h'.get? b=some u) (heo:∃ u,h'.get? e=some u)
  (new:b6 P w (upd H x o') h' x o'):bD P w (upd H x o') h':=fun b u q=>by
 have nown:∀ c y,H c=some (.own y)->c ≠ x:=fun c y r z=>by subst z; rw [r] at mu; exact mu
 have ntup:∀ c xs,H c=some (.tup xs)->c ≠ x:=fun c xs r z=>by subst z; rw [r] at mu; exact mu
 by_cases hb:b=x
 ·subst hb; rw [aZ] at q; cases q; exact new
 ·rw [aN hb] at q
  by_cases hbe:b=e
  ·have q':H b=some (.own x):=by
    rcases he with z | z
    ·exact absurd (hbe.trans z) hb
    ·rw [hbe]; exact z
   rw [q] at q'; cases q'
   obtain ⟨v,hv⟩:=heo
   exact⟨v,by rw [hbe]; exact hv⟩
  ·refine (ok b u q).stay (fun c v hc r=>k c v ?_ r) (fun c r=>by rw [aN (nown c b r)]; exact r) fun c xs r=>by rw [aN (ntup c xs r)]; exact r
   rcases hc with rfl | hc
   ·exact hbe
   ·rintro rfl
    rcases he with z | z
    ·exact nown c b hc z
    ·rw [hc] at z; cases z; exact hb rfl
end
structure Un (fs ex:List Addr) (H H':Hp) (h h':Heap):Prop where
 keep:∀ b o,h.get? b=some o->H b=none->b ∉ fs->b ∉ ex->h'.get? b=some o
 slot:∀ b o,h.get? b=some o->H b=none->b ∈ fs->b ∉ ex->∃ sl,h'.get? b=some { o with slots:=sl }
 free:∀ b o,h.get? b=some o->H b=none->b ∉ ex->H' b=none
 there:∀ b o,h.get? b=some o->b ∉ ex->∃ o',h'.get? b=some o'
 tups:∀ b xs,H b=some (.tup xs)->H' b=some (.tup xs)
 frzs:∀ b o u,H b=some (.frz o u)->H' b=some (.frz o u)
 tbls:∀ b ps,H b=some (.tbl ps)->∃ more,H' b=some (.tbl (ps ++ more))
section
variable {fs fs' ex ex' : List Addr} {H H1 H2 : Hp} {h h1 h2 h' : Heap} {a x e : Addr} {o : HO}
theorem Un.any (u:Un fs ex H H1 h h1) {b:Addr}{ob:Obj} (q:h.get? b=some ob) (n:H b=none) (hx:b ∉ ex):∃ sl,h1.get? b=some { ob with slots:=sl }:=by
 by_cases hb:b ∈ fs
 ·exact u.slot b ob q n hb hx
 ·exact⟨ob.slots,u.keep b ob q n hb hx⟩
theorem Un.kept (k:∀ b u,h.get? b=some u->h'.get? b=some u):Un fs ex H H h h':=
 ⟨fun b ob q _ _ _=>k b ob q,fun b ob q _ _ _=>⟨ob.slots,k b ob q⟩,fun _ _ _ n _=>n,fun b ob q _=>⟨ob,k b ob q⟩,fun _ _ q=>q,fun _ _ _ q=>q,fun _ ps q=>⟨#[],by rw [q]; simp⟩⟩
theorem Un.refl:Un fs ex H H h h:=Un.kept fun _ _ q=>q
theorem Un.laid (k:∀ b u,h.get? b=some u->h'.get? b=some u) (hp:h.objs.size<=a) (hn:H a=none):Un fs ex H (upd H a o) h h' where
 keep:=fun b u q _ _ _=>k b u q
 slot:=fun b u q _ _ _=>⟨u.slots,k b u q⟩
 free:=fun b u q n _=>by rw [aN (ay1 (av6 (aw2 q) hp))]; exact n
 there:=fun b u q _=>⟨u,k b u q⟩
 tups:=fun b xs q=>by rw [aN (cE q hn)]; exact q
 frzs:=fun b u xs q=>by rw [aN (cE q hn)]; exact q
 tbls:=fun b ps q=>⟨#[],by rw [aN (cE q hn),q]; simp⟩
theorem Un.write (mu:jI (H x)) (he:e=x ∨ H e=some (.own x)) (k:∀ b u,b ≠ e->h.get? b=some u->h'.get? b=some u) (heo:∃ u,h'.get? e=some u):Un fs ex H (upd H x o) h h':=by
 have hx:∀ b,H b=none->b ≠ x:=fun b n z=>by subst z; rw [n] at mu; exact mu
 have hb:∀ b,H b=none->b ≠ e:=fun b n z=>by
  subst z
  rcases he with r | r
  ·exact hx b n r
  ·rw [n] at r; cases r
 have hm:∀ b u,H b=some u->¬ jI (some u)->b ≠ x:=fun b u q nm z=>by subst z; rw [q] at mu; exact nm mu
 refine⟨fun b u q n _ _=>k b u (hb b n) q,fun b u q n _ _=>⟨u.slots,k b u (hb b n) q⟩,fun b u q n _=>by rw [aN (hx b n)]; exact n,fun b u q _=>?_,
  fun b xs q=>by rw [aN (hm b _ q fun z=>z)]; exact q,fun b u xs q=>by rw [aN (hm b _ q fun z=>z)]; exact q,fun b ps q=>⟨#[],by rw [aN (hm b _ q fun z=>z),q]; simp⟩⟩
 by_cases hbe:b=e
 ·subst hbe; exact heo
 ·exact⟨u,k b u hbe q⟩
end
def l9 (h:Heap) (H:Hp):List Addr:=(List.range h.objs.size).filter fun a=>(H a).isSome
def fO (h:Heap) (H:Hp):Heap:=PySem.W.hideAll h (l9 h H)
theorem B2 (h:Heap) (H:Hp):(fO h H).objs.size=h.objs.size:=PySem.W.hideAll_size _ _
theorem B3 {h:Heap}{H:Hp}{b:Addr}{o:Obj} (e:h.get? b=some o) (n:H b=none):(fO h H).get? b=some o:=
 PySem.W.hideAll_get _ e fun hm=>by
  have q:(H b).isSome=true:=(List.mem_filter.mp hm).2
  rw [n] at q; simp at q
theorem B4 {h:Heap}{H:Hp}{b:Addr}{o:Obj} (e:(fO h H).get? b=some o):h.get? b=some o/\H b=none:=by
 have e':h.get? b=some o:=PySem.W.of_hideAll (l9 h H) e
 refine⟨e',?_⟩
 cases q:H b with
 | none=>rfl
 | some x=>
  have hm:b ∈ l9 h H:=List.mem_filter.mpr ⟨List.mem_range.mpr (aw2 e'),by simp [q]⟩
  have z:(fO h H).get? b=none:=PySem.W.hideAll_none (l9 h H) hm
  rw [z] at e; cases e
def jJ (g h:Heap) (L:Addr):List (Addr × Obj):=(List.range h.objs.size).filterMap fun a=>if a=L ∨ (g.get? a).isSome=true then none else (h.get? a).map fun o=>(a,o)
theorem sL {g h:Heap}{L a:Addr}{o:Obj} (h1:a ≠ L) (h2:g.get? a=none) (h3:h.get? a=some o):(a,o) ∈ jJ g h L:=
 List.mem_filterMap.mpr ⟨a,List.mem_range.mpr (aw2 h3),by simp [h1,h2,h3]⟩
theorem B5 {g h:Heap}{L:Addr}{p:Addr × Obj} (hp:p ∈ jJ g h L):p.1 ≠ L/\g.get? p.1=none/\h.get? p.1=some p.2:=by
 obtain ⟨b,_,e⟩:=List.mem_filterMap.mp hp
 split at e
 ·cases e
 ·rename_i hn
  cases q:h.get? b with
  | none=>rw [q] at e; simp at e
  | some u=>
   rw [q] at e
   simp only [Option.map_some,Option.some.injEq] at e
   subst e
   refine⟨fun z=>hn (.inl z),?_,q⟩
   show g.get? b=none
   cases r:g.get? b with
   | none=>rfl
   | some v=>exact (hn (.inr (by simp [r]))).elim
def cF (g h:Heap) (L d:Addr):List (Addr × Obj):=(jJ g h L).filter fun p=>decide (p.1 ≠ d)
theorem B6 {g h:Heap}{L:Addr}:News g L h (jJ g h L):=fun p hp=>let ⟨a,b,c⟩:=B5 hp; ⟨c,a,b⟩
structure Mod (K:PySem.W.Frag) (mg:Str->Option Value) (base:Heap):Prop where
 kin:K.In base
 glob:base.Ns mainGlobals mg
 blt:∃ mb,base.Ns builtinsNs mb/\∀ x:Str,x ≠ "__name__"->mb x=bootBuiltins x
 nolimit:base.NoLimit
structure Cx where
 prog:Program
 w:World
 K:PySem.W.Frag
 mg:Str->Option Value
 base:Heap
 A:Around
 N:List Str
 s₀:Shared
 H₀:Hp
 env:Env
 outer:List Env
 stack:List Env
 ex:List Addr
 fn:Str->Bool
 calm:Bool
 pn:List (Addr × Obj)
 xe:Value->Shared->Prop
def eN (l:List Env):List Addr:=l.filterMap (·.frame)
abbrev Cx.fs (X:Cx):List Addr:=eN X.outer
def gA (sc:Scope) (x:Str):Prop:=sc.names.lookup x=some .local ∨ sc.names.lookup x=some .cell ∨ sc.names.lookup x=some .free
def hE (sc:Scope) (x:Str):Prop:=sc.names.lookup x=some .local ∨ sc.names.lookup x=some .cell
def B7 (env:Env) (h:Heap) (m:Str->Option Value) (x:Str) (u:Value):Prop:=
 (env.kindOf x=some .local/\m x=some u) ∨ ((env.kindOf x=some .cell ∨ env.kindOf x=some .free)/\∃ c,env.cells.lookup x=some c/\h.IsCell c (some u))
structure Cx.Ok (X:Cx):Prop where
 mod:Mod X.K X.mg X.base
 kind:X.env.scope.kind = .function
 glob:X.env.globals=mainGlobals
 blt:X.env.builtins=builtinsNs
 above:X.s₀.heap.objs.size<=X.env.locals
 inj:∀ x y c,X.env.cells.lookup x=some c->X.env.cells.lookup y=some c->x=y
 has:∀ x,(X.env.kindOf x=some .cell ∨ X.env.kindOf x=some .free)->∃ c,X.env.cells.lookup x=some c
 cab:∀ x c,X.fn x=true->X.env.cells.lookup x=some c->X.s₀.heap.objs.size<=c
 hd:X.calm=true->X.A.handled=none
 frames:X.A.frames=some X.stack
 stk:X.stack=X.outer ∨ (X.stack=X.env :: X.outer/\X.env.frame=some X.env.locals)
 exf:∀ b ∈ X.ex,b ≠ X.env.locals/\∀ x c,X.env.cells.lookup x=some c->c ≠ b
 bs:∀ b o,X.base.get? b=some o->X.s₀.heap.get? b=some o/\X.H₀ b=none
 bsz:X.base.objs.size<=X.s₀.heap.objs.size
 noex:∀ b o,X.base.get? b=some o->b ∉ X.ex
 exfs:∀ b ∈ X.ex,b ∉ X.fs
 funs:X.s₀.heap.FunFrames X.base X.outer
 frf:∀ b ∈ X.fs,X.H₀ b=none
structure a5 (X:Cx) (pins:List (Addr × Obj)) (σ:List (Option V)) (H:Hp) (s:Shared):Prop where
 ok:X.Ok
 os:s.os=X.s₀.os
 bare:AllBare s.gens
 base:Un X.fs X.ex X.H₀ H X.s₀.heap s.heap
 loc:∃ m,s.heap.Ns X.env.locals m/\∀ (i:Nat) (x:Str) (v:V),X.N[i]? = some x->σ[i]? = some (some v)->gA X.env.scope x->∃ u,aO v u/\B7 X.env s.heap m x u
 cell:∀ x c,X.env.cells.lookup x=some c->∃ v,s.heap.IsCell c v
 free:H X.env.locals=none
 freeC:∀ x c,X.env.cells.lookup x=some c->H c=none
 pin:∀ p ∈ X.pn ++ pins,s.heap.get? p.1=some p.2/\H p.1=none/\p.1 ≠ X.env.locals/\p.1 ∉ X.fs/\∀ v,p.2.data ≠ .cell v
 hok:bD X.prog X.w H s.heap
 len:σ.length=X.N.length
section
variable {X : Cx} {pins : List (Addr × Obj)} {σ : List (Option V)} {H H' : Hp} {s : Shared} {h' : Heap}
theorem Cx.Ok.nofr (ok:X.Ok) {b:Addr}{o:Obj} (e:X.base.get? b=some o):b ∉ X.fs:=fun hb=>by
 have:=(ok.funs.mem hb).1
 rw [e] at this; cases this
theorem a5.bs (I:a5 X pins σ H s):∀ b o,X.base.get? b=some o->s.heap.get? b=some o/\H b=none:=fun b o e=>
 ⟨I.base.keep b o (I.ok.bs b o e).1 (I.ok.bs b o e).2 (I.ok.nofr e) (I.ok.noex b o e),I.base.free b o (I.ok.bs b o e).1 (I.ok.bs b o e).2 (I.ok.noex b o e)⟩
theorem a5.bk (I:a5 X pins σ H s):∀ b o,X.base.get? b=some o->s.heap.get? b=some o:=fun b o e=>(I.bs b o e).1
theorem a5.mod (I:a5 X pins σ H s):Mod X.K X.mg X.base:=I.ok.mod
theorem a5.kIn (I:a5 X pins σ H s):X.K.In s.heap:=I.ok.mod.kin.keeps I.bk
theorem a5.fr (I:a5 X pins σ H s):∃ m,Fr X.base X.env.locals s.heap m:=
 let ⟨m,hn,_⟩:=I.loc
 ⟨m,hn,I.bk,ay6 I.ok.bsz I.ok.above⟩
theorem a5.lt (I:a5 X pins σ H s):X.env.locals < s.heap.objs.size:=let ⟨_,hn,_⟩:=I.loc; hn.lt
theorem a5.sz (I:a5 X pins σ H s):X.s₀.heap.objs.size<=s.heap.objs.size:=ay6 I.ok.above (aB7 I.lt)
theorem a5.nofs (I:a5 X pins σ H s) {a:Addr} (h:s.heap.objs.size<=a):a ∉ X.fs:=fun hb=>by
 obtain ⟨_,o,ho,_⟩:=I.ok.funs.mem hb
 exact absurd (av6 (aw2 ho) (ay6 I.sz h)) (az5 _)
theorem a5.cne (I:a5 X pins σ H s):∀ x c,X.env.cells.lookup x=some c->c ≠ X.env.locals:=fun x c e z=>by
 obtain ⟨v,o,ho,hd⟩:=I.cell x c e
 obtain ⟨m,⟨o',es,ep,ho',hd',_⟩,_⟩:=I.loc
 rw [z,ho'] at ho; cases ho; rw [hd'] at hd; cases hd
theorem a5.funs (I:a5 X pins σ H s):s.heap.FunFrames X.base X.outer:=by
 have all:∀ (l:List Env),(∀ b ∈ eN l,b ∈ X.fs)->X.s₀.heap.FunFrames X.base l->s.heap.FunFrames X.base l:=by
  intro l
  induction l with
  | nil=>intro _ _; trivial
  | cons env r ih=>
   intro hs hl
   obtain ⟨hk,⟨L,o,hf,hn,ho,hd⟩,hr⟩:=hl
   have hL:L ∈ X.fs:=hs L (by unfold eN; rw [List.filterMap_cons,hf]; exact av5)
   obtain ⟨sl,e⟩:=I.base.slot L o ho (I.ok.frf L hL) hL fun z=>I.ok.exfs L z hL
   exact⟨hk,⟨L,_,hf,hn,e,hd⟩,ih (fun b hb=>hs b (by unfold eN; rw [List.filterMap_cons,hf]; exact av1 _ hb)) hr⟩
 exact all X.outer (fun _ hb=>hb) I.ok.funs
theorem a5.stack (I:a5 X pins σ H s):s.heap.FunFrames X.base X.stack:=by
 rcases I.ok.stk with e | ⟨e,hf⟩
 ·rw [e]; exact I.funs
 ·rw [e]
  obtain ⟨m,hn,_⟩:=I.loc
  refine .cons (by rw [I.ok.kind]; decide) hf hn ?_ I.funs
  exact Heap.get?_none_of_le (ay6 I.ok.bsz I.ok.above)
theorem a5.stkSub (I:a5 X pins σ H s):∀ b ∈ eN X.stack,b ∈ X.env.locals :: X.fs:=fun b hb=>by
 rcases I.ok.stk with e | ⟨e,hf⟩
 ·rw [e] at hb; exact av1 _ hb
 ·rw [e] at hb
  unfold eN at hb
  rw [List.filterMap_cons,hf] at hb
  exact hb
theorem a5.stkFree (I:a5 X pins σ H s):∀ b ∈ eN X.stack,H b=none:=fun b hb=>by
 rcases av8.mp (I.stkSub b hb) with e | hb
 ·rw [e]; exact I.free
 ·obtain ⟨_,o,ho,_⟩:=I.ok.funs.mem hb
  exact I.base.free b o ho (I.ok.frf b hb) fun z=>I.ok.exfs b z hb
theorem a5.step {g':Array GenState}{t':Nat}{d':Drawn}{ch:List Addr} (I:a5 X pins σ H s)
  (hch:∀ b ∈ ch,(b ∈ X.ex ∨ X.s₀.heap.objs.size<=b)/\b ≠ X.env.locals/\(∀ x c,X.env.cells.lookup x=some c->c ≠ b)/\∀ p ∈ X.pn ++ pins,p.1 ≠ b)
  (keep:∀ b o,b ≠ X.env.locals->b ∉ X.fs->b ∉ ch->s.heap.get? b=some o->H b=none->h'.get? b=some o)
  (slot:∀ b o,b ≠ X.env.locals->b ∈ X.fs->b ∉ ch->s.heap.get? b=some o->H b=none->∃ sl,h'.get? b=some { o with slots:=sl }) (free:∀ b o,b ∉ ch->s.heap.get? b=some o->H b=none->H' b=none)
  (there:∀ b o,b ∉ ch->s.heap.get? b=some o->∃ o',h'.get? b=some o')
  (tups:∀ b xs,H b=some (.tup xs)->H' b=some (.tup xs)) (frzs:∀ b o u,H b=some (.frz o u)->H' b=some (.frz o u)) (tbls:∀ b ps,H b=some (.tbl ps)->∃ more,H' b=some (.tbl (ps ++ more)))
  (ns:∀ m,s.heap.Ns X.env.locals m->h'.Ns X.env.locals m) (hok:bD X.prog X.w H' h') (hg:AllBare g') :
  a5 X pins σ H' { s with heap:=h',gens:=g',drawn:=d',toks:=t' }:=by
 have neL:∀ b o,X.s₀.heap.get? b=some o->b ≠ X.env.locals:=fun b o e=>ay1 (av6 (aw2 e) I.ok.above)
 have neC:∀ b o,X.s₀.heap.get? b=some o->b ∉ X.ex->b ∉ ch:=fun b o e hx hb=>by
  rcases (hch b hb).1 with z | z
  ·exact hx z
  ·exact absurd (av6 (aw2 e) z) (az5 _)
 have cellK:∀ x c,X.env.cells.lookup x=some c->∀ v,s.heap.IsCell c v->h'.IsCell c v:=fun x c e v ⟨o,ho,hd⟩=>by
  have nch:c ∉ ch:=fun z=>(hch c z).2.2.1 x c e rfl
  by_cases hc:c ∈ X.fs
  ·obtain ⟨sl,q⟩:=slot c o (I.cne x c e) hc nch ho (I.freeC x c e)
   exact⟨_,q,hd⟩
  ·exact⟨o,keep c o (I.cne x c e) hc nch ho (I.freeC x c e),hd⟩
 refine⟨I.ok,I.os,hg,⟨fun b o e n hb hx=>?_,fun b o e n hb hx=>?_,fun b o e n hx=>?_,fun b o e hx=>?_,fun b xs e=>tups b xs (I.base.tups b xs e),fun b o xs e=>frzs b o xs (I.base.frzs b o xs e),fun b ps e=>?_⟩,?_,fun x c e=>?_,?_,fun x c e=>?_,fun p hp=>?_,hok,I.len⟩
 ·exact keep b o (neL b o e) hb (neC b o e hx) (I.base.keep b o e n hb hx) (I.base.free b o e n hx)
 ·obtain ⟨sl,e1⟩:=I.base.slot b o e n hb hx
  obtain ⟨sl',e2⟩:=slot b _ (neL b o e) hb (neC b o e hx) e1 (I.base.free b o e n hx)
  exact⟨sl',e2⟩
 ·obtain ⟨o',e1⟩:=I.base.there b o e hx
  exact free b o' (neC b o e hx) e1 (I.base.free b o e n hx)
 ·obtain ⟨o',e1⟩:=I.base.there b o e hx
  exact there b o' (neC b o e hx) e1
 ·obtain ⟨m1,e1⟩:=I.base.tbls b ps e
  obtain ⟨m2,e2⟩:=tbls b _ e1
  exact⟨m1 ++ m2,by rw [e2,Array.append_assoc]⟩
 ·obtain ⟨m,hn,hl⟩:=I.loc
  refine⟨m,ns m hn,fun i x v e1 e2 e3=>?_⟩
  obtain ⟨u,r,l⟩:=hl i x v e1 e2 e3
  refine⟨u,r,?_⟩
  rcases l with l | ⟨k,c,e,z⟩
  ·exact .inl l
  ·exact .inr ⟨k,c,e,cellK x c e _ z⟩
 ·obtain ⟨v,z⟩:=I.cell x c e
  exact⟨v,cellK x c e v z⟩
 ·obtain ⟨m,⟨o,_,_,ho,_⟩,_⟩:=I.loc
  exact free _ o (fun z=>(hch _ z).2.1 rfl) ho I.free
 ·obtain ⟨v,o,ho,hd⟩:=I.cell x c e
  exact free c o (fun z=>(hch c z).2.2.1 x c e rfl) ho (I.freeC x c e)
 ·obtain ⟨e,n,ne,nf,d⟩:=I.pin p hp
  have nch:p.1 ∉ ch:=fun z=>(hch p.1 z).2.2.2 p hp rfl
  exact⟨keep p.1 p.2 ne nf nch e n,free p.1 p.2 nch e n,ne,nf,d⟩
theorem a5.un {t':Nat} (I:a5 X pins σ H s) (u:Un X.fs [] H H' s.heap h') (hok:bD X.prog X.w H' h'):a5 X pins σ H' { s with heap:=h',toks:=t' }:=by
 obtain ⟨m,⟨o,es,ep,ho,r⟩,_⟩:=id I.loc
 obtain ⟨sl,hL⟩:=u.any ho I.free (by simp)
 exact I.step (g':=s.gens) (d':=s.drawn) (ch:=[]) (fun _ z=>nomatch z) (fun b o _ hb _ e n=>u.keep b o e n hb (by simp)) (fun b o _ hb _ e n=>u.slot b o e n hb (by simp)) (fun b o _ e n=>u.free b o e n (by simp)) (fun b o _ e=>u.there b o e (by simp)) u.tups u.frzs u.tbls (fun m' hm=>by
  obtain ⟨o',es',ep',ho',r'⟩:=hm
  rw [ho] at ho'; cases ho'
  exact⟨_,es',ep',hL,r'⟩) hok I.bare
theorem a5.call {g':Array GenState}{t':Nat}{d':Drawn}{ch:List Addr} (I:a5 X pins σ H s) (u:Un (eN X.stack) ch H H' s.heap h') (hok:bD X.prog X.w H' h') (hg:AllBare g')
  (hch:∀ b ∈ ch,(b ∈ X.ex ∨ X.s₀.heap.objs.size<=b)/\b ≠ X.env.locals/\(∀ x c,X.env.cells.lookup x=some c->c ≠ b)/\∀ p ∈ X.pn ++ pins,p.1 ≠ b) :
  a5 X pins σ H' { s with heap:=h',gens:=g',drawn:=d',toks:=t' }:=by
 obtain ⟨m,⟨o,es,ep,ho,r⟩,_⟩:=id I.loc
 obtain ⟨sl,hL⟩:=u.any ho I.free fun z=>(hch _ z).2.1 rfl
 exact I.step (ch:=ch) hch (fun b o hL hb hc e n=>u.keep b o e n (fun z=>(av8.mp (I.stkSub b z)).elim hL hb) hc) (fun b o _ _ hc e n=>u.any e n hc) (fun b o hc e n=>u.free b o e n hc) (fun b o hc e=>u.there b o e hc) u.tups u.frzs u.tbls (fun m' hm=>by
  obtain ⟨o',es',ep',ho',r'⟩:=hm
  rw [ho] at ho'; cases ho'
  exact⟨_,es',ep',hL,r'⟩) hok hg
theorem a5.turned {t':Nat}{it:Addr} (I:a5 X pins σ H s) (k:∀ b o,b ≠ it->s.heap.get? b=some o->h'.get? b=some o) (hn:H it=none) (hL:it ≠ X.env.locals)
  (h1:it ∈ X.ex ∨ X.s₀.heap.objs.size<=it) (h2:∀ x c,X.env.cells.lookup x=some c->c ≠ it) (h3:∀ p ∈ X.pn ++ pins,p.1 ≠ it):a5 X pins σ H { s with heap:=h',toks:=t' }:=by
 have nit:∀ b u,H b=some u->b ≠ it:=fun b u e z=>by rw [z,hn] at e; cases e
 refine I.step (g':=s.gens) (d':=s.drawn) (ch:=[it]) (fun b hb=>?_) (fun b o _ _ hc e _=>k b o (fun z=>hc (by simp [z])) e) (fun b o _ _ hc e _=>⟨o.slots,k b o (fun z=>hc (by simp [z])) e⟩) (fun _ _ _ _ n=>n)
  (fun b o hc e=>⟨o,k b o (fun z=>hc (by simp [z])) e⟩) (fun _ _ e=>e) (fun _ _ _ e=>e) (fun b ps e=>⟨#[],by rw [e]; simp⟩) (fun m hm=>?_) (fun b u e=>?_) I.bare
 ·have e:b=it:=by simpa using hb
  subst e
  exact⟨h1,hL,h2,h3⟩
 ·obtain ⟨o,es,ep,ho,r⟩:=hm
  exact⟨o,es,ep,k _ o (Ne.symm hL) ho,r⟩
 ·refine (I.hok b u e).stay (fun c v hc q=>k c v ?_ q) (fun _ q=>q) fun _ _ q=>q
  rcases hc with z | z
  ·rw [z]; exact nit b u e
  ·exact nit c _ z
theorem a5.tok (I:a5 X pins σ H s) (t:Nat):a5 X pins σ H { s with toks:=t }:=I.un (h':=s.heap) (t':=t) Un.refl I.hok
theorem a5.kept {t':Nat} (I:a5 X pins σ H s) (k:∀ b u,s.heap.get? b=some u->h'.get? b=some u):a5 X pins σ H { s with heap:=h',toks:=t' }:=I.un (Un.kept k) (I.hok.kept k)
theorem a5.laid {a:Addr}{o:HO}{t':Nat} (I:a5 X pins σ H s) (k:∀ b u,s.heap.get? b=some u->h'.get? b=some u) (hp:s.heap.objs.size<=a) (new:b6 X.prog X.w (upd H a o) h' a o) :
  a5 X pins σ (upd H a o) { s with heap:=h',toks:=t' }:=I.un (Un.laid k hp (I.hok.fresh hp)) (I.hok.laid k hp new)
theorem a5.write {x e:Addr}{o:HO}{t':Nat} (I:a5 X pins σ H s) (mu:jI (H x)) (he:e=x ∨ H e=some (.own x)) (k:∀ b u,b ≠ e->s.heap.get? b=some u->h'.get? b=some u) (heo:∃ u,h'.get? e=some u)
  (new:b6 X.prog X.w (upd H x o) h' x o):a5 X pins σ (upd H x o) { s with heap:=h',toks:=t' }:=I.un (Un.write mu he k heo) (I.hok.write mu he k heo new)
theorem a5.weak {σ':List (Option V)} (I:a5 X pins σ H s) (hl:σ'.length=σ.length) (w:∀ (i:Nat) v,σ'[i]? = some (some v)->σ[i]? = some (some v)):a5 X pins σ' H s:=
 ⟨I.ok,I.os,I.bare,I.base,let ⟨m,hn,hl'⟩:=I.loc; ⟨m,hn,fun i x v e1 e2 e3=>hl' i x v e1 (w i v e2) e3⟩,I.cell,I.free,I.freeC,I.pin,I.hok,hl.trans I.len⟩
theorem a5.pins_of {pins':List (Addr × Obj)} (I:a5 X pins σ H s) (h:∀ p ∈ pins',s.heap.get? p.1=some p.2/\H p.1=none/\p.1 ≠ X.env.locals/\p.1 ∉ X.fs/\∀ v,p.2.data ≠ .cell v):a5 X pins' σ H s:=
 ⟨I.ok,I.os,I.bare,I.base,I.loc,I.cell,I.free,I.freeC,fun p hp=>(ax5.mp hp).elim (fun z=>I.pin p (aG5 _ z)) (h p),I.hok,I.len⟩
theorem sM {N:List Str} (hN:N.Nodup) {i j:Nat}{x:Str} (a:N[i]? = some x) (b:N[j]? = some x):i=j:=by
 obtain ⟨h1,e1⟩:=av4.mp a
 obtain ⟨h2,e2⟩:=av4.mp b
 exact (List.getElem_inj hN).mp (e1.trans e2.symm)
theorem oG {M:Model}{A:Around}{E:Value->Shared->Prop}{i:Nat}{x:Str}{v:V}{u:Value}{Q:Unit->Shared->Prop} (I:a5 X pins σ H s) (hN:X.N.Nodup) (hi:X.N[i]? = some x) (hx:hE X.env.scope x) (r:aO v u)
  (h:∀ s',a5 X pins (σ.set i (some v)) H s'->(∃ a,Heap.SameBut a s.heap s'.heap/\(a=X.env.locals ∨ X.env.cells.lookup x=some a))->Q () s') (hf:X.fn x=true ∨ X.env.scope.names.lookup x=some .local:=by first | exact .inl rfl | exact .inr rfl | assumption):wpAny M A (storeName X.env x u) Q E s:=by
 obtain ⟨m,hn,hl⟩:=id I.loc
 have hcls:(X.env.scope.kind == .class || (X.env.scope.kind == .module && X.env.locals != X.env.globals))=false:=by rw [I.ok.kind]; rfl
 have hiσ:i < σ.length:=by rw [I.len]; exact (av4.mp hi).1
 have cne:=I.cne
 have tracked:∀ {a:Addr}{h':Heap},(∃ o,s.heap.get? a=some o/\H a=none)->Heap.SameBut a s.heap h'->bD X.prog X.w H h':=fun {a h'} ha hs b ob e=>by
  obtain ⟨_,_,hfree⟩:=ha
  refine (I.hok b ob e).stay (fun c w' hc q=>(hs.2 c ?_).trans q) (fun _ q=>q) fun _ _ q=>q
  rintro rfl
  rcases hc with rfl | hc
  ·rw [hfree] at e; cases e
  ·rw [hfree] at hc; cases hc
 rcases hx with hk | hk
 ·refine wpAny_storeName_local hk hn (fun h' hn' hs=>?_) hcls
  obtain ⟨oL,_,_,hoL,_⟩:=id hn
  refine h _ ⟨I.ok,I.os,I.bare,⟨fun b o e n hb hx=>?_,fun b o e n hb hx=>?_,I.base.free,fun b o e hx=>?_,I.base.tups,I.base.frzs,I.base.tbls⟩,⟨_,hn',fun j y v' e1 e2 e3=>?_⟩,fun y c e=>?_,I.free,I.freeC,fun p hp=>?_,tracked ⟨oL,hoL,I.free⟩ hs,by simpa using I.len⟩ ⟨_,hs,.inl rfl⟩
  ·exact (hs.2 b (ay1 (av6 (aw2 e) I.ok.above))).trans (I.base.keep b o e n hb hx)
  ·obtain ⟨sl,e1⟩:=I.base.slot b o e n hb hx
   exact⟨sl,(hs.2 b (ay1 (av6 (aw2 e) I.ok.above))).trans e1⟩
  ·obtain ⟨o',e1⟩:=I.base.there b o e hx
   exact⟨o',(hs.2 b (ay1 (av6 (aw2 e) I.ok.above))).trans e1⟩
  ·by_cases hj:j=i
   ·subst hj
    rw [hi] at e1; cases e1
    rw [aB8 hiσ] at e2
    cases e2
    exact⟨u,r,.inl ⟨hk,by simp⟩⟩
   ·rw [ax7 (Ne.symm hj)] at e2
    obtain ⟨u',r',q⟩:=hl j y v' e1 e2 e3
    refine⟨u',r',?_⟩
    rcases q with ⟨k,e⟩ | ⟨k,c,e,z⟩
    ·refine .inl ⟨k,?_⟩
     have:y ≠ x:=fun e=>hj (sM hN e1 (e ▸ hi))
     simp [this,e]
    ·exact .inr ⟨k,c,e,z.sameBut hs (cne y c e)⟩
  ·obtain ⟨w',z⟩:=I.cell y c e
   exact⟨w',z.sameBut hs (cne y c e)⟩
  ·obtain ⟨e,n,ne,nf,d⟩:=I.pin p hp
   exact⟨(hs.2 p.1 ne).trans e,n,ne,nf,d⟩
 ·have hfn:X.fn x=true:=by
   rcases hf with z | z
   ·exact z
   ·rw [z] at hk; cases hk
  obtain ⟨c,hc⟩:=I.ok.has x (.inl hk)
  obtain ⟨w',z⟩:=I.cell x c hc
  refine wpAny_storeName_cell I.ok.kind hk hc z (fun h' hc' hs=>?_)
  obtain ⟨oc,hoc,hocd⟩:=id z
  refine h { s with heap:=h' } ⟨I.ok,I.os,I.bare,⟨fun b o e n hb hx=>?_,fun b o e n hb hx=>?_,I.base.free,fun b o e hx=>?_,I.base.tups,I.base.frzs,I.base.tbls⟩,⟨m,hn.sameBut hs (Ne.symm (cne x c hc)),fun j y v' e1 e2 e3=>?_⟩,fun y c' e=>?_,I.free,I.freeC,fun p hp=>?_,tracked ⟨oc,hoc,I.freeC x c hc⟩ hs,by simpa using I.len⟩ ⟨c,hs,.inr hc⟩
  ·exact (hs.2 b (ay1 (av6 (aw2 e) (I.ok.cab x c hfn hc)))).trans (I.base.keep b o e n hb hx)
  ·obtain ⟨sl,e1⟩:=I.base.slot b o e n hb hx
   exact⟨sl,(hs.2 b (ay1 (av6 (aw2 e) (I.ok.cab x c hfn hc)))).trans e1⟩
  ·obtain ⟨o',e1⟩:=I.base.there b o e hx
   exact⟨o',(hs.2 b (ay1 (av6 (aw2 e) (I.ok.cab x c hfn hc)))).trans e1⟩
  ·by_cases hj:j=i
   ·subst hj
    rw [hi] at e1; cases e1
    rw [aB8 hiσ] at e2
    cases e2
    exact⟨u,r,.inr ⟨.inl hk,c,hc,hc'⟩⟩
   ·rw [ax7 (Ne.symm hj)] at e2
    obtain ⟨u',r',q⟩:=hl j y v' e1 e2 e3
    refine⟨u',r',?_⟩
    rcases q with q | ⟨k,c',e,z'⟩
    ·exact .inl q
    ·refine .inr ⟨k,c',e,z'.sameBut hs ?_⟩
     rintro rfl
     exact hj (sM hN e1 (I.ok.inj _ _ _ e hc ▸ hi))
  ·by_cases hcc:c'=c
   ·subst hcc; exact⟨_,hc'⟩
   ·obtain ⟨w2,z2⟩:=I.cell y c' e
    exact⟨w2,z2.sameBut hs hcc⟩
  ·obtain ⟨e,n,ne,nf,d⟩:=I.pin p hp
   refine⟨(hs.2 p.1 ?_).trans e,n,ne,nf,d⟩
   intro q
   rw [q,hoc] at e
   have q':oc=p.2:=ax4 e
   exact d w' (by rw [<- q']; exact hocd)
theorem sN {M:Model}{A:Around}{E:Value->Shared->Prop}{i:Nat}{x:Str}{v:V}{u:Value}{Q:Unit->Shared->Prop} (I:a5 X pins σ H s) (hN:X.N.Nodup) (hi:X.N[i]? = some x) (hx:hE X.env.scope x) (r:aO v u)
  (h:∀ s',a5 X pins (σ.set i (some v)) H s'->Q () s') (hf:X.fn x=true ∨ X.env.scope.names.lookup x=some .local:=by first | exact .inl rfl | exact .inr rfl | assumption):wpAny M A (storeName X.env x u) Q E s:=
 oG I hN hi hx r (fun s' I' _=>h s' I') hf
theorem a5.call' {s':Shared}{ch:List Addr} (I:a5 X pins σ H s) (ho:s'.os=s.os) (u:Un (eN X.stack) ch H H' s.heap s'.heap) (hok:bD X.prog X.w H' s'.heap) (hg:AllBare s'.gens)
  (hch:∀ b ∈ ch,(b ∈ X.ex ∨ X.s₀.heap.objs.size<=b)/\b ≠ X.env.locals/\(∀ x c,X.env.cells.lookup x=some c->c ≠ b)/\∀ p ∈ X.pn ++ pins,p.1 ≠ b):a5 X pins σ H' s':=by
 obtain ⟨h',g',d',t',o'⟩:=s'
 have e:o'=s.os:=ho
 subst e
 exact I.call (g':=g') (t':=t') (d':=d') u hok hg hch
end
abbrev XK:=Value->Option Addr->Hp->Prop
abbrev St:=List (Option V)
abbrev VK:=V->Hp->Prop
abbrev TE:=St->Hp->VK->Prop
abbrev TT:=St->Hp->(Bool->Hp->Prop)->Prop
abbrev TA:=St->Hp->(List V->Hp->Prop)->Prop
structure dA where
 nx:St->Hp->Prop
 rt:VK
 bk:St->Hp->Prop:=fun _ _=>False
 ct:St->Hp->Prop:=fun _ _=>False
abbrev TS:=dA->St->Hp->Prop
def EP (X:Cx) (pins:List (Addr × Obj)) (σ:St) (Q:VK) (u:Value) (s':Shared):Prop:=∃ v H',a5 X pins σ H' s'/\aO v u/\Q v H'
def TP (X:Cx) (pins:List (Addr × Obj)) (σ:St) (Q:Bool->Hp->Prop) (b:Bool) (s':Shared):Prop:=∃ H',a5 X pins σ H' s'/\Q b H'
def AP (X:Cx) (pins:List (Addr × Obj)) (σ:St) (Q:List V->Hp->Prop) (us:List Value) (s':Shared):Prop:=∃ vs H',a5 X pins σ H' s'/\aG vs us/\Q vs H'
def SP (X:Cx) (pins:List (Addr × Obj)) (D:dA) (f:Flow) (s':Shared):Prop:=
 match f with
 | .next=>∃ σ' H',a5 X pins σ' H' s'/\D.nx σ' H'
 | .brk=>∃ σ' H',a5 X pins σ' H' s'/\D.bk σ' H'
 | .cont=>∃ σ' H',a5 X pins σ' H' s'/\D.ct σ' H'
 | .ret u=>∃ v σ' H',a5 X pins σ' H' s'/\aO v u/\D.rt v H'
def PE (X:Cx) (e:Expr) (t:TE):Prop:=
 ∀ (pins:List (Addr × Obj)) (s:Shared) (σ:St) (H:Hp) (Q:VK),a5 X pins σ H s->t σ H Q->wpAny (model X.prog X.w) X.A (eval e X.env) (EP X pins σ Q) X.xe s
def PT (X:Cx) (e:Expr) (t:TT):Prop:=
 ∀ (pins:List (Addr × Obj)) (s:Shared) (σ:St) (H:Hp) (Q:Bool->Hp->Prop),a5 X pins σ H s->t σ H Q->wpAny (model X.prog X.w) X.A (isTrue e X.env (eval e X.env)) (TP X pins σ Q) X.xe s
def PW (X:Cx) (e:Expr) (t:TT):Prop:=
 ∀ (whole:Sem Value) (pins:List (Addr × Obj)) (s:Shared) (σ:St) (H:Hp) (Q:Bool->Hp->Prop),a5 X pins σ H s->t σ H Q->wpAny (model X.prog X.w) X.A (isTrue e X.env whole) (TP X pins σ Q) X.xe s
theorem PW.pt {X:Cx}{e:Expr}{t:TT} (h:PW X e t):PT X e t:=h _
def PA (X:Cx) (es:List Expr) (t:TA):Prop:=
 ∀ (pos:Pos) (pins:List (Addr × Obj)) (s:Shared) (σ:St) (H:Hp) (Q:List V->Hp->Prop),a5 X pins σ H s->t σ H Q->wpAny (model X.prog X.w) X.A (spliced (backTo pos (starEach es X.env))) (AP X pins σ Q) X.xe s
def PS (X:Cx) (st:Stmt) (t:TS):Prop:=
 ∀ (pins:List (Addr × Obj)) (s:Shared) (σ:St) (H:Hp) (D:dA),a5 X pins σ H s->t D σ H->wpAny (model X.prog X.w) X.A (exec st X.env) (SP X pins D) X.xe s
def cT (X:Cx) (st:List Stmt) (t:TS):Prop:=
 ∀ (pins:List (Addr × Obj)) (s:Shared) (σ:St) (H:Hp) (D:dA),a5 X pins σ H s->t D σ H->wpAny (model X.prog X.w) X.A (execs st X.env) (SP X pins D) X.xe s
theorem aJ {α:Type}{t:Sem α}{Q Q':α->Shared->Prop}{M:Model}{A:Around}{E:Value->Shared->Prop}{s:Shared} (h:wpAny M A t Q E s) (hQ:∀ a s,Q a s->Q' a s):wpAny M A t Q' E s:=aC6 h hQ fun _ _ x=>x
section
variable {X : Cx}
theorem bin {a b:Expr}{ta tb:TE} (ha:PE X a ta) (hb:PE X b tb) {pins:List (Addr × Obj)}{s:Shared}{σ:St}{H:Hp}{R:V->V->Hp->Prop} (I:a5 X pins σ H s) (h:ta σ H fun x H1=>tb σ H1 fun y H2=>R x y H2)
  {α:Type}{Q:α->Shared->Prop}{f:Value->Value->Sem α}
  (hf:∀ v u s2 x y H2,a5 X pins σ H2 s2->aO x v->aO y u->R x y H2->wpAny (model X.prog X.w) X.A (f v u) Q X.xe s2) :
  wpAny (model X.prog X.w) X.A (eval a X.env) (fun v s₁=>wpAny (model X.prog X.w) X.A (eval b X.env) (fun u s₂=>wpAny (model X.prog X.w) X.A (f v u) Q X.xe s₂) X.xe s₁) X.xe s:=by
 refine aJ (ha pins s σ H _ I h) fun v s1 ⟨x,H1,I1,r1,q1⟩=>?_
 refine aJ (hb pins s1 σ H1 _ I1 q1) fun u s2 ⟨y,H2,I2,r2,q2⟩=>?_
 exact hf v u s2 x y H2 I2 r1 r2 q2
def iP (i:Nat):TE:=fun σ H Q=>∃ v,σ[i]? = some (some v)/\Q v H
def tC (v:V):TE:=fun _ H Q=>Q v H
theorem jK {i:Nat}{x:Str}{pos:Pos} (hN:X.N[i]? = some x) (hv:gA X.env.scope x) (hd:(x == ("__debug__" : Str))=false:=by decide) (hcd:(x == ("__classdict__" : Str))=false:=by decide):PE X (.Name x pos) (iP i):=by
 intro pins s σ H Q I h
 obtain ⟨v,e,h⟩:=h
 obtain ⟨m,hn,hl⟩:=I.loc
 obtain ⟨u,r,l⟩:=hl i x v hN e hv
 have fin:EP X pins σ Q u s:=⟨v,H,I,r,h⟩
 rcases l with ⟨hk,hm⟩ | ⟨hk,c,hc,hcell⟩
 ·exact wpAny_Name (wpAny_loadName_local I.ok.kind hk hn hm fin) hd
 ·rcases hk with hk | hk
  ·exact wpAny_Name (wpAny_loadName_cell I.ok.kind hk hc hcell fin) hd
  ·exact wpAny_Name (wpAny_loadName_free I.ok.kind hk hc hcell fin hcd) hd
theorem gB {i j pos}:PE X (.Constant (.int i) j pos) (tC (.int i)):=fun _ _ _ H _ I h=>wpAny_Constant_int ⟨.int i,H,I.tok _,⟨_,rfl⟩,h⟩
theorem B8 {b j pos}:PE X (.Constant (.bool b) j pos) (tC (.bl b)):=fun _ _ _ H _ I h=>Constant_bool ⟨.bl b,H,I,rfl,h⟩
theorem B9 {j pos}:PE X (.Constant .none j pos) (tC .non):=fun _ _ _ H _ I h=>Constant_none ⟨.non,H,I,rfl,h⟩
def Gl (X:Cx) (x:Str):Prop:=X.env.kindOf x=some .globalImplicit
theorem sO {E:Value->Shared->Prop}{pins:List (Addr × Obj)}{s:Shared}{σ:St}{H:Hp}{x:Str}{u:Value}{pos:Pos}{Q:Value->Shared->Prop} (I:a5 X pins σ H s) (hg:Gl X x) (hm:X.mg x=some u) (h:Q u s)
  (hd:(x == ("__debug__" : Str))=false:=by decide):wpAny (model X.prog X.w) X.A (eval (.Name x pos) X.env) Q E s:=
 Calls.Name_function_global I.ok.kind hg (Calls.loadGlobal_global (by rw [I.ok.glob]; exact I.mod.glob.keeps I.bk) hm h) hd
theorem gC {E:Value->Shared->Prop}{pins:List (Addr × Obj)}{s:Shared}{σ:St}{H:Hp}{x:Str}{u:Value}{pos:Pos}{Q:Value->Shared->Prop} (I:a5 X pins σ H s) (hg:Gl X x) (hm:X.mg x=none) (hv:bootBuiltins x=some u) (h:Q u s)
  (hn:x ≠ "__name__":=by decide) (hd:(x == ("__debug__" : Str))=false:=by decide):wpAny (model X.prog X.w) X.A (eval (.Name x pos) X.env) Q E s:=by
 obtain ⟨mb,h1,h2⟩:=I.mod.blt
 exact Calls.Name_function_global I.ok.kind hg (Calls.loadGlobal_builtin (by rw [I.ok.glob]; exact I.mod.glob.keeps I.bk) hm (by rw [I.ok.blt]; exact h1.keeps I.bk) ((h2 x hn).trans hv) h) hd
theorem C0 {x:Str}{v:V}{u:Value}{pos:Pos} (hg:Gl X x) (hm:X.mg x=some u) (r:aO v u) (hd:(x == ("__debug__" : Str))=false:=by decide):PE X (.Name x pos) (tC v):=
 fun _ _ _ H _ I h=>sO I hg hm ⟨v,H,I,r,h⟩ hd
theorem C1 {x:Str}{v:V}{u:Value}{pos:Pos} (hg:Gl X x) (hm:X.mg x=none) (hv:bootBuiltins x=some u) (r:aO v u) (hn:x ≠ "__name__":=by decide) (hd:(x == ("__debug__" : Str))=false:=by decide):PE X (.Name x pos) (tC v):=
 fun _ _ _ H _ I h=>gC I hg hm hv ⟨v,H,I,r,h⟩ hn hd
variable {a b : Expr} {ta tb : TE} {pos : Pos}
def PC (X:Cx) (op:CmpOp) (a b:Expr) (t:TE):Prop:=
 ∀ (pins:List (Addr × Obj)) (s:Shared) (σ:St) (H:Hp) (Q:VK),a5 X pins σ H s->t σ H Q->
  wpAny (model X.prog X.w) X.A (eval a X.env) (fun v s₁=>wpAny (model X.prog X.w) X.A (eval b X.env) (fun u s₂=>wpAny (model X.prog X.w) X.A (compareOp op v u) (EP X pins σ Q) X.xe s₂) X.xe s₁) X.xe s
def tB (t:TE):TT:=fun σ H Q=>t σ H fun x H1=>∃ c,x = .bl c/\Q c H1
theorem au0 {op:CmpOp}{t:TE} (h:PC X op a b t) (h1:behindInMarks op b=false:=by first | exact nobehind _ (by decide) (by decide) | rfl):PT X (.Compare a [op] [b] pos) (tB t):=by
 intro pins s σ H Q I hw
 refine wpAny_isTrue_Compare1 (aJ (h pins s σ H _ I hw) fun v s1 h1=>aJ h1 fun u s2 h2=>aJ h2 fun c s3 ⟨x,H1,I1,r1,q1⟩=>?_) h1
 obtain ⟨d,rfl,q⟩:=q1
 cases r1
 exact aE8 ⟨H1,I1,q⟩
theorem C2 {e:Expr}{t:TE} (h:PE X e t) (he:∀ whole,isTrue e X.env whole=(do let v <- whole; standAt e.pos; holding [v] (truthy v)):=by intro _; rfl):PT X e (tB t):=by
 intro pins s σ H Q I hw
 refine isTrue_plain (aJ (h pins s σ H _ I hw) fun v s1 ⟨x,H1,I1,r1,q1⟩=>?_) (he _)
 obtain ⟨d,rfl,q⟩:=q1
 cases r1
 exact aE8 ⟨H1,I1,q⟩
variable {tA tB' : TT} {cF : List Expr}
def sP (t u:TT):TT:=fun σ H Q=>t σ H fun c H1=>if c=true then u σ H1 Q else Q false H1
def sQ (t u:TT):TT:=fun σ H Q=>t σ H fun c H1=>if c=true then Q true H1 else u σ H1 Q
def sR (t:TT):TT:=fun σ H Q=>t σ H fun c H1=>Q (!c) H1
theorem C3 (ha:PT X a tA):PW X (.BoolOp .And [a] pos) tA:=by
 intro wh pins s σ H Q I h
 refine isTrue_and (aJ (ha pins s σ H Q I h) fun c s1 e=>?_)
 cases c with
 | true=>exact isTrue_and_nil e
 | false=>exact e
theorem C4 (ha:PT X a tA):PW X (.BoolOp .Or [a] pos) tA:=by
 intro wh pins s σ H Q I h
 refine isTrue_or (aJ (ha pins s σ H Q I h) fun c s1 e=>?_)
 cases c with
 | false=>exact isTrue_or_nil e
 | true=>exact e
theorem C5 (ha:PT X a tA) (hb:PW X (.BoolOp .And (b :: cF) pos) tB'):PW X (.BoolOp .And (a :: b :: cF) pos) (sP tA tB'):=by
 intro wh pins s σ H Q I h
 refine isTrue_and (aJ (ha pins s σ H _ I h) fun c s1 ⟨H1,I1,q1⟩=>?_)
 cases c with
 | true=>exact hb wh pins s1 σ H1 Q I1 q1
 | false=>exact⟨H1,I1,q1⟩
theorem C6 (ha:PT X a tA) (hb:PW X (.BoolOp .Or (b :: cF) pos) tB'):PW X (.BoolOp .Or (a :: b :: cF) pos) (sQ tA tB'):=by
 intro wh pins s σ H Q I h
 refine isTrue_or (aJ (ha pins s σ H _ I h) fun c s1 ⟨H1,I1,q1⟩=>?_)
 cases c with
 | true=>exact⟨H1,I1,q1⟩
 | false=>exact hb wh pins s1 σ H1 Q I1 q1
theorem C7 (ha:PT X a tA):PT X (.UnaryOp .Not a pos) (sR tA):=by
 intro pins s σ H Q I h
 exact isTrue_not (ha pins s σ H (fun c H1=>Q (!c) H1) I h)
def sS (ta tb:TE):TE:=fun σ H Q=>ta σ H fun x H1=>∃ c,x = .bl c/\if c=true then tb σ H1 Q else Q (.bl false) H1
def sU (ta:TE):TE:=fun σ H Q=>ta σ H fun x H1=>∃ c,x = .bl c/\Q (.bl (!c)) H1
theorem C8 {op}{t:TE} (h:PE X a t):PE X (.BoolOp op [a] pos) t:=fun pins s σ H Q I hw=>BoolOp_one (h pins s σ H Q I hw)
theorem C9 (ha:PE X a ta) (hb:PE X (.BoolOp .And (b :: cF) pos) tb):PE X (.BoolOp .And (a :: b :: cF) pos) (sS ta tb):=by
 intro pins s σ H Q I h
 refine BoolOp_and (aJ (ha pins s σ H _ I h) fun v s1 ⟨x,H1,I1,r1,q1⟩=>?_)
 obtain ⟨c,rfl,q1⟩:=q1
 cases r1
 refine aE8 ?_
 cases c with
 | true=>exact hb pins s1 σ H1 Q I1 q1
 | false=>exact⟨.bl false,H1,I1,rfl,q1⟩
theorem E1 (ha:PE X a ta):PE X (.UnaryOp .Not a pos) (sU ta):=by
 intro pins s σ H Q I h
 refine UnaryOp_ (aJ (ha pins s σ H _ I h) fun v s1 ⟨x,H1,I1,r1,q1⟩=>?_)
 obtain ⟨c,rfl,q1⟩:=q1
 cases r1
 exact not_of (aE8 ⟨.bl (!c),H1,I1,rfl,q1⟩)
end
def aI (K:PySem.W.Frag) (H:Hp) (a:Addr) (xs:List V):Prop:=
 Rd H a (.lst xs) ∨
  ∃ (o:Obj) (its:Array Value) (n:Nat),K.lookup a=some o/\o.cls = .type "list"/\o.dict=none/\o.data = .seq its n/\its.size<=sizeLine/\aG xs its.toList
def aC (K:PySem.W.Frag) (H:Hp) (a:Addr) (xs:List V):Prop:=
 Rd H a (.tup xs) ∨
  ∃ (o:Obj) (its:Array Value) (n:Nat),K.lookup a=some o/\o.cls = .type "tuple"/\o.data = .seq its n/\its.size<=sizeLine/\aG xs its.toList
def E2:Value->Option V
 | .none=>some .non
 | .bool b=>some (.bl b)
 | .int i _=>some (.int i)
 | .str x _=>some (.str x)
 | .bytes b _=>some (.byt b)
 | .float b _=>some (.flt b)
 | .ref a=>some (.ref a)
 | .type n=>some (.ty n)
 | _=>none
theorem aO.abs {x:V}{u:Value} (r:aO x u):E2 u=some x:=by
 cases x with
 | non=>cases r; rfl
 | bl _=>cases r; rfl
 | int _=>obtain ⟨t,rfl⟩:=r; rfl
 | str _=>obtain ⟨t,rfl⟩:=r; rfl
 | byt _=>obtain ⟨t,rfl⟩:=r; rfl
 | flt _=>obtain ⟨t,rfl⟩:=r; rfl
 | ref _=>cases r; rfl
 | ty _=>cases r; rfl
theorem aO.inj {x y:V}{u:Value} (r:aO x u) (q:aO y u):x=y:=ax4 (r.abs.symm.trans q.abs)
theorem aG.inj:∀ {xs ys:List V}{us:List Value},aG xs us->aG ys us->xs=ys
 | _,_,_,.nil,.nil=>rfl
 | _,_,_,.cons r t,.cons r' t'=>by rw [r.inj r',aG.inj t t']
section
variable {X : Cx} {pins : List (Addr × Obj)} {σ : St} {H : Hp} {s : Shared} {a : Addr} {xs ys : List V}
theorem aI.of {K:PySem.W.Frag} (h:H a=some (.lst xs)):aI K H a xs:=.inl (.inl h)
theorem aC.of {K:PySem.W.Frag} (h:H a=some (.tup xs)):aC K H a xs:=.inl (.inl h)
theorem a5.list (I:a5 X pins σ H s) (h:aI X.K H a xs):∃ its:List Value,aG xs its/\PlainL s.heap a its.toArray/\xs.length<=sizeLine:=by
 rcases h with h | ⟨o,its,n,hk,hc,hd,hs,hz,r⟩
 ·obtain ⟨z,its,n,r,e⟩:=h.ok I.hok
  exact⟨its,r,⟨_,n,e,rfl,rfl,rfl⟩,z⟩
 ·refine⟨its.toList,r,⟨o,n,I.kIn a o hk,hc,hd,by simpa using hs⟩,?_⟩
  have e:=r.length
  simp only [az6] at e
  omega
theorem a5.tuple (I:a5 X pins σ H s) (h:aC X.K H a xs):∃ its:List Value,aG xs its/\IsTup s.heap a its.toArray/\xs.length<=sizeLine:=by
 rcases h with h | ⟨o,its,n,hk,hc,hs,hz,r⟩
 ·obtain ⟨z,its,r,p⟩:=h.ok I.hok
  exact⟨its,r,p,z⟩
 ·refine⟨its.toList,r,⟨o,I.kIn a o hk,hc,n,by simpa using hs⟩,?_⟩
  have e:=r.length
  simp only [az6] at e
  omega
theorem a5.list_inj (I:a5 X pins σ H s) (h:aI X.K H a xs) (h':aI X.K H a ys):xs=ys:=by
 obtain ⟨its,r,⟨o,n,e,_,_,d⟩,_⟩:=I.list h
 obtain ⟨its',r',⟨o',n',e',_,_,d'⟩,_⟩:=I.list h'
 rw [e] at e'; cases e'
 rw [d] at d'
 injection d' with d1 _
 have:its=its':=by simpa using congrArg Array.toList d1
 subst this
 exact r.inj r'
theorem a5.tuple_inj (I:a5 X pins σ H s) (h:aC X.K H a xs) (h':aC X.K H a ys):xs=ys:=by
 obtain ⟨its,r,⟨o,e,_,n,d⟩,_⟩:=I.tuple h
 obtain ⟨its',r',⟨o',e',_,n',d'⟩,_⟩:=I.tuple h'
 rw [e] at e'; cases e'
 rw [d] at d'
 injection d' with d1 _
 have:its=its':=by simpa using congrArg Array.toList d1
 subst this
 exact r.inj r'
end
abbrev Cx.wish (X:Cx) (E:Value->Shared->Prop):Cx:={ X with xe:=E }
abbrev Cx.nox (X:Cx):Cx:=X.wish fun _ _=>False
theorem Cx.Ok.wish {X:Cx} (ok:X.Ok) (E:Value->Shared->Prop):(X.wish E).Ok:=
 ⟨ok.mod,ok.kind,ok.glob,ok.blt,ok.above,ok.inj,ok.has,ok.cab,ok.hd,ok.frames,ok.stk,ok.exf,ok.bs,ok.bsz,ok.noex,ok.exfs,ok.funs,ok.frf⟩
theorem Cx.Ok.unwish {X:Cx}{E:Value->Shared->Prop} (ok:(X.wish E).Ok):X.Ok:=
 ⟨ok.mod,ok.kind,ok.glob,ok.blt,ok.above,ok.inj,ok.has,ok.cab,ok.hd,ok.frames,ok.stk,ok.exf,ok.bs,ok.bsz,ok.noex,ok.exfs,ok.funs,ok.frf⟩
section
variable {X : Cx} {pins : List (Addr × Obj)} {σ : St} {H : Hp} {s : Shared} {E : Value → Shared → Prop}
theorem a5.wish (I:a5 X pins σ H s) (E:Value->Shared->Prop):a5 (X.wish E) pins σ H s:=⟨I.ok.wish E,I.os,I.bare,I.base,I.loc,I.cell,I.free,I.freeC,I.pin,I.hok,I.len⟩
theorem a5.unwish (I:a5 (X.wish E) pins σ H s):a5 X pins σ H s:=⟨I.ok.unwish,I.os,I.bare,I.base,I.loc,I.cell,I.free,I.freeC,I.pin,I.hok,I.len⟩
theorem SP.unwish {D:dA}{f:Flow}{s':Shared} (h:SP (X.wish E) pins D f s'):SP X pins D f s':=by
 cases f with
 | next=>obtain ⟨σ',H',I,q⟩:=h; exact⟨σ',H',I.unwish,q⟩
 | brk=>obtain ⟨σ',H',I,q⟩:=h; exact⟨σ',H',I.unwish,q⟩
 | cont=>obtain ⟨σ',H',I,q⟩:=h; exact⟨σ',H',I.unwish,q⟩
 | ret u=>obtain ⟨v,σ',H',I,r,q⟩:=h; exact⟨v,σ',H',I.unwish,r,q⟩
theorem cT.nox {st:List Stmt}{t:TS} (h:cT X.nox st t):cT X st t:=fun pins s σ H D I hw=>
 aC6 (h pins s σ H D (I.wish _) hw) (fun _ _ q=>q.unwish) fun _ _ z=>False.elim z
end
section
variable {X : Cx} {st : Stmt} {cF : List Stmt} {t u : TS} {e : Expr} {te : TE} {pos : Pos}
def sV:TS:=fun D σ H=>D.nx σ H
def sW (t u:TS):TS:=fun D σ H=>t { D with nx:=u D } σ H
theorem E3:cT X [] sV:=fun _ _ σ H _ I h=>wpAny_execs_nil ⟨σ,H,I,h⟩
theorem jL (h1:PS X st t) (h2:cT X cF u):cT X (st :: cF) (sW t u):=by
 intro pins s σ H D I h
 refine wpAny_execs_cons (aJ (h1 pins s σ H { D with nx:=u D } I h) fun f s1 q=>?_)
 cases f with
 | next=>
  obtain ⟨σ',H',I',q⟩:=q
  exact h2 pins s1 σ' H' D I' q
 | ret v=>exact q
 | brk=>exact q
 | cont=>exact q
theorem oH (h1:PS X st t):cT X [st] t:=by
 intro pins s σ H D I h
 refine wpAny_execs_cons (aJ (h1 pins s σ H D I h) fun f s1 q=>?_)
 cases f with
 | next=>exact wpAny_execs_nil q
 | ret v=>exact q
 | brk=>exact q
 | cont=>exact q
theorem a5.quiet {pins:List (Addr × Obj)}{σ:St}{H:Hp}{s:Shared} (I:a5 X pins σ H s):interactive X.env=false:=by simp [interactive,I.ok.kind]
def oI (te:TE):TS:=fun D σ H=>te σ H fun _ H1=>D.nx σ H1
theorem lA (he:PE X e te) (hs:swapsWith e none pos.line X.env=pure false:=by rfl):PS X (.Expr e pos) (oI te):=by
 intro pins s σ H D I h
 exact wpAny_Expr_any (aJ (he pins s σ H _ I h) fun v s1 ⟨x,H1,I1,r1,q1⟩=>⟨σ,H1,I1,q1⟩) I.quiet hs
def oJ (te:TE):TS:=fun D σ H=>te σ H D.rt
theorem oK (he:PE X e te):PS X (.Return (some e) pos) (oJ te):=by
 intro pins s σ H D I h
 exact wpAny_Return_some (aJ (he pins s σ H _ I h) fun v s1 ⟨x,H1,I1,r1,q1⟩=>⟨x,σ,H1,I1,r1,q1⟩)
def sX (c:TT) (t u:TS):TS:=fun D σ H=>c σ H fun b H1=>if b=true then t D σ H1 else u D σ H1
theorem E4 {c:Expr}{a b:List Stmt}{tc:TT} (hc:PT X c tc) (ha:cT X a t) (hb:cT X b u):PS X (.If c a b pos) (sX tc t u):=by
 intro pins s σ H D I h
 refine wpAny_If (aJ (hc pins s σ H _ I h) fun d s1 ⟨H1,I1,q1⟩=>?_)
 cases d with
 | true=>exact ha pins s1 σ H1 D I1 q1
 | false=>exact hb pins s1 σ H1 D I1 q1
def E5:TS:=fun _ _ _=>False
theorem E6:PS X st E5:=fun _ _ _ _ _ _ h=>h.elim
end
abbrev TG:=V->St->Hp->(St->Hp->Prop)->Prop
abbrev hG:=List V->St->Hp->(St->Hp->Prop)->Prop
def PG (X:Cx) (target:Expr) (t:TG):Prop:=
 ∀ (pins:List (Addr × Obj)) (s:Shared) (σ:St) (H:Hp) (v:V) (u:Value) (Q:St->Hp->Prop),a5 X pins σ H s->aO v u->t v σ H Q->
  wpAny (model X.prog X.w) X.A (assign target X.env u) (fun _ s'=>∃ σ' H',a5 X pins σ' H' s'/\Q σ' H') X.xe s
def lB (X:Cx) (ts:List Expr) (t:hG):Prop:=
 ∀ (pins:List (Addr × Obj)) (s:Shared) (σ:St) (H:Hp) (vs:List V) (us:List Value) (Q:St->Hp->Prop),a5 X pins σ H s->aG vs us->t vs σ H Q->
  wpAny (model X.prog X.w) X.A (assignInOrder ((assignEach ts X.env).map (·.2)) us) (fun _ s'=>∃ σ' H',a5 X pins σ' H' s'/\Q σ' H') X.xe s
section
variable {X : Cx} {pos : Pos}
def cO (i:Nat):TG:=fun v σ H Q=>Q (σ.set i (some v)) H
theorem hJ {i:Nat}{x:Str} (hN:X.N.Nodup) (hi:X.N[i]? = some x) (hx:hE X.env.scope x) (hf:X.fn x=true ∨ X.env.scope.names.lookup x=some .local:=by first | exact .inl rfl | exact .inr rfl | assumption):PG X (.Name x pos) (cO i):=by
 intro pins s σ H v u Q I r h
 exact wpAny_assign_Name (sN I hN hi hx r (fun s' I'=>⟨_,H,I',h⟩) hf)
def lC:hG:=fun vs σ H Q=>vs = []/\Q σ H
def hU (t:TG) (u:hG):hG:=fun vs σ H Q=>∃ v r,vs=v :: r/\t v σ H fun σ' H'=>u r σ' H' Q
theorem sY:lB X [] lC:=by
 intro pins s σ H vs us Q I r h
 obtain ⟨e,h⟩:=h
 subst e
 cases r
 exact assignInOrder_nil ⟨σ,H,I,h⟩
theorem lD {e:Expr}{es:List Expr}{t:TG}{u:hG} (h1:PG X e t) (h2:lB X es u)
  (hs:(assignEach (e :: es) X.env).map (·.2)=assign e X.env :: (assignEach es X.env).map (·.2):=by rfl):lB X (e :: es) (hU t u):=by
 intro pins s σ H vs us Q I r h
 obtain ⟨v,vr,e1,h⟩:=h
 subst e1
 cases r with
 | cons r rr=>
  rw [hs]
  refine assignInOrder_cons (aJ (h1 pins s σ H _ _ _ I r h) fun _ s1 ⟨σ1,H1,I1,q1⟩=>?_)
  exact h2 pins s1 σ1 H1 _ _ Q I1 rr q1
def lE (K:PySem.W.Frag) (n:Nat) (t:hG):TG:=fun v σ H Q=>∃ a xs,v = .ref a/\aC K H a xs/\xs.length=n/\t xs σ H Q
theorem sZ {es:List Expr}{k:Nat}{t:hG}{n:Nat} (hc:X.calm=true) (h:lB X es t)
  (hn:(assignEach es X.env).length=n:=by rfl) (hst:(assignEach es X.env).findIdx? (·.1)=none:=by rfl):PG X (.Tuple es k pos) (lE X.K n t):=by
 intro pins s σ H v u Q I r hw
 obtain ⟨a,xs,e1,hq,hl,hw⟩:=hw
 subst e1
 cases r
 obtain ⟨its,rv,ht,hz⟩:=I.tuple hq
 refine assign_Tuple_tuple (I.ok.hd hc) ht (by simp [hn,<- hl,rv.length]) hst fun h' hx=>?_
 have I1:a5 X pins σ H { s with heap:=h' }:=I.kept (t':=s.toks) fun b o e=>hx b o (ay1 (aw2 e)) e
 exact h pins _ σ H xs _ Q I1 (by simpa using rv) hw
def jM (te:TE) (g:TG):TS:=fun D σ H=>te σ H fun x H1=>g x σ H1 D.nx
theorem oM {i:Nat}{x:Str}{e:Expr}{te:TE}{pos':Pos} (hN:X.N.Nodup) (hi:X.N[i]? = some x) (hx:hE X.env.scope x) (he:PE X e te) (hs:swapsWith e (some (.Name x pos')) pos.line X.env=pure false:=by rfl) (hf:X.fn x=true ∨ X.env.scope.names.lookup x=some .local:=by first | exact .inl rfl | exact .inr rfl | assumption) :
  PS X (.Assign [.Name x pos'] e pos) (jM te (cO i)):=by
 intro pins s σ H D I h
 refine wpAny_Assign_Name (aJ (he pins s σ H _ I h) fun v s1 ⟨y,H1,I1,r1,q1⟩=>?_) hs
 exact sN I1 hN hi hx r1 (fun s2 I2=>⟨_,H1,I2,q1⟩) hf
end
section
variable {X : Cx} {pos : Pos}
def t0 (c:TT) (tb:TS):TS:=fun D σ H=>∃ W:Nat->St->Hp->Prop,(∃ m,W m σ H)/\∀ m σ H,W m σ H->
 c σ H fun b H1=>if b=true then ∃ N:St->Hp->Prop,(∀ σ' H',N σ' H'->∃ m',m' < m/\W m' σ' H')/\tb { D with nx:=N,ct:=N,bk:=D.nx } σ H1 else D.nx σ H1
theorem E7 {c:Expr}{body:List Stmt}{tc:TT}{tb:TS} (hp:PassesOwn (model X.prog X.w) X.A X.env X.xe) (hc:PT X c tc) (hb:cT X body tb):PS X (.While c body [] pos) (t0 tc tb):=by
 intro pins s σ H D I h
 obtain ⟨W,⟨m0,w0⟩,turn⟩:=h
 refine wpAny_While (codeAny_whileLoop (fun n s'=>∃ σ' H',a5 X pins σ' H' s'/\W n σ' H') ?_ m0 ⟨σ,H,I,w0⟩)
 rintro n s1 ⟨σ1,H1,I1,w1⟩
 refine aG2 hp (aJ (hc pins s1 σ1 H1 _ I1 (turn n σ1 H1 w1)) fun b s2 ⟨H2,I2,q2⟩=>?_)
 cases b with
 | true=>
  obtain ⟨N,hN,q2⟩:=q2
  rw [if_pos rfl]
  refine aG2 hp (aJ (hb pins s2 σ1 H2 _ I2 q2) fun f s3 q3=>?_)
  cases f with
  | next=>
   obtain ⟨σ3,H3,I3,n3⟩:=q3
   obtain ⟨m',hm,w3⟩:=hN σ3 H3 n3
   exact⟨m',hm,σ3,H3,I3,w3⟩
  | cont=>
   obtain ⟨σ3,H3,I3,n3⟩:=q3
   obtain ⟨m',hm,w3⟩:=hN σ3 H3 n3
   exact⟨m',hm,σ3,H3,I3,w3⟩
  | brk=>exact q3
  | ret v=>exact q3
 | false=>
  rw [if_neg aw0]
  exact wpAny_execs_nil ⟨σ1,H2,I2,q2⟩
end
structure It where
 go:Nat->Hp->Prop
 yld:Nat->Hp->V->Hp->Prop
 stop:Nat->Hp->Prop
def e9 (X:Cx) (pins:List (Addr × Obj)) (H:Hp) (b:Addr):Prop:=
 H b=none/\b ≠ X.env.locals/\b ∉ X.fs/\(b ∈ X.ex ∨ X.s₀.heap.objs.size<=b)/\(∀ x c,X.env.cells.lookup x=some c->c ≠ b)/\∀ p ∈ X.pn ++ pins,p.1 ≠ b
theorem a5.fpOk {X:Cx}{pins:List (Addr × Obj)}{σ:St}{H H':Hp}{s:Shared}{b:Addr} (I:a5 X pins σ H s) (hb:s.heap.objs.size<=b) (hn:H' b=none):e9 X pins H' b:=by
 refine⟨hn,aD7 (av6 I.lt hb),I.nofs hb,.inr (ay6 I.sz hb),fun x c e z=>?_,fun p hp z=>?_⟩
 ·obtain ⟨v,q⟩:=I.cell x c e
  exact absurd (av6 q.lt (by rw [z]; exact hb)) (az5 _)
 ·exact absurd (av6 (aw2 (I.pin p hp).1) (by rw [z]; exact hb)) (az5 _)
structure gD (P:Program) (w:World) (K:PySem.W.Frag) (tg:Expr) (J:It) (fp:List Addr) (it:Addr) (tn:Nat->Heap->Prop):Prop where
 mem:it ∈ fp
 obj:∀ i h,tn i h->∀ b ∈ fp,∃ o,h.get? b=some o/\∀ v,o.data ≠ .cell v
 keep:∀ i h h',tn i h->(∀ b ∈ fp,∀ o,h.get? b=some o->h'.get? b=some o)->tn i h'
 item:∀ (X:Cx),X.prog=P->X.w=w->X.K=K->X.calm=true->∀ (i:Nat) (pins:List (Addr × Obj)) (s:Shared) (σ:St) (H:Hp) (E:Value->Shared->Prop),a5 X pins σ H s->(∀ b ∈ fp,e9 X pins H b)->tn i s.heap->J.go i H->
  wpAny (model P w) X.A (pyNext (.ref it)) (fun r s1=>∃ u,r=some u/\
   wpAny (model P w) X.A (letOwnedTupleGo tg (.ref it) u) (fun _ s2=>∃ x H',a5 X pins σ H' s2/\aO x u/\J.yld i H x H'/\tn (i+1) s2.heap/\∀ b ∈ fp,H' b=none) E s1) E s
 done:∀ (X:Cx),X.prog=P->X.w=w->X.K=K->X.calm=true->∀ (i:Nat) (pins:List (Addr × Obj)) (s:Shared) (σ:St) (H:Hp) (E:Value->Shared->Prop),a5 X pins σ H s->(∀ b ∈ fp,e9 X pins H b)->tn i s.heap->J.stop i H->
  wpAny (model P w) X.A (pyNext (.ref it)) (fun r s1=>r=none/\a5 X pins σ H s1) E s
 self:∀ (A:Around) (i:Nat) (s:Shared) (Q:Value->Shared->Prop) (E:Value->Shared->Prop),tn i s.heap->Q (.ref it) s->wpAny (model P w) A (pyIter (.ref it)) Q E s
abbrev TI:=St->Hp->(It->Hp->Prop)->Prop
def t5 (X:Cx) (pins:List (Addr × Obj)) (σ:St) (tg:Expr) (R:It->Hp->Prop) (itv:Value) (s2:Shared):Prop:=
 ∃ (it:Addr) (fp:List Addr) (tn:Nat->Heap->Prop) (J:It) (H':Hp),itv = .ref it/\a5 X pins σ H' s2/\gD X.prog X.w X.K tg J fp it tn/\tn 0 s2.heap/\(∀ b ∈ fp,e9 X pins H' b)/\R J H'
def PI (X:Cx) (tg iter:Expr) (wi:TI):Prop:=
 ∀ (pins:List (Addr × Obj)) (s:Shared) (σ:St) (H:Hp) (R:It->Hp->Prop),a5 X pins σ H s->wi σ H R->
  wpAny (model X.prog X.w) X.A (eval iter X.env) (fun v s1=>wpAny (model X.prog X.w) X.A (pyIter v) (t5 X pins σ tg R) X.xe s1) X.xe s
theorem oN {M:Model}{A:Around}{E:Value->Shared->Prop}{s:Shared}{tg:Expr}{it:Addr}{u:Value}{o:Obj}{n:String}{vs:Array Value}{Q:Unit->Shared->Prop} (ho:s.heap.get? it=some o) (hc:o.cls = .type n) (hd:o.data = .fields vs)
    (hn : ["enumerate","zip","dict_itemiterator","dict_reverseitemiterator","odict_iterator","itertools.zip_longest","itertools.pairwise"].contains n=false) (hQ:Q () s):wpAny M A (letOwnedTupleGo tg (.ref it) u) Q E s:=by
  unfold letOwnedTupleGo
  cases tg <;> first
    | exact au9 hQ
    | (cases u <;> first
        | exact au9 hQ
        | (refine au5 (wpAny_load ho ?_)
           rw [hc,hd]
           show wpAny M A (if (["enumerate","zip","dict_itemiterator","dict_reverseitemiterator","odict_iterator","itertools.zip_longest","itertools.pairwise"].contains n && vs[0]? == some (rawInt _))=true then _ else _) Q E s
           rw [if_neg (by intro h; rw [hn,Bool.false_and] at h; cases h)]
           exact au9 hQ))
def oO (K:PySem.W.Frag) (a:Addr):It:=
 ⟨fun i H=>∃ xs x,aI K H a xs/\xs[i]? = some x,fun i H x H'=>H'=H/\∀ xs,aI K H a xs->xs[i]? = some x,fun i H=>∃ xs,aI K H a xs/\xs.length<=i⟩
def jN (K:PySem.W.Frag) (a:Addr):It:=
 ⟨fun i H=>∃ xs x,aC K H a xs/\xs[i]? = some x,fun i H x H'=>H'=H/\∀ xs,aC K H a xs->xs[i]? = some x,fun i H=>∃ xs,aC K H a xs/\xs.length<=i⟩
def jO (lo:Int) (n:Nat):It:=⟨fun i _=>i < n,fun i H x H'=>H'=H/\x = .int (lo+i),fun i _=>n<=i⟩
theorem E8 {P:Program}{w:World}{K:PySem.W.Frag}{tg:Expr} (a it:Addr):gD P w K tg (oO K a) [it] it (fun i h=>h.IsListIter it a i) where
 mem:=by simp
 obj:=fun i h st b hb=>by
  have e:b=it:=by simpa using hb
  subst e
  obtain ⟨o,e,c,d⟩:=st
  exact⟨o,e,fun v z=>by rw [d] at z; cases z⟩
 keep:=fun i h h' st k=>st.at fun o e=>k it (by simp) o e
 item:=by
  intro X hP hw hK hc i pins s σ H E I hf st hg
  subst hP hw hK
  obtain ⟨xs,x,hq,hx⟩:=hg
  obtain ⟨its,rv,p,hz⟩:=I.list hq
  obtain ⟨u,hu,ru⟩:=rv.get hx
  obtain ⟨f0,f1,f2,f3,f4,f5⟩:=hf it (by simp)
  refine wpAny_pyNext_list_item st p.isList (x:=u) (by simpa using hu) fun h' st' sb=>?_
  have I1:a5 X pins σ H { s with heap:=h' }:=I.turned (t':=s.toks) (fun b o hb e=>(sb.2 b hb).trans e) f0 f1 f3 f4 f5
  obtain ⟨o,e,c,d⟩:=id st'
  exact⟨u,rfl,oN (s:={ s with heap:=h' }) e c d (by decide) ⟨x,H,I1,ru,⟨rfl,fun ys hy=>by rw [I.list_inj hy hq]; exact hx⟩,st',fun b hb=>(hf b hb).1⟩⟩
 done:=by
  intro X hP hw hK hc i pins s σ H E I hf st hg
  subst hP hw hK
  obtain ⟨xs,hq,hx⟩:=hg
  obtain ⟨its,rv,p,hz⟩:=I.list hq
  obtain ⟨f0,f1,f2,f3,f4,f5⟩:=hf it (by simp)
  have hl:=rv.length
  exact wpAny_pyNext_list_end (I.ok.hd hc) st p.isList (by simp; omega) fun h' eb=>⟨rfl,I.turned (t':=s.toks) (fun b o hb e=>eb b o hb e) f0 f1 f3 f4 f5⟩
 self:=fun _ _ _ _ _ st h=>wpAny_pyIter_listiter st h
theorem t6 {P:Program}{w:World}{K:PySem.W.Frag}{tg:Expr} (a it:Addr):gD P w K tg (jN K a) [it] it (fun i h=>h.IsTupleIter it a i) where
 mem:=by simp
 obj:=fun i h st b hb=>by
  have e:b=it:=by simpa using hb
  subst e
  obtain ⟨o,e,c,d⟩:=st
  exact⟨o,e,fun v z=>by rw [d] at z; cases z⟩
 keep:=fun i h h' st k=>st.at fun o e=>k it (by simp) o e
 item:=by
  intro X hP hw hK hc i pins s σ H E I hf st hg
  subst hP hw hK
  obtain ⟨xs,x,hq,hx⟩:=hg
  obtain ⟨its,rv,p,hz⟩:=I.tuple hq
  obtain ⟨u,hu,ru⟩:=rv.get hx
  obtain ⟨f0,f1,f2,f3,f4,f5⟩:=hf it (by simp)
  refine wpAny_pyNext_tuple_item st (show s.heap.IsTuple a its.toArray from p) (x:=u) (by simpa using hu) fun h' st' sb=>?_
  have I1:a5 X pins σ H { s with heap:=h' }:=I.turned (t':=s.toks) (fun b o hb e=>(sb.2 b hb).trans e) f0 f1 f3 f4 f5
  obtain ⟨o,e,c,d⟩:=id st'
  exact⟨u,rfl,oN (s:={ s with heap:=h' }) e c d (by decide) ⟨x,H,I1,ru,⟨rfl,fun ys hy=>by rw [I.tuple_inj hy hq]; exact hx⟩,st',fun b hb=>(hf b hb).1⟩⟩
 done:=by
  intro X hP hw hK hc i pins s σ H E I hf st hg
  subst hP hw hK
  obtain ⟨xs,hq,hx⟩:=hg
  obtain ⟨its,rv,p,hz⟩:=I.tuple hq
  obtain ⟨f0,f1,f2,f3,f4,f5⟩:=hf it (by simp)
  have hl:=rv.length
  exact wpAny_pyNext_tuple_end (I.ok.hd hc) st (show s.heap.IsTuple a its.toArray from p) (by simp; omega) fun h' eb=>⟨rfl,I.turned (t':=s.toks) (fun b o hb e=>eb b o hb e) f0 f1 f3 f4 f5⟩
 self:=fun _ _ _ _ _ st h=>wpAny_pyIter_tupleiter st h
theorem E9 {P:Program}{w:World}{K:PySem.W.Frag}{tg:Expr} (it:Addr) (lo:Int) (n:Nat):gD P w K tg (jO lo n) [it] it (fun i h=>IsRangeIter h it (lo+(i:Nat) * 1) ((n:Int) - (i:Nat)) 1) where
 mem:=by simp
 obj:=fun i h st b hb=>by
  have e:b=it:=by simpa using hb
  subst e
  exact⟨_,st,fun v z=>by
   have z':Data.fields _=Data.cell v:=z
   cases z'⟩
 keep:=fun i h h' st k=>k it (by simp) _ st
 item:=by
  intro X hP hw hK hc i pins s σ H E I hf st hg
  subst hP hw hK
  obtain ⟨f0,f1,f2,f3,f4,f5⟩:=hf it (by simp)
  have W:=Walks.range (prog:=X.prog) (w:=X.w) (I.ok.hd hc) it lo 1 n
  refine W.item i s _ _ hg st fun v h' tk hv st' kk=>?_
  obtain ⟨t,rfl⟩:=hv
  have I1:a5 X pins σ H { s with heap:=h',toks:=tk }:=I.turned (fun b o hb e=>kk b o (by simpa using hb) e) f0 f1 f3 f4 f5
  refine⟨_,rfl,oN (s:={ s with heap:=h',toks:=tk }) (n:="range_iterator") st' rfl rfl (by decide) ⟨.int (lo+i),H,I1,⟨t,?_⟩,⟨rfl,rfl⟩,st',fun b hb=>(hf b hb).1⟩⟩
  rw [Int.mul_one]
 done:=by
  intro X hP hw hK hc i pins s σ H E I hf st hg
  subst hP hw hK
  obtain ⟨f0,f1,f2,f3,f4,f5⟩:=hf it (by simp)
  exact wpAny_pyNext_range_end (I.ok.hd hc) st (by have:n<=i:=hg; omega) fun h' eb=>⟨rfl,I.turned (t':=s.toks) (fun b o hb e=>eb b o hb e) f0 f1 f3 f4 f5⟩
 self:=fun _ _ _ _ _ st h=>wpAny_pyIter_rangeiter st h
section
variable {X : Cx} {tg : Expr}
def F0 (K:PySem.W.Frag) (tl:TE):TI:=fun σ H R=>tl σ H fun x H1=>∃ a,x = .ref a/\(∃ xs,aC K H1 a xs)/\R (jN K a) H1
theorem F1 {l:Expr}{tl:TE} (hl:PE X l tl):PI X tg l (F0 X.K tl):=by
 intro pins s σ H R I h
 refine aJ (hl pins s σ H _ I h) fun v s1 ⟨x,H1,I1,r1,q1⟩=>?_
 obtain ⟨a,e,⟨xs,hq⟩,q⟩:=q1
 subst e
 cases r1
 obtain ⟨its,rv,p,hz⟩:=I1.tuple hq
 refine aF5 (show s1.heap.IsTuple a its.toArray from p) ?_
 refine⟨s1.heap.objs.size,[s1.heap.objs.size],_,_,H1,rfl,I1.kept (t':=s1.toks) fun b o e=>au6 _ e,t6 a _,⟨_,aw8 _ rfl,rfl,rfl⟩,fun b hb=>?_,q⟩
 have e:b=s1.heap.objs.size:=by simpa using hb
 subst e
 exact I1.fpOk (au7 _) (I1.hok.fresh (au7 _))
theorem t7 {pins:List (Addr × Obj)}{σ:St}{H:Hp}{s:Shared}{R:It->Hp->Prop}{E:Value->Shared->Prop}{lo hi:Int}{t u v:Tok}{tk:Nat} (I:a5 X pins σ H s) (h1 : -(2 ^ 62)<=lo) (h2:lo < 2 ^ 62) (h3 : -(2 ^ 62)<=hi) (h4:hi < 2 ^ 62)
  (q:R (jO lo (hi - lo).toNat) H):wpAny (model X.prog X.w) X.A (pyIter (.ref s.heap.objs.size)) (t5 X pins σ tg R) E { s with heap:=s.heap.push { cls:=.type "range",data:=.fields #[.int lo t,.int hi u,.int 1 v] },toks:=tk }:=by
 refine wpAny_pyIter_range (IsRange.new ..) (small_one h1 h2 h3 h4) ?_
 have I1:a5 X pins σ H { s with heap:=s.heap.push { cls:=.type "range",data:=.fields #[.int lo t,.int hi u,.int 1 v] },toks:=tk }:=I.kept fun b o e=>au6 _ e
 refine⟨(s.heap.push { cls:=.type "range",data:=.fields #[.int lo t,.int hi u,.int 1 v] }).objs.size,[(s.heap.push { cls:=.type "range",data:=.fields #[.int lo t,.int hi u,.int 1 v] }).objs.size],_,_,H,rfl,
  I1.kept (t':=tk) fun b o e=>au6 _ e,E9 _ lo (hi - lo).toNat,?_,fun b hb=>?_,q⟩
 ·have e1:lo+((0:Nat):Int) * 1=lo:=by simp
  have e2:(((hi - lo).toNat:Nat):Int) - ((0:Nat):Int)=Builtin.Range.rangeSize lo hi 1:=by rw [rangeSize_one]; split <;> omega
  show IsRangeIter _ _ (lo+((0:Nat):Int) * 1) ((((hi - lo).toNat:Nat):Int) - ((0:Nat):Int)) 1
  rw [e1,e2]
  exact aw8 _ rfl
 ·have e:b=(s.heap.push { cls:=.type "range",data:=.fields #[.int lo t,.int hi u,.int 1 v] }).objs.size:=by simpa using hb
  subst e
  exact I1.fpOk (au7 _) (I1.hok.fresh (au7 _))
def t8 (ta:TA):TI:=fun σ H R=>ta σ H fun vs H1=>∃ j:Int,vs = [.int j]/\-(2 ^ 62)<=j/\j < 2 ^ 62/\R (jO 0 j.toNat) H1
def t9 (ta:TA):TI:=fun σ H R=>ta σ H fun vs H1=>∃ i j:Int,vs = [.int i,.int j]/\(-(2 ^ 62)<=i/\i < 2 ^ 62/\-(2 ^ 62)<=j/\j < 2 ^ 62)/\R (jO i (j - i).toNat) H1
theorem F3 {a:Expr}{ta:TA}{p pos:Pos} (hg:Gl X "range") (hm:X.mg "range" = none) (ha:PA X [a] ta) (hs:starEach [a] X.env = [(false,eval a X.env)]:=by rfl):PI X tg (.Call (.Name "range" p) [a] [] pos) (t8 ta):=by
 intro pins s σ H R I h
 refine Call_ (gC I hg hm boot_range (aA9 (aJ (ha pos pins s σ H _ I h) fun us s1 ⟨vs,H1,I1,r1,q1⟩=>?_) hs rfl))
 obtain ⟨j,e,q1,q2,q⟩:=q1
 subst e
 cases r1 with
 | cons r rr=>
  cases rr
  obtain ⟨t,rfl⟩:=r
  exact call_range_1 (t7 I1 (by omega) (by omega) q1 q2 (by simpa using q))
theorem F4 {a b:Expr}{ta:TA}{p pos:Pos} (hg:Gl X "range") (hm:X.mg "range" = none) (ha:PA X [a,b] ta) (hs:starEach [a,b] X.env = [(false,eval a X.env),(false,eval b X.env)]:=by rfl) (hs2:starEach [b] X.env = [(false,eval b X.env)]:=by rfl) :
  PI X tg (.Call (.Name "range" p) [a,b] [] pos) (t9 ta):=by
 intro pins s σ H R I h
 refine Call_ (gC I hg hm boot_range (aA9 (aJ (ha pos pins s σ H _ I h) fun us s1 ⟨vs,H1,I1,r1,q1⟩=>?_) (by rw [hs,hs2]) (by rw [hs2]; rfl)))
 obtain ⟨i,j,e,⟨q1,q2,q3,q4⟩,q⟩:=q1
 subst e
 cases r1 with
 | cons r rr=>
  cases rr with
  | cons r' rr=>
   cases rr
   obtain ⟨t,rfl⟩:=r
   obtain ⟨t',rfl⟩:=r'
   exact call_range_2 (t7 I1 q1 q2 q3 q4 q)
def tD (wi:TI) (g:TG) (tb:TS):TS:=fun D σ H=>wi σ H fun J H1=>∃ W:Nat->Nat->St->Hp->Prop,(∃ m,W 0 m σ H1)/\∀ i m σ H,W i m σ H->
 (J.stop i H/\D.nx σ H) ∨ (J.go i H/\∃ N:St->Hp->Prop,(∀ σ' H',N σ' H'->∃ m',m' < m/\W (i+1) m' σ' H')/\∀ x H',J.yld i H x H'->g x σ H' fun σ2 H2=>tb { D with nx:=N,ct:=N,bk:=D.nx } σ2 H2)
def jP (fp:List Addr) (h:Heap):List (Addr × Obj):=fp.filterMap fun b=>(h.get? b).map fun o=>(b,o)
theorem lF {fp:List Addr}{h:Heap}{b:Addr}{o:Obj} (hb:b ∈ fp) (e:h.get? b=some o):(b,o) ∈ jP fp h:=List.mem_filterMap.mpr ⟨b,hb,by rw [e]; rfl⟩
theorem F5 {fp:List Addr}{h:Heap}{p:Addr × Obj} (hp:p ∈ jP fp h):p.1 ∈ fp/\h.get? p.1=some p.2:=by
 obtain ⟨b,hb,e⟩:=List.mem_filterMap.mp hp
 cases q:h.get? b with
 | none=>rw [q] at e; cases e
 | some o=>
  rw [q] at e
  have e':(b,o)=p:=ax4 e
  subst e'
  exact⟨hb,q⟩
theorem a5.pinned {pins:List (Addr × Obj)}{σ:St}{H:Hp}{s:Shared}{fp:List Addr} (I:a5 X pins σ H s) (hf:∀ b ∈ fp,e9 X pins H b) (ho:∀ b ∈ fp,∃ o,s.heap.get? b=some o/\∀ v,o.data ≠ .cell v):a5 X (pins ++ jP fp s.heap) σ H s:=
 I.pins_of fun p hp=>(ax5.mp hp).elim (fun z=>I.pin p (ax9 _ z)) fun z=>by
  obtain ⟨hb,e⟩:=F5 z
  obtain ⟨f0,f1,f2,_⟩:=hf p.1 hb
  obtain ⟨o,e',d⟩:=ho p.1 hb
  rw [e] at e'; cases e'
  exact⟨e,f0,f1,f2,d⟩
theorem a5.unpinned {pins pl:List (Addr × Obj)}{σ:St}{H:Hp}{s:Shared} (I:a5 X (pins ++ pl) σ H s):a5 X pins σ H s:=I.pins_of fun p hp=>I.pin p (ax9 _ (aG5 _ hp))
theorem tE {iter:Expr}{body:List Stmt}{wi:TI}{g:TG}{tb:TS}{pos:Pos} (hp:PassesOwn (model X.prog X.w) X.A X.env X.xe) (hc:X.calm=true) (hi:PI X tg iter wi) (hg:PG X tg g) (hb:cT X body tb)
  (hs:∀ x,foldedSetIterable iter X.env x=pure x:=by intro _; rfl):PS X (.For tg iter body [] pos) (tD wi g tb):=by
 intro pins s σ H D I h
 refine wpAny_For (aJ (hi pins s σ H _ I h) fun v s1 h1=>aJ h1 fun itv s2 h2=>?_) hs
 obtain ⟨it,fp,tn,J,H2,e,I2,T,st2,f2,W,⟨m0,w0⟩,turn⟩:=h2
 subst e
 have stat:∀ {H':Hp},(∀ b ∈ fp,H' b=none)->∀ b ∈ fp,e9 X pins H' b:=fun hn b hb=>⟨hn b hb,(f2 b hb).2⟩
 refine codeAny_forLoop_any (fun n s'=>∃ i σ' H',a5 X pins σ' H' s'/\tn i s'.heap/\(∀ b ∈ fp,H' b=none)/\W i n σ' H') ?_ m0 ⟨0,σ,H2,I2,st2,fun b hb=>(f2 b hb).1,w0⟩
 rintro n s3 ⟨i,σ3,H3,I3,st3,fr3,w3⟩
 rcases turn i n σ3 H3 w3 with ⟨stop,qn⟩ | ⟨go,N,hN,step⟩
 ·refine aG2 hp (aJ (T.done X rfl rfl rfl hc i pins s3 σ3 H3 X.xe I3 (stat fr3) st3 stop) fun r s4 ⟨hr,I4⟩=>?_)
  subst hr
  exact wpAny_execs_nil ⟨σ3,H3,I4,qn⟩
 ·refine aG2 hp (aJ (T.item X rfl rfl rfl hc i pins s3 σ3 H3 X.xe I3 (stat fr3) st3 go) fun r s4 ⟨u,hr,h4⟩=>?_)
  subst hr
  refine aG2 hp (aJ h4 fun _ s5 ⟨x,H5,I5,r5,y5,st5,fr5⟩=>?_)
  have I5':=I5.pinned (stat fr5) (T.obj _ _ st5)
  refine aG2 hp (aJ (hg _ s5 σ3 H5 x u _ I5' r5 (step x H5 y5)) fun _ s6 ⟨σ6,H6,I6,q6⟩=>?_)
  refine aG2 hp (aJ (hb _ s6 σ6 H6 _ I6 q6) fun f s7 q7=>?_)
  have again:∀ {σ7:St}{H7:Hp},a5 X (pins ++ jP fp s5.heap) σ7 H7 s7->N σ7 H7->∃ m,m < n/\∃ i σ' H',a5 X pins σ' H' s7/\tn i s7.heap/\(∀ b ∈ fp,H' b=none)/\W i m σ' H':=fun {σ7 H7} I7 n7=>by
   obtain ⟨m',hm,w7⟩:=hN σ7 H7 n7
   refine⟨m',hm,i+1,σ7,H7,I7.unpinned,T.keep _ _ _ st5 fun b hb o e=>(I7.pin (b,o) (ax9 _ (ax9 _ (lF hb e)))).1,fun b hb=>?_,w7⟩
   obtain ⟨o,e,d⟩:=T.obj _ _ st5 b hb
   exact (I7.pin (b,o) (ax9 _ (ax9 _ (lF hb e)))).2.1
  cases f with
  | next=>obtain ⟨σ7,H7,I7,n7⟩:=q7; exact again I7 n7
  | cont=>obtain ⟨σ7,H7,I7,n7⟩:=q7; exact again I7 n7
  | brk=>obtain ⟨σ7,H7,I7,q7⟩:=q7; exact⟨σ7,H7,I7.unpinned,q7⟩
  | ret v=>obtain ⟨x7,σ7,H7,I7,r7,q7⟩:=q7; exact⟨x7,σ7,H7,I7.unpinned,r7,q7⟩
end
abbrev R2:=V->V->Hp->VK->Prop
def bN (X:Cx) (f:Value->Value->Sem Value) (r:R2):Prop:=
 ∀ (pins:List (Addr × Obj)) (s:Shared) (σ:St) (H:Hp) (x y:V) (v u:Value) (Q:VK),a5 X pins σ H s->aO x v->aO y u->r x y H Q->
  wpAny (model X.prog X.w) X.A (f v u) (EP X pins σ Q) X.xe s
def oP (X:Cx) (f:Value->Sem Value) (r:V->Hp->VK->Prop):Prop:=
 ∀ (pins:List (Addr × Obj)) (s:Shared) (σ:St) (H:Hp) (x:V) (v:Value) (Q:VK),a5 X pins σ H s->aO x v->r x H Q->
  wpAny (model X.prog X.w) X.A (f v) (EP X pins σ Q) X.xe s
def bS (X:Cx) (f:Value) (r:List V->Hp->VK->Prop):Prop:=
 ∀ (pins:List (Addr × Obj)) (s:Shared) (σ:St) (H:Hp) (xs:List V) (us:List Value) (Q:VK),a5 X pins σ H s->aG xs us->r xs H Q->
  wpAny (model X.prog X.w) X.A (call f us) (EP X pins σ Q) X.xe s
def jQ (r:R2) (ta tb:TE):TE:=fun σ H Q=>ta σ H fun x H1=>tb σ H1 fun y H2=>r x y H2 Q
def F6 (r:V->Hp->VK->Prop) (ta:TE):TE:=fun σ H Q=>ta σ H fun x H1=>r x H1 Q
def rI (C:Int->Int->Prop) (g:Int->Int->V):R2:=fun x y H Q=>∃ i j,x = .int i/\y = .int j/\C i j/\Q (g i j) H
def fB (g:Int->Int->V):R2:=fun x y H Q=>∃ i j,x = .int i/\y = .int j/\Q (g i j) H
def rU (g:Int->V):V->Hp->VK->Prop:=fun x H Q=>∃ i,x = .int i/\Q (g i) H
section
variable {X : Cx} {a b c : Expr} {ta tb tc : TE} {pos : Pos}
theorem oQ (ha:PE X a ta) (hb:PE X b tb) {pins:List (Addr × Obj)}{s:Shared}{σ:St}{H:Hp}{R:V->V->Hp->Prop} (I:a5 X pins σ H s)
  (h:ta σ H fun x H1=>tb σ H1 fun y H2=>R x y H2) {Q:Value->Shared->Prop}{f:Value->Value->Sem Value}
  (hf:∀ v u s2 x y H2,a5 X pins σ H2 s2->aO x v->aO y u->R x y H2->wpAny (model X.prog X.w) X.A (f v u) Q X.xe s2) :
  wpAny (model X.prog X.w) X.A (eval a X.env) (fun v s₁=>wpAny (model X.prog X.w) X.A (eval b X.env) (fun u s₂=>wpAny (model X.prog X.w) X.A (f v u) Q X.xe s₂) X.xe s₁) X.xe s:=by
 refine aJ (ha pins s σ H _ I h) fun v s1 ⟨x,H1,I1,r1,q1⟩=>?_
 refine aJ (hb pins s1 σ H1 _ I1 q1) fun u s2 ⟨y,H2,I2,r2,q2⟩=>?_
 exact hf v u s2 x y H2 I2 r1 r2 q2
theorem F7 {op:Operator}{r:R2} (ho:bN X (binaryOp op) r) (ha:PE X a ta) (hb:PE X b tb):PE X (.BinOp a op b pos) (jQ r ta tb):=by
 intro pins s σ H Q I h
 exact wpAny_BinOp (oQ ha hb I h fun v u s2 x y H2 I2 rx ry q=>ho pins s2 σ H2 x y v u Q I2 rx ry q)
theorem F8 {op:UnaryOp}{r:V->Hp->VK->Prop} (ho:oP X (unaryOp op) r) (ha:PE X a ta):PE X (.UnaryOp op a pos) (F6 r ta):=by
 intro pins s σ H Q I h
 exact UnaryOp_ (aJ (ha pins s σ H _ I h) fun v s1 ⟨x,H1,I1,r1,q1⟩=>ho pins s1 σ H1 x v Q I1 r1 q1)
theorem oR {f:Value->Value->Sem Value}{C:Int->Int->Prop}{g:Int->Int->Int}
  (rule:∀ (i j:Int) (t u:Tok) (s:Shared) (Q:Value->Shared->Prop) (E:Value->Shared->Prop),C i j->Q (.int (g i j) s.toks) { s with toks:=s.toks+1 }->wpAny (model X.prog X.w) X.A (f (.int i t) (.int j u)) Q E s) :
  bN X f (rI C fun i j=>.int (g i j)):=by
 intro pins s σ H x y v u Q I rx ry h
 obtain ⟨i,j,rfl,rfl,hc,q⟩:=h
 obtain ⟨t,rfl⟩:=rx
 obtain ⟨t',rfl⟩:=ry
 exact rule i j t t' s _ _ hc ⟨.int (g i j),H,I.tok _,⟨_,rfl⟩,q⟩
theorem tF {f:Value->Value->Sem Value}{g:Int->Int->Int}
  (rule:∀ (i j:Int) (t u:Tok) (s:Shared) (Q:Value->Shared->Prop) (E:Value->Shared->Prop),Q (.int (g i j) s.toks) { s with toks:=s.toks+1 }->wpAny (model X.prog X.w) X.A (f (.int i t) (.int j u)) Q E s) :
  bN X f (fB fun i j=>.int (g i j)):=by
 intro pins s σ H x y v u Q I rx ry h
 obtain ⟨i,j,rfl,rfl,q⟩:=h
 obtain ⟨t,rfl⟩:=rx
 obtain ⟨t',rfl⟩:=ry
 exact rule i j t t' s _ _ ⟨.int (g i j),H,I.tok _,⟨_,rfl⟩,q⟩
theorem lG {f:Value->Value->Sem Value}{g:Int->Int->Bool}
  (rule:∀ (i j:Int) (t u:Tok) (s:Shared) (Q:Value->Shared->Prop) (E:Value->Shared->Prop),Q (.bool (g i j)) s->wpAny (model X.prog X.w) X.A (f (.int i t) (.int j u)) Q E s) :
  bN X f (fB fun i j=>.bl (g i j)):=by
 intro pins s σ H x y v u Q I rx ry h
 obtain ⟨i,j,rfl,rfl,q⟩:=h
 obtain ⟨t,rfl⟩:=rx
 obtain ⟨t',rfl⟩:=ry
 exact rule i j t t' s _ _ ⟨.bl (g i j),H,I,rfl,q⟩
def oS (i j:Int):Prop:=0 < j/\j < 1073741824
def jR (i j:Int):Prop:=(-(2 ^ 64) < i/\i < 2 ^ 64) ∨ (-(2 ^ 64) < j/\j < 2 ^ 64)
theorem jR.ok {i j:Int} (h:jR i j):IntMulOk i j:=by
 rcases h with ⟨h1,h2⟩ | ⟨h1,h2⟩
 ·exact .of_left (intBits_le_64 h1 h2)
 ·exact .of_right (intBits_le_64 h1 h2)
theorem F9:bN X (binaryOp .Add) (fB fun i j=>.int (i+j)):=tF fun _ _ _ _ _ _ _ q=>add_int q
theorem G0:bN X (binaryOp .Sub) (fB fun i j=>.int (i - j)):=tF fun _ _ _ _ _ _ _ q=>sub_int q
theorem G1:bN X (binaryOp .Mult) (rI jR fun i j=>.int (i * j)):=oR fun _ _ _ _ _ _ _ hc q=>mul_int q hc.ok
theorem G2:bN X (binaryOp .FloorDiv) (rI oS fun i j=>.int (i / j)):=oR fun i j _ _ _ _ _ hc q=>by
 have h1:(0:Int) < j:=hc.1
 have h2:j < 1073741824:=hc.2
 exact floordiv_int (by omega) (by rw [Int.fdiv_eq_ediv_of_nonneg i (by omega)]; exact q) (.inl (PyProof.noPylong_small (by omega)))
theorem G3:bN X (binaryOp .Mod) (rI (fun _ j=>0 < j) fun i j=>.int (i % j)):=oR fun i j _ _ _ _ _ hc q=>by
 have h1:(0:Int) < j:=hc
 exact mod_int' (by omega) (by rw [Int.fmod_eq_emod_of_nonneg i (by omega)]; exact q)
theorem G4 {f:Value->Sem Value}{g:Int->Int}
  (rule:∀ (i:Int) (t:Tok) (s:Shared) (Q:Value->Shared->Prop) (E:Value->Shared->Prop),Q (.int (g i) s.toks) { s with toks:=s.toks+1 }->wpAny (model X.prog X.w) X.A (f (.int i t)) Q E s) :
  oP X f (rU fun i=>.int (g i)):=by
 intro pins s σ H x v Q I rx h
 obtain ⟨i,rfl,q⟩:=h
 obtain ⟨t,rfl⟩:=rx
 exact rule i t s _ _ ⟨.int (g i),H,I.tok _,⟨_,rfl⟩,q⟩
theorem G5:oP X (unaryOp .USub) (rU fun i=>.int (-i)):=G4 fun _ _ _ _ _ q=>neg_int q
end
def tG:V->V->Bool
 | .non,.non=>true | .non,.int _=>true | .int _,.non=>true | .non,.bl _=>true | .bl _,.non=>true | .non,.str _=>true | .str _,.non=>true
 | .int _,.int _=>true | .bl _,.bl _=>true | .str _,.str _=>true | .byt _,.byt _=>true
 | .int _,.str _=>true | .str _,.int _=>true | .bl _,.str _=>true | .str _,.bl _=>true
 | _,_=>false
def tH:R2:=fun x y H Q=>tG x y=true/\Q (.bl (decide (x=y))) H
def tI:R2:=fun x y H Q=>tG x y=true/\Q (.bl (!decide (x=y))) H
theorem tJ {i j:Int}:decide (V.int i=V.int j)=(i == j):=by
 rw [aG3]
 simp
theorem tK {i j:Bool}:decide (V.bl i=V.bl j)=(i == j):=by
 rw [aG3]
 simp
theorem tL {i j:Str}:decide (V.str i=V.str j)=(i == j):=by
 rw [aG3]
 simp
theorem tM {i j:Array UInt8}:decide (V.byt i=V.byt j)=(i.toList == j.toList):=by
 rw [aG3]
 cases i
 cases j
 simp
section
variable {X : Cx} {a b c : Expr} {ta tb tc : TE} {pos : Pos}
theorem b9 {pins:List (Addr × Obj)}{σ:St}{H:Hp}{s:Shared}{Q:VK}{k k':Bool} (I:a5 X pins σ H s) (q:Q (.bl k) H) (e:k=k'):EP X pins σ Q (.bool k') s:=by
 subst e
 exact⟨.bl k,H,I,rfl,q⟩
theorem G6:bN X (compareOp .Eq) tH:=by
 intro pins s σ H x y v u Q I rx ry h
 obtain ⟨hs,q⟩:=h
 cases x with
 | non=>
  cases rx
  cases y with
  | non=>cases ry; exact PySem.EqNone.eq_none_none (b9 I q (by simp))
  | bl j=>cases ry; exact PySem.EqNone.eq_none_bool (b9 I q (by simp))
  | int j=>obtain ⟨t',rfl⟩:=ry; exact PySem.EqNone.eq_none_int (b9 I q (by simp))
  | str j=>obtain ⟨t',rfl⟩:=ry; exact PySem.EqNone.eq_none_str (b9 I q (by simp))
  | _=>exact absurd (show false=true from hs) aw0
 | bl i=>
  cases rx
  cases y with
  | non=>cases ry; exact PySem.EqNone.eq_bool_none (b9 I q (by simp))
  | bl j=>cases ry; exact eq_bool (b9 I q tK)
  | str j=>obtain ⟨t',rfl⟩:=ry; exact PySem.EqMixed.eq_bool_str (b9 I q (by simp))
  | _=>exact absurd (show false=true from hs) aw0
 | int i=>
  obtain ⟨t,rfl⟩:=rx
  cases y with
  | non=>cases ry; exact PySem.EqNone.eq_int_none (b9 I q (by simp))
  | int j=>obtain ⟨t',rfl⟩:=ry; exact eq_int (b9 I q tJ)
  | str j=>obtain ⟨t',rfl⟩:=ry; exact PySem.EqMixed.eq_int_str (b9 I q (by simp))
  | _=>exact absurd (show false=true from hs) aw0
 | str i=>
  obtain ⟨t,rfl⟩:=rx
  cases y with
  | non=>cases ry; exact PySem.EqNone.eq_str_none (b9 I q (by simp))
  | bl j=>cases ry; exact PySem.EqMixed.eq_str_bool (b9 I q (by simp))
  | int j=>obtain ⟨t',rfl⟩:=ry; exact PySem.EqMixed.eq_str_int (b9 I q (by simp))
  | str j=>obtain ⟨t',rfl⟩:=ry; exact eq_str (b9 I q tL)
  | _=>exact absurd (show false=true from hs) aw0
 | byt i=>
  obtain ⟨t,rfl⟩:=rx
  cases y with
  | byt j=>obtain ⟨t',rfl⟩:=ry; exact PySem.W.eq_bytes (b9 I q tM)
  | _=>exact absurd (show false=true from hs) aw0
 | _=>cases y <;> exact absurd (show false=true from hs) aw0
theorem G7:bN X (compareOp .NotEq) tI:=by
 intro pins s σ H x y v u Q I rx ry h
 obtain ⟨hs,q⟩:=h
 cases x with
 | non=>
  cases rx
  cases y with
  | non=>cases ry; exact PySem.EqNone.ne_none_none (b9 I q (by simp))
  | bl j=>cases ry; exact PySem.EqNone.ne_none_bool (b9 I q (by simp))
  | int j=>obtain ⟨t',rfl⟩:=ry; exact PySem.EqNone.ne_none_int (b9 I q (by simp))
  | str j=>obtain ⟨t',rfl⟩:=ry; exact PySem.EqNone.ne_none_str (b9 I q (by simp))
  | _=>exact absurd (show false=true from hs) aw0
 | bl i=>
  cases rx
  cases y with
  | non=>cases ry; exact PySem.EqNone.ne_bool_none (b9 I q (by simp))
  | bl j=>cases ry; exact ne_bool (b9 I q (congrArg not tK))
  | str j=>obtain ⟨t',rfl⟩:=ry; exact PySem.EqMixed.ne_bool_str (b9 I q (by simp))
  | _=>exact absurd (show false=true from hs) aw0
 | int i=>
  obtain ⟨t,rfl⟩:=rx
  cases y with
  | non=>cases ry; exact PySem.EqNone.ne_int_none (b9 I q (by simp))
  | int j=>obtain ⟨t',rfl⟩:=ry; exact ne_int (b9 I q (congrArg not tJ))
  | str j=>obtain ⟨t',rfl⟩:=ry; exact PySem.EqMixed.ne_int_str (b9 I q (by simp))
  | _=>exact absurd (show false=true from hs) aw0
 | str i=>
  obtain ⟨t,rfl⟩:=rx
  cases y with
  | non=>cases ry; exact PySem.EqNone.ne_str_none (b9 I q (by simp))
  | bl j=>cases ry; exact PySem.EqMixed.ne_str_bool (b9 I q (by simp))
  | int j=>obtain ⟨t',rfl⟩:=ry; exact PySem.EqMixed.ne_str_int (b9 I q (by simp))
  | str j=>obtain ⟨t',rfl⟩:=ry; exact ne_str (b9 I q (congrArg not tL))
  | _=>exact absurd (show false=true from hs) aw0
 | byt i=>
  obtain ⟨t,rfl⟩:=rx
  cases y with
  | byt j=>obtain ⟨t',rfl⟩:=ry; exact PySem.W.ne_bytes (b9 I q (congrArg not tM))
  | _=>exact absurd (show false=true from hs) aw0
 | _=>cases y <;> exact absurd (show false=true from hs) aw0
theorem tN:bN X (compareOp .Lt) (fB fun i j=>.bl (decide (i < j))):=lG fun _ _ _ _ _ _ _ q=>lt_int q
theorem G8:bN X (compareOp .LtE) (fB fun i j=>.bl (decide (i<=j))):=lG fun _ _ _ _ _ _ _ q=>le_int q
theorem G9:bN X (compareOp .Gt) (fB fun i j=>.bl (decide (j < i))):=lG fun _ _ _ _ _ _ _ q=>gt_int q
theorem J0:bN X (compareOp .GtE) (fB fun i j=>.bl (decide (j<=i))):=lG fun _ _ _ _ _ _ _ q=>ge_int q
theorem J1:bN X (compareOp .IsNot) (fun x y H Q=>y = .non/\Q (.bl (!decide (x = .non))) H):=by
 intro pins s σ H x y v u Q I rx ry h
 obtain ⟨rfl,q⟩:=h
 cases ry
 refine isnot_none_gen (b9 I q ?_)
 cases x <;> first
  | (cases rx; rfl)
  | (obtain ⟨t,rfl⟩:=rx; rfl)
theorem gE (b:Expr) {op:CmpOp} (h:op ≠ .In:=by decide) (h2:op ≠ .NotIn:=by decide):behindInMarks op b=false:=by
 have e1:(op == CmpOp.In)=false:=by cases op <;> first | rfl | exact absurd rfl h
 have e2:(op == CmpOp.NotIn)=false:=by cases op <;> first | rfl | exact absurd rfl h2
 cases b <;> simp [behindInMarks,e1,e2]
theorem J2 {op:CmpOp}{r:R2} (ho:bN X (compareOp op) r) (ha:PE X a ta) (hb:PE X b tb) (hm:behindInMarks op b=false):PE X (.Compare a [op] [b] pos) (jQ r ta tb):=by
 intro pins s σ H Q I h
 exact wpAny_Compare1 (oQ ha hb I h fun v u s2 x y H2 I2 rx ry q=>ho pins s2 σ H2 x y v u Q I2 rx ry q) hm
def J3 (t:TE):TT:=fun σ H Q=>t σ H fun x H'=>∃ k,x = .bl k/\Q k H'
theorem J4 {op:CmpOp}{r:R2} (ho:bN X (compareOp op) r) (ha:PE X a ta) (hb:PE X b tb) (hm:behindInMarks op b=false):PT X (.Compare a [op] [b] pos) (J3 (jQ r ta tb)):=by
 intro pins s σ H Q I h
 refine wpAny_isTrue_Compare1 (aJ (ha pins s σ H _ I h) fun v s1 ⟨x,H1,I1,r1,q1⟩=>aJ (hb pins s1 σ H1 _ I1 q1) fun u s2 ⟨y,H2,I2,r2,q2⟩=>
  aJ (ho pins s2 σ H2 x y v u _ I2 r1 r2 q2) fun c s3 ⟨z,H3,I3,r3,k,e,q3⟩=>?_) hm
 subst e
 cases r3
 exact aE8 ⟨H3,I3,q3⟩
theorem lH:(sizeLine:Nat) < 2 ^ 63:=by rw [sizeLine_eq]; decide
theorem eB {x:V}{us:List Value} (r:aG [x] us):∃ u,us = [u]/\aO x u:=by
 cases r with
 | cons r1 r2=>cases r2; exact⟨_,rfl,r1⟩
theorem lI {x y:V}{us:List Value} (r:aG [x,y] us):∃ u w',us = [u,w']/\aO x u/\aO y w':=by
 cases r with
 | cons r1 r2=>
  cases r2 with
  | cons r3 r4=>cases r4; exact⟨_,_,rfl,r1,r3⟩
theorem J5 (hc:X.calm=true):bS X (.builtin "max") (fun xs H Q=>∃ i j,xs = [.int i,.int j]/\Q (.int (if j > i then j else i)) H):=by
 intro pins s σ H xs us Q I r h
 obtain ⟨i,j,rfl,q⟩:=h
 obtain ⟨u,w',rfl,⟨t,rfl⟩,⟨t',rfl⟩⟩:=lI r
 refine max_two_ints (I.ok.hd hc) fun h' tk k=>⟨_,H,I.kept k,?_,q⟩
 by_cases hj:j > i
 ·rw [if_pos hj,if_pos hj]; exact⟨_,rfl⟩
 ·rw [if_neg hj,if_neg hj]; exact⟨_,rfl⟩
theorem J6 (hc:X.calm=true):bS X (.builtin "min") (fun xs H Q=>∃ i j,xs = [.int i,.int j]/\Q (.int (if j < i then j else i)) H):=by
 intro pins s σ H xs us Q I r h
 obtain ⟨i,j,rfl,q⟩:=h
 obtain ⟨u,w',rfl,⟨t,rfl⟩,⟨t',rfl⟩⟩:=lI r
 refine min_two_ints (I.ok.hd hc) fun h' tk k=>⟨_,H,I.kept k,?_,q⟩
 by_cases hj:j < i
 ·rw [if_pos hj,if_pos hj]; exact⟨_,rfl⟩
 ·rw [if_neg hj,if_neg hj]; exact⟨_,rfl⟩
end
structure oT (h:Heap) (x dx C:Addr) (mA:Str->Option Value):Prop where
 obj:h.get? x=some (PySem.W.instObj C dx)
 ns:h.Ns1 dx mA
 ne:dx ≠ x
theorem J7 {h:Heap}{dx:Addr}{mA:Str->Option Value} (n:h.Ns1 dx mA):∃ od,h.get? dx=some od/\∀ name,PySem.W.lookIn name od=some (mA name):=by
 obtain ⟨o,es,ep,ho,hd,hk,_,hm⟩:=n
 refine⟨o,ho,fun name=>?_⟩
 have e:=hm name
 unfold nsFind findBy at e
 rw [<- Array.find?_toList] at e
 unfold PySem.W.lookIn
 rw [hd]
 dsimp only
 split
 ·rename_i y q
  rw [q] at e
  exact congrArg some e
 ·rename_i q
  rw [q] at e
  have a:es.toList.any (·.refKey)=false:=by
   rw [List.any_eq_false]
   intro y hy
   obtain ⟨z,t,hkey⟩:=hk y (Array.mem_toList_iff.mp hy)
   simp [DictEntry.refKey,hkey]
  have a' : ¬ es.toList.any (·.refKey)=true:=by rw [a]; exact aw0
  rw [if_neg a']
  exact congrArg some e
theorem oT.look {h:Heap}{x dx C:Addr}{mA:Str->Option Value} (I:oT h x dx C mA):∃ od,PySem.W.InstAt h x (PySem.W.instObj C dx) C (some od)/\∀ name,PySem.W.lookIn name od=some (mA name):=
 let ⟨od,ho,hl⟩:=J7 I.ns
 ⟨od,⟨I.obj,rfl,rfl,ho⟩,hl⟩
section
variable {P : Program} {w : World} {H H' : Hp} {h h' : Heap} {a C dx : Addr} {fs fs' : List (Str × V)}
theorem J8 (hok:bD P w H h) (e:H a=some (.ins C dx fs)):∃ mA,oT h a dx C mA/\(∀ f,iO (fs.lookup f) (mA f))/\PySem.Within mA (fs.map (·.1))/\fs.length<=1000/\H dx=some (.own a):=by
 obtain ⟨d,z,ne,ob,mA,n,r,q⟩:=(show b6 P w H h a (.ins C dx fs) from hok a _ e)
 exact⟨mA,⟨ob,n,ne⟩,r,q,z,d⟩
end
structure oU (K:PySem.W.Frag) (C:Addr):Prop where
 pg:PySem.W.plainGet K C Str.empty=true
 hd:PySem.W.hasDictIn K C=true
 po:PySem.W.plainOver K C=true
 sa:PySem.W.findIn K (.ref C) "__setattr__" = some (some (.builtin "object.__setattr__"))
theorem oU.get {K:PySem.W.Frag}{C:Addr} (c:oU K C) (f:Str):PySem.W.plainGet K C f=true:=c.pg
section
variable {X : Cx} {pins : List (Addr × Obj)} {σ : St} {H : Hp} {s : Shared} {A : Around} {E : Value → Shared → Prop} {Q : Value → Shared → Prop} {c : Value} {b : Bool}
inductive dL (K:PySem.W.Frag) (H:Hp):V->Value->Prop where
 | non:dL K H .non (.type "NoneType")
 | bl (x:Bool):dL K H (.bl x) (.type "bool")
 | int (i:Int):dL K H (.int i) (.type "int")
 | str (x:Str):dL K H (.str x) (.type "str")
 | flt (x:UInt64):dL K H (.flt x) (.type "float")
 | lst {a:Addr}{xs:List V} (e:H a=some (.lst xs)):dL K H (.ref a) (.type "list")
 | frz {a:Addr}{o:Obj}{xs:List V} (e:H a=some (.frz o (.lst xs))):dL K H (.ref a) (.type "list")
 | tup {a:Addr}{xs:List V} (e:H a=some (.tup xs)):dL K H (.ref a) (.type "tuple")
 | dK {a:Addr}{kvs:List (aH × V)} (e:H a=some (.dK kvs)):dL K H (.ref a) (.type "dict")
 | dT {a:Addr}{kvs:List (List aH × V)} (e:H a=some (.dT kvs)):dL K H (.ref a) (.type "dict")
 | ins {a C dx:Addr}{fs:List (Str × V)} (e:H a=some (.ins C dx fs)) (cl:oU K C) (ha:PySem.W.findIn K (.ref C) "__class__" = some (some (.builtin "object.__class__")))
   (hn:PySem.W.specialIn K (.builtin "object.__class__") "__get__" = some (some (.builtin "getset_descriptor.__get__"))) (htk:PySem.W.takesIn K (.builtin "object.__class__")=some true)
   (hm:PySem.W.mroIn K C (.type "object")=some true):dL K H (.ref a) (.ref C)
theorem J9 {x:V}{u t:Value} (I:a5 X pins σ H s) (rx:aO x u) (ty:dL X.K H x t) (e:PySem.W.kitOne X.K t c=some b) (h:∀ tk,Q (.bool b) { s with toks:=tk }) :
  wpAny (model X.prog X.w) A (call (.builtin "isinstance") [u,c]) Q E s:=by
 cases ty with
 | non=>cases (show u=Value.none from rx); exact aA7 PySem.W.kitx_none I.kIn True.intro e (fun z=>nomatch z) h
 | bl y=>cases (show u=Value.bool y from rx); exact aA7 PySem.W.kitx_bool I.kIn True.intro e (fun z=>nomatch z) h
 | int i=>obtain ⟨t,q⟩:=(show ∃ t,u=Value.int i t from rx); cases q; exact aA7 PySem.W.kitx_int I.kIn True.intro e (fun z=>nomatch z) h
 | str y=>obtain ⟨t,q⟩:=(show ∃ t,u=Value.str y t from rx); cases q; exact aA7 PySem.W.kitx_str I.kIn True.intro e (fun z=>nomatch z) h
 | flt y=>obtain ⟨t,q⟩:=(show ∃ t,u=Value.float y t from rx); cases q; exact aA7 PySem.W.kitx_float I.kIn True.intro e (fun z=>nomatch z) h
 | @lst a xs ea=>
  cases (show u=Value.ref a from rx)
  obtain ⟨_,_,n,_,h1⟩:=(show b6 X.prog X.w H s.heap a (.lst xs) from I.hok a _ ea)
  exact aA7 PySem.W.kitx_list I.kIn ⟨_,h1,rfl⟩ e (fun z=>nomatch z) h
 | @frz a ob xs ea=>
  cases (show u=Value.ref a from rx)
  obtain ⟨_,_,_,n,_,h1⟩:=(show b6 X.prog X.w H s.heap a (.frz ob (.lst xs)) from I.hok a _ ea)
  exact aA7 PySem.W.kitx_list I.kIn ⟨_,h1,rfl⟩ e (fun z=>nomatch z) h
 | @tup a xs ea=>
  cases (show u=Value.ref a from rx)
  obtain ⟨_,_,_,p⟩:=(show b6 X.prog X.w H s.heap a (.tup xs) from I.hok a _ ea)
  obtain ⟨o,h1,h2,_⟩:=p
  exact aA7 PySem.W.kitx_tuple I.kIn ⟨o,h1,h2⟩ e (fun z=>nomatch z) h
 | @dK a kvs ea=>
  cases (show u=Value.ref a from rx)
  obtain ⟨_,_,vs,_,p⟩:=(show b6 X.prog X.w H s.heap a (.dK kvs) from I.hok a _ ea)
  obtain ⟨o,es,ep,h1,h2,_⟩:=p
  exact aA7 PySem.W.kitx_dict I.kIn ⟨o,h1,h2.1⟩ e (fun z=>nomatch z) h
 | @dT a kvs ea=>
  cases (show u=Value.ref a from rx)
  obtain ⟨_,_,xs,_,o,es,ep,h1,h2,_⟩:=(show b6 X.prog X.w H s.heap a (.dT kvs) from I.hok a _ ea)
  exact aA7 PySem.W.kitx_dict I.kIn ⟨o,h1,h2.1⟩ e (fun z=>nomatch z) h
 | @ins a C dx fs ea cl ha hn htk hm=>
  cases (show u=Value.ref a from rx)
  obtain ⟨mA,O,_⟩:=J8 I.hok ea
  obtain ⟨od,J,_⟩:=O.look
  exact aA7 (PySem.W.kitx_own (cl.get _) cl.hd ha hn htk hm) I.kIn J e (fun z=>nomatch z) h
end
structure bT (k:Nat) (A:Around):Prop where
 hd:A.handled=none
 dp:A.depth+3 * k+5 < recursionLimit
 un:A.units+16 * k+200 < cLine
theorem bT.mono {j k:Nat}{A:Around} (r:bT k A) (h:j<=k):bT j A:=⟨r.hd,by have:=r.dp; omega,by have:=r.un; omega⟩
theorem bT.deeper {k:Nat}{A:Around} (r:bT (k+1) A) (env:Env):bT k (A.deeper env):=
 ⟨r.hd,by have:=r.dp; show A.depth+1+3 * k+5 < _; omega,by have:=r.un; show A.units+3+16 * k+200 < _; omega⟩
theorem bT.depth {k:Nat}{A:Around} (r:bT k A):A.depth < recursionLimit:=by have:=r.dp; omega
theorem bT.units {k:Nat}{A:Around} (r:bT k A):A.units+64 < cLine:=by have:=r.un; omega
def gF:TA:=fun _ H Q=>Q [] H
def fC (ta:TE) (tr:TA):TA:=fun σ H Q=>ta σ H fun x H1=>tr σ H1 fun xs H2=>Q (x :: xs) H2
section
variable {X : Cx} {e : Expr} {es : List Expr} {te : TE} {t : TA} {pos : Pos}
theorem cU:PA X [] gF:=fun _ _ _ _ H Q I h=>Calls.spliced_nil ⟨[],H,I,.nil,h⟩
theorem bW (ha:PE X e te) (hr:PA X es t) (hs:starEach (e :: es) X.env=(false,eval e X.env) :: starEach es X.env:=by rfl):PA X (e :: es) (fC te t):=by
 intro pos pins s σ H Q I h
 rw [hs]
 show wpAny _ _ (spliced ((false,eval e X.env) :: backTo pos (starEach es X.env))) _ _ s
 refine Calls.spliced_cons (aJ (ha pins s σ H _ I h) fun u s1 ⟨x,H1,I1,r1,q1⟩=>?_)
 exact aJ (hr pos pins s1 σ H1 _ I1 q1) fun us s2 ⟨xs,H2,I2,r2,q2⟩=>⟨x :: xs,H2,I2,.cons r1 r2,q2⟩
def tO (t:TA):TE:=fun σ H Q=>t σ H fun xs H1=>xs.length<=sizeLine/\∀ p,H1 p=none->Q (.ref p) (upd H1 p (.tup xs))
def oV (t:TA):TE:=fun σ H Q=>t σ H fun xs H1=>xs.length<=sizeLine/\∀ p,H1 p=none->Q (.ref p) (upd H1 p (.lst xs))
theorem oW {x1} (h:PA X es t):PE X (.Tuple es x1 pos) (tO t):=by
 intro pins s σ H Q I hq
 refine wpAny_Tuple_spliced (aJ (h pos pins s σ H _ I hq) fun us s1 ⟨xs,H1,I1,r,z,q⟩=>⟨by rw [<- r.length]; exact z,?_⟩)
 have hf:H1 s1.heap.objs.size=none:=I1.hok.fresh (au7 _)
 refine⟨.ref s1.heap.objs.size,upd H1 s1.heap.objs.size (.tup xs),I1.laid (t':=s1.toks) (fun b u e=>au6 _ e) (au7 _) ?_,rfl,q _ hf⟩
 exact⟨z,us,r,⟨_,aw8 _ rfl,rfl,_,rfl⟩⟩
theorem oX (h:PA X es t):PE X (.List es pos) (oV t):=by
 intro pins s σ H Q I hq
 refine wpAny_List_spliced (aJ (h pos pins s σ H _ I hq) fun us s1 ⟨xs,H1,I1,r,z,q⟩=>⟨by rw [<- r.length]; exact z,?_⟩)
 have hf:H1 s1.heap.objs.size=none:=I1.hok.fresh (au7 _)
 refine⟨.ref s1.heap.objs.size,upd H1 s1.heap.objs.size (.lst xs),I1.laid (t':=s1.toks) (fun b u e=>au6 _ e) (au7 _) ?_,rfl,q _ hf⟩
 exact⟨z,us,0,r,aw8 _ rfl⟩
end
abbrev Sp:=List V->Hp->VK->XK->Prop
abbrev eO:=List Env->Hp->Shared->XK->Value->Shared->Prop
structure lJ (P:Program) (w:World) (K:PySem.W.Frag) (mg:Str->Option Value) (base:Heap) (A:Around) (outer:List Env) (s:Shared) (H:Hp):Prop where
 frames:A.frames=some outer
 mod:Mod K mg base
 bs:∀ b o,base.get? b=some o->s.heap.get? b=some o/\H b=none
 bsz:base.objs.size<=s.heap.objs.size
 funs:s.heap.FunFrames base outer
 frf:∀ b ∈ eN outer,H b=none
 hok:bD P w H s.heap
 bare:AllBare s.gens
def CE (outer:List Env) (P:Program) (w:World) (H:Hp) (s:Shared) (Q:VK) (u:Value) (s':Shared):Prop:=
 ∃ v H',s'.os=s.os/\AllBare s'.gens/\Un (eN outer) [] H H' s.heap s'.heap/\bD P w H' s'.heap/\aO v u/\Q v H'
def CR (CX:eO) (outer:List Env) (P:Program) (w:World) (H:Hp) (s:Shared) (Q:VK) (E:XK) (r:Result) (s':Shared):Prop:=
 match r with
 | .ok (.ret u)=>CE outer P w H s Q u s'
 | .ok _=>False
 | .error e=>CX outer H s E e s'
structure cG (P:Program) (w:World) (K:PySem.W.Frag) (mg:Str->Option Value) (base:Heap) (CX:eO) (k:Nat) (f:Addr) (fd:FuncData) (ps:List Str) (sp:Sp):Prop where
 len:∀ vs H Q E,sp vs H Q E->vs.length=ps.length
 run:∀ (A:Around) (outer:List Env) (s:Shared) (H:Hp) (args:Args) (us:List Value) (vs:List V) (Q:VK) (E:XK),bT k A->lJ P w K mg base A outer s H->BindsTo s fd args (ps.zip us)->aG vs us->sp vs H Q E->
  codeAny (model P w) A (.call (.ref f) args) (CR CX outer P w H s Q E) s
theorem cG.imp {P:Program}{w:World}{K:PySem.W.Frag}{mg:Str->Option Value}{base:Heap}{CX:eO}{k:Nat}{f:Addr}{fd:FuncData}{ps:List Str}{sp sp':Sp} (F:cG P w K mg base CX k f fd ps sp)
  (h:∀ vs H Q E,sp' vs H Q E->sp vs H Q E):cG P w K mg base CX k f fd ps sp':=
 ⟨fun vs H Q E q=>F.len vs H Q E (h _ _ _ _ q),fun A outer s H args us vs Q E hr he hb hv hs=>F.run A outer s H args us vs Q E hr he hb hv (h _ _ _ _ hs)⟩
section
variable {X : Cx} {pins : List (Addr × Obj)} {σ : St} {H : Hp} {s s' : Shared}
theorem a5.env0 (I:a5 X pins σ H s):lJ X.prog X.w X.K X.mg X.base X.A X.stack s H:=
 ⟨I.ok.frames,I.ok.mod,I.bs,ay6 I.ok.bsz I.sz,I.stack,I.stkFree,I.hok,I.bare⟩
theorem a5.after {Q:VK}{u:Value} (I:a5 X pins σ H s) (h:CE X.stack X.prog X.w H s Q u s'):EP X pins σ Q u s':=by
 obtain ⟨v,H',os,bare,un,hok,r,q⟩:=h
 obtain ⟨hh,g,d,t,os'⟩:=s'
 obtain rfl:os'=s.os:=os
 exact⟨v,H',I.call (h':=hh) (g':=g) (d':=d) (t':=t) (ch:=[]) un hok bare (fun b z=>absurd z (by simp)),r,q⟩
end
def tP (sp:Sp) (dvs:List V) (E:XK) (t:TA):TE:=fun σ H Q=>t σ H fun vs H1=>sp (vs ++ dvs) H1 Q E
def hV (K:PySem.W.Frag) (fd:FuncData) (ps:List Str) (ds:List Value):Prop:=
 ∀ (s:Shared) (us:List Value),K.In s.heap->(us ++ ds).length=ps.length->BindsTo s fd ⟨us,[]⟩ (ps.zip (us ++ ds))
theorem hV.all {K:PySem.W.Frag}{fd:FuncData}{ps:List Str} (h:∀ us:List Value,us.length=ps.length->bindArgs fd ⟨us,[]⟩=pure (ps.zip us)):hV K fd ps []:=fun s us _ hl=>by
 rw [aD2] at hl ⊢
 exact .of_eq (h us hl)
def oY (CX:eO) (X:Cx) (E:XK):Prop:=∀ (pins:List (Addr × Obj)) (σ:St) (H:Hp) (s:Shared) (e:Value) (s':Shared),a5 X pins σ H s->CX X.stack H s E e s'->X.xe e s'
section
variable {X : Cx} {CX : eO} {k : Nat} {f C : Addr} {fd : FuncData} {ps : List Str} {sp : Sp} {dvs : List V} {ds : List Value} {E : XK} {x m : Str} {p pos apos : Pos} {e o : Expr} {es : List Expr} {ta : TE} {t : TA}
theorem K0 {pins:List (Addr × Obj)}{σ:St}{H:Hp}{s:Shared}{Q:VK}{us:List Value}{vs:List V} (F:cG X.prog X.w X.K X.mg X.base CX k f fd ps sp) (hr:bT k X.A) (hb:hV X.K fd ps ds) (hd:aG dvs ds) (hx:oY CX X E)
  (I:a5 X pins σ H s) (r:aG vs us) (h:sp (vs ++ dvs) H Q E):wpAny (model X.prog X.w) X.A (call (.ref f) us) (EP X pins σ Q) X.xe s:=by
 have r2:aG (vs ++ dvs) (us ++ ds):=r.append hd
 have hl:(us ++ ds).length=ps.length:=by rw [<- r2.length]; exact F.len _ _ _ _ h
 refine wpAny_call (codeAny_mono (F.run X.A X.stack s H ⟨us,[]⟩ (us ++ ds) (vs ++ dvs) Q E hr I.env0 (hb s us I.kIn hl) r2 h) fun r s' hq=>?_)
 cases r with
 | error e=>exact hx pins σ H s e s' I hq
 | ok fl=>
  cases fl with
  | ret u=>exact I.after hq
  | next=>exact False.elim hq
  | brk=>exact False.elim hq
  | cont=>exact False.elim hq
theorem tQ (F:cG X.prog X.w X.K X.mg X.base CX k f fd ps sp) (hr:bT k X.A) (hg:Gl X x) (hm:X.mg x=some (.ref f)) (hk:PySem.W.keepIn X.K (.ref f)=true) (hb:hV X.K fd ps ds) (hd:aG dvs ds) (hx:oY CX X E)
  (ha:PA X (e :: es) t) (hdb:(x == ("__debug__" : Str))=false:=by decide) (he:starEach (e :: es) X.env=(false,eval e X.env) :: starEach es X.env:=by rfl) (hpl:(backTo pos (starEach es X.env)).any (·.1)=false:=by rfl) :
  PE X (.Call (.Name x p) (e :: es) [] pos) (tP sp dvs E t):=by
 intro pins s σ H Q I h
 refine wpAny_Call_Name_kw (sO I hg hm ?_ hdb)
 refine PySem.W.callWith_K (h₀:=X.base) I.ok.mod.kin hk (aJ (ha pos pins s σ H _ I h) fun us s1 ⟨vs,H1,I1,r,q⟩=>⟨I1.kIn,?_⟩) he hpl
 exact K0 F hr hb hd hx I1 r q
end
def PK (X:Cx) (kws:List Keyword) (t:TA):Prop:=
 ∀ (pos:Pos) (pins:List (Addr × Obj)) (s:Shared) (σ:St) (H:Hp) (Q:List V->Hp->Prop),a5 X pins σ H s->t σ H Q->wpAny (model X.prog X.w) X.A (evalAll ((backToKw pos (keywordEach kws X.env)).map (·.2))) (AP X pins σ Q) X.xe s
structure FnScope (N P:List Str) (sc:Scope):Prop where
 kind:sc.kind = .function
 co:sc.isCoroutine=false
 gen:sc.isGenerator=false
 nd:N.Nodup
 pre:N.take P.length=P
 par:∀ x ∈ P,sc.names.lookup x=some .local ∨ sc.names.lookup x=some .cell
 nofree:∀ y ∈ sc.names,y.2 ≠ .free
theorem tR {kindOf:Str->Option NameKind}{x:Str}:∀ {binds:List (Str × Value)}{m:Str->Option Value},(∀ v,(x,v) ∉ binds)->bindL kindOf binds m x=m x
 | [],_,_=>rfl
 | (n,v) :: r,m,h=>by
  unfold bindL
  rw [tR fun w hw=>h w (av1 _ hw)]
  split
  ·have:x ≠ n:=by rintro rfl; exact h v av5
   simp [this]
  ·rfl
theorem tS {kindOf:Str->Option NameKind}{x:Str}:∀ {binds:List (Str × Value)}{m:Str->Option Value},(∀ v,(x,v) ∉ binds)->bindC kindOf binds m x=m x
 | [],_,_=>rfl
 | (n,v) :: r,m,h=>by
  unfold bindC
  rw [tS fun w hw=>h w (av1 _ hw)]
  split
  ·rfl
  ·have:x ≠ n:=by rintro rfl; exact h v av5
   simp [this]
theorem tT {kindOf:Str->Option NameKind}{x:Str}{v:Value}:∀ {P:List Str}{vs:List Value}{i:Nat}{m:Str->Option Value},P.Nodup->P[i]? = some x->vs[i]? = some v->kindOf x=some .local->
  bindL kindOf (P.zip vs) m x=some v
 | [],_,_,_,_,h,_,_=>by simp at h
 | _ :: _,[],_,_,_,_,h,_=>by simp at h
 | p :: P,w :: vs,0,m,nd,h1,h2,hk=>by
  simp at h1 h2; subst h1; subst h2
  show bindL kindOf ((p,w) :: P.zip vs) m p=_
  unfold bindL
  rw [tR fun v hv=>(List.nodup_cons.mp nd).1 (List.of_mem_zip hv).1,if_pos hk]
  simp
 | p :: P,w :: vs,i+1,m,nd,h1,h2,hk=>by
  show bindL kindOf ((p,w) :: P.zip vs) m x=_
  unfold bindL
  exact tT (i:=i) (List.nodup_cons.mp nd).2 (by simpa using h1) (by simpa using h2) hk
theorem tU {kindOf:Str->Option NameKind}{x:Str}{v:Value}:∀ {P:List Str}{vs:List Value}{i:Nat}{m:Str->Option Value},P.Nodup->P[i]? = some x->vs[i]? = some v->kindOf x ≠ some .local->
  bindC kindOf (P.zip vs) m x=some v
 | [],_,_,_,_,h,_,_=>by simp at h
 | _ :: _,[],_,_,_,_,h,_=>by simp at h
 | p :: P,w :: vs,0,m,nd,h1,h2,hk=>by
  simp at h1 h2; subst h1; subst h2
  show bindC kindOf ((p,w) :: P.zip vs) m p=_
  unfold bindC
  rw [tS fun v hv=>(List.nodup_cons.mp nd).1 (List.of_mem_zip hv).1,if_neg hk]
  simp
 | p :: P,w :: vs,i+1,m,nd,h1,h2,hk=>by
  show bindC kindOf ((p,w) :: P.zip vs) m x=_
  unfold bindC
  exact tU (i:=i) (List.nodup_cons.mp nd).2 (by simpa using h1) (by simpa using h2) hk
def eQ (N:List Str) (vs:List V):St:=vs.map some ++ List.replicate (N.length - vs.length) none
def fQ (CX:eO) (P:Program) (w:World) (K:PySem.W.Frag) (mg:Str->Option Value) (base:Heap) (N:List Str) (qual:Str) (scope:Scope) (f:Addr) (cd:Value) (A:Around) (outer:List Env) (s:Shared) (H:Hp) (E:XK):Cx where
 prog:=P
 w:=w
 K:=K
 mg:=mg
 base:=base
 A:=A.deeper (envOfC qual scope s.heap.objs.size f cd)
 N:=N
 s₀:=s
 H₀:=H
 env:=envOfC qual scope s.heap.objs.size f cd
 outer:=outer
 stack:=envOfC qual scope s.heap.objs.size f cd :: outer
 ex:=[]
 calm:=true
 fn:=fun _=>true
 pn:=[]
 xe:=fun e s'=>wpAny (model P w) (A.deeper (envOfC qual scope s.heap.objs.size f cd)) (leaving (envOfC qual scope s.heap.objs.size f cd) e) (fun _ s''=>CX outer H s E e s'') (fun e' s''=>CX outer H s E e' s'') s'
theorem tV {sc:Scope}{n:Nat}{x:Str} (h:sc.names.lookup x=some .cell):∃ c,(cellsFrom n sc.names []).lookup x=some c:=by
 have q:=PySem.W.cellsFrom_some sc.names n [] (.inl h)
 exact Option.isSome_iff_exists.mp q
theorem K1 {CX:eO}{P:Program}{w:World}{K:PySem.W.Frag}{mg:Str->Option Value}{base:Heap}{N ps:List Str}{qual:Str}{scope:Scope}{f:Addr}{cd:Value}{A:Around}{outer:List Env}{s s1:Shared}{H:Hp}{E:XK}{us:List Value}{vs:List V}
  (S:FnScope N ps scope) (hd:A.handled=none) (e0:lJ P w K mg base A outer s H) (hl:vs.length=ps.length) (r:aG vs us)
  (x:InCallC s s.heap.objs.size (bindL (envOfC qual scope s.heap.objs.size f cd).kindOf (ps.zip us) fun _=>none) (cellsFrom (s.heap.objs.size+1) scope.names []) (bindC (envOfC qual scope s.heap.objs.size f cd).kindOf (ps.zip us) fun _=>none) s1) :
  a5 (fQ CX P w K mg base N qual scope f cd A outer s H E) [] (eQ N vs) H s1:=by
 have hpl:ps.length<=N.length:=by have:=congrArg List.length S.pre; rw [aF3] at this; omega
 obtain ⟨h1,tk,rfl,hk⟩:=x.done
 have noA:∀ b:Addr,b ∉ (fQ CX P w K mg base N qual scope f cd A outer s H E).ex:=fun b z=>absurd (show b ∈ ([]:List Addr) from z) (by simp)
 refine⟨⟨e0.mod,S.kind,rfl,rfl,au7 _,fun y z c h1 h2=>?_,fun y hy=>?_,fun y c _ h=>?_,fun _=>hd,Around.frames_deeper e0.frames,.inr ⟨rfl,rfl⟩,fun b z=>absurd z (noA b),e0.bs,e0.bsz,fun b _ _=>noA b,fun b z=>absurd z (noA b),e0.funs,e0.frf⟩,
  rfl,e0.bare,Un.kept hk,⟨_,x.toInCall.ns,fun i y v h1 h2 h3=>?_⟩,fun y c h=>⟨_,x.cell y c h⟩,e0.hok.fresh (au7 _),fun y c h=>?_,fun p hp=>absurd (show p ∈ ([]:List (Addr × Obj)) from hp) (by simp),e0.hok.kept hk,?_⟩
 ·exact name_of_addr x.apart (az4 h1) (az4 h2)
 ·have hy:scope.names.lookup y=some .cell ∨ scope.names.lookup y=some .free:=hy
  rcases hy with hy | hy
  ·exact tV hy
  ·exact absurd rfl (S.nofree _ (az4 hy))
 ·exact aB7 (x.above y c (az4 h))
 ·have hi:i < vs.length:=by
   unfold eQ at h2
   by_cases hi:i < vs.length
   ·exact hi
   ·rw [aA2 (by simpa using hi)] at h2
    rw [List.getElem?_replicate] at h2
    split at h2 <;> cases h2
  have ha:vs[i]? = some v:=by
   unfold eQ at h2
   rw [ay2 (by simpa using hi),aw3] at h2
   cases e:vs[i]? with
   | none=>rw [e] at h2; cases h2
   | some a=>rw [e] at h2; cases h2; rfl
  obtain ⟨u,hu,rv⟩:=r.get ha
  have hp:ps[i]? = some y:=by
   rw [<- S.pre,List.getElem?_take_of_lt (by omega)]; exact h1
  have ndP:ps.Nodup:=by rw [<- S.pre]; exact S.nd.sublist (List.take_sublist _ _)
  refine⟨u,rv,?_⟩
  rcases S.par y (ax0 hp) with k | k
  ·exact .inl ⟨k,tT ndP hp hu k⟩
  ·obtain ⟨c,e⟩:=tV (n:=s.heap.objs.size+1) k
   refine .inr ⟨.inl k,c,e,?_⟩
   have q:=x.cell y c e
   rw [tU ndP hp hu (by show scope.names.lookup y ≠ _; rw [k]; decide)] at q
   exact q
 ·exact e0.hok.fresh (aB7 (x.above y c (az4 h)))
 ·unfold eQ
  show _=N.length
  rw [aw4,au8,List.length_replicate]
  omega
theorem K2 {CX:eO}{P:Program}{w:World}{K:PySem.W.Frag}{mg:Str->Option Value}{base:Heap}{k:Nat}{f:Addr}{name qual:Str}{params:Arguments}{body:List Stmt}{scope:Scope}{dV kV doc pm cdv ct oc:Value}{an od:Option Addr}
  {osl:Array (Option Value)}{N ps:List Str}{sp:Sp} (lk:K.lookup f=some ⟨oc,od,.func (PySem.W.fnOf name qual params body scope dV kV doc pm an cdv ct),osl⟩) (hcd:PySem.W.codeIn K cdv qual=true) (S:FnScope N ps scope)
  (len:∀ vs H Q E,sp vs H Q E->vs.length=ps.length)
  (hbody:∀ (A:Around) (outer:List Env) (s:Shared) (H:Hp) (vs:List V) (Q:VK) (E:XK),bT k (A.deeper (envOfC qual scope s.heap.objs.size f cdv))->sp vs H Q E->
   ∃ t,cT (fQ CX P w K mg base N qual scope f cdv A outer s H E) body t/\t { nx:=fun _ H'=>Q .non H',rt:=Q } (eQ N vs) H) :
  cG P w K mg base CX (k+1) f (PySem.W.fnOf name qual params body scope dV kV doc pm an cdv ct) ps sp:=by
 refine⟨len,fun A outer s H args us vs Q E hr e0 hb r hsp=>?_⟩
 have hl:=len _ _ _ _ hsp
 have KX:K.In s.heap:=e0.mod.kin.keeps fun b o e=>(e0.bs b o e).1
 have lim:s.heap.NoLimit:=e0.mod.nolimit.keeps fun b o e=>(e0.bs b o e).1
 have hkind:∀ y ∈ ps.zip us,scope.names.lookup y.1=some .local ∨ (scope.names.lookup y.1=some .cell/\((cellsFrom (s.heap.objs.size+1) scope.names []).lookup y.1).isSome=true):=fun ⟨n,v⟩ hy=>by
  rcases S.par n (List.of_mem_zip hy).1 with q | q
  ·exact .inl q
  ·exact .inr ⟨q,PySem.W.cellsFrom_some _ _ _ (.inl q)⟩
 refine codeAny_call_function hr.depth (KX _ _ lk) rfl S.co S.gen rfl (PySem.W.codeRec_of KX hcd) (hb _ _ _ _ ?_)
 refine wpAny_newFunctionEnv_cells S.kind hkind fun env he s1 x=>?_
 subst he
 refine⟨lim.keeps x.toInCall.keep,codeAny_func ?_⟩
 obtain ⟨t,ht,hq⟩:=hbody A outer s H vs Q E (hr.deeper _) hsp
 have I:a5 (fQ CX P w K mg base N qual scope f cdv A outer s H E) [] (eQ N vs) H s1:=K1 S hr.hd e0 hl r x
 refine aC6 (ht [] s1 (eQ N vs) H _ I hq) (fun fl s' hs=>?_) fun e s' hs=>hs
 have fin:∀ {σ':St}{H':Hp}{v:V}{u:Value},a5 (fQ CX P w K mg base N qual scope f cdv A outer s H E) [] σ' H' s'->aO v u->Q v H'->CE outer P w H s Q u s':=
  fun {σ' H' v u} J rv q=>⟨v,H',J.os,J.bare,J.base,J.hok,rv,q⟩
 cases fl with
 | ret u=>
  obtain ⟨v,σ',H',J,rv,q⟩:=hs
  exact fin J rv q
 | next=>
  obtain ⟨σ',H',J,q⟩:=hs
  exact fin (v:=V.non) (u:=Value.none) J rfl q
 | brk=>
  obtain ⟨_,_,_,q⟩:=hs
  exact False.elim q
 | cont=>
  obtain ⟨_,_,_,q⟩:=hs
  exact False.elim q
section
variable {X : Cx} {x : Str} {p pos : Pos} {e : Expr} {es : List Expr} {t : TA} {id T : String} {r : List V → Hp → VK → Prop}
def lK (r:List V->Hp->VK->Prop) (t:TA):TE:=fun σ H Q=>t σ H fun vs H1=>r vs H1 Q
theorem lM (hc:bS X (.builtin id) r) (hg:Gl X x) (hm:X.mg x=none) (hv:bootBuiltins x=some (.builtin id)) (ha:PA X (e :: es) t) (hn:x ≠ "__name__":=by decide) (hdb:(x == ("__debug__" : Str))=false:=by decide)
  (he:starEach (e :: es) X.env=(false,eval e X.env) :: starEach es X.env:=by rfl) (hpl:(backTo pos (starEach es X.env)).any (·.1)=false:=by rfl):PE X (.Call (.Name x p) (e :: es) [] pos) (lK r t):=by
 intro pins s σ H Q I h
 refine wpAny_Call_Name_kw (gC I hg hm hv ?_ hn hdb)
 exact PyProof.Rows.callWith_builtin1 (aJ (ha pos pins s σ H _ I h) fun us s1 ⟨vs,H1,I1,r1,q1⟩=>hc pins s1 σ H1 vs us Q I1 r1 q1) he hpl
theorem K3 (hc:bS X (.type T) r) (hg:Gl X x) (hm:X.mg x=none) (hv:bootBuiltins x=some (.type T)) (ha:PA X (e :: es) t) (hn:x ≠ "__name__":=by decide) (hdb:(x == ("__debug__" : Str))=false:=by decide)
  (he:starEach (e :: es) X.env=(false,eval e X.env) :: starEach es X.env:=by rfl) (hpl:(backTo pos (starEach es X.env)).any (·.1)=false:=by rfl):PE X (.Call (.Name x p) (e :: es) [] pos) (lK r t):=by
 intro pins s σ H Q I h
 refine wpAny_Call_Name_kw (gC I hg hm hv ?_ hn hdb)
 exact aA9 (aJ (ha pos pins s σ H _ I h) fun us s1 ⟨vs,H1,I1,r1,q1⟩=>hc pins s1 σ H1 vs us Q I1 r1 q1) he hpl
end
end L2
namespace HT
open PySem PyProof.Rows
def aY:List Int->List Int->Bool
 | [],[]=>false
 | [],_ :: _=>true
 | _ :: _,[]=>false
 | x :: xs,y :: ys=>if x=y then aY xs ys else decide (x < y)
theorem eR (x y:Int) (xs ys:List Int):aY (x :: xs) (y :: ys)=if x=y then aY xs ys else decide (x < y):=rfl
theorem K4 (A:Around) (s:Shared) (a:Int) (t:Tok) (c:Int) (u:Tok):∃ e,SeqAt.EqAt A s (.int a t) (.int c u) e/\(e=true ↔ a=c):=
 ⟨(a == c),SeqAt.EqAt.int_int a t c u,by simp⟩
theorem K5 (A:Around) (s:Shared) (a:Int) (t:Tok) (c:Int) (u:Tok) (prog:Program) (w:World) (E:Value->Shared->Prop) (Q:Value->Shared->Prop) (h:Q (.bool (decide (a < c))) s) :
  wpAny (model prog w) A (richCompare .Lt (.int a t) (.int c u)) Q E s:=
 (PyProof.Rows.lt_int h:wpAny (model prog w) A (compareOp .Lt (.int a t) (.int c u)) Q E s)
section
variable {prog : Program} {w : World} {A : Around} {E : Value → Shared → Prop} {s : Shared}
theorem K6 {t b:Addr}{vs ws:List Value}{Q:Value->Shared->Prop} (ht:IsTup s.heap t vs.toArray) (hb:IsTup s.heap b ws.toArray) (hv:vs ≠ [])
  (h1:ws = []->Q (.ref t) s) (h2:ws ≠ []->Q (.ref s.heap.objs.size) { s with heap:=s.heap.push { cls:=.type "tuple",data:=.seq (vs ++ ws).toArray } })
  (hsz:vs.length+ws.length<=sizeLine):wpAny (model prog w) A (binaryOp .Add (.ref t) (.ref b)) Q E s:=by
 obtain ⟨⟨cls,dd,data,sl⟩,ho,hc,n,hd⟩:=id ht
 obtain ⟨⟨cls2,dd2,data2,sl2⟩,ho2,hc2,n2,hd2⟩:=id hb
 simp only at hc hd hc2 hd2
 subst hc hd hc2 hd2
 have e:vs.toArray ++ ws.toArray=(vs ++ ws).toArray:=by simp
 by_cases hw:ws = []
 ·exact concat_meets ⟨_,ho,rfl⟩ ⟨_,ho2,rfl⟩ noFill_tuple_add seq_tuple_add PySem.F.slot_tuple_add PySem.F.entry_tuple_add (PySem.F.args_tuple_add_2 _ _)
   (tuple_addW1 t b vs.toArray ws.toArray n n2 dd dd2 sl sl2 (by simpa using hv) (by simp [hw])) ⟨ho,ho2,h1 hw⟩
 ·refine concat_meets ⟨_,ho,rfl⟩ ⟨_,ho2,rfl⟩ noFill_tuple_add seq_tuple_add PySem.F.slot_tuple_add PySem.F.entry_tuple_add (PySem.F.args_tuple_add_2 _ _)
   (tuple_addW2 t b vs.toArray ws.toArray n n2 dd dd2 sl sl2 (by simpa using hv) (by simpa using hw) (by rw [aw1,aw1]; exact hsz)) ⟨ho,ho2,?_⟩
  rw [e]
  exact h2 hw
def aL (n d:Nat):Option Int->Nat
 | none=>d
 | some v=>if v < 0 then (v+(n:Int)).toNat else min v.toNat n
theorem K7 (n d:Nat):aL n d none=d:=rfl
theorem K8 (n d k:Nat):aL n d (some (k:Int))=min k n:=by
 show (if (k:Int) < 0 then ((k:Int)+(n:Int)).toNat else min (k:Int).toNat n)=min k n
 rw [if_neg (by omega),aE9]
theorem K9 (n d:Nat) (hd:d<=n) (o:Option Int):aL n d o<=n:=by
 cases o with
 | none=>exact hd
 | some v=>
  show (if v < 0 then (v+(n:Int)).toNat else min v.toNat n)<=n
  by_cases hv:v < 0
  ·rw [if_pos hv]; omega
  ·rw [if_neg hv]; exact Nat.min_le_right _ _
theorem tW (v:Int) (n d:Nat):(if v < 0 then max (v+(n:Int)) 0 else min v (n:Int))=((aL n d (some v):Nat):Int):=by
 show (if v < 0 then max (v+(n:Int)) 0 else min v (n:Int))=(((if v < 0 then (v+(n:Int)).toNat else min v.toNat n):Nat):Int)
 by_cases hv:v < 0
 ·simp only [if_pos hv]; omega
 ·simp only [if_neg hv]; omega
theorem L0 (lo hi:Option Int) (n:Nat):Builtin.Slice.sliceAdjust lo hi 1 (n:Int)=(((aL n 0 lo:Nat):Int),((aL n n hi:Nat):Int)):=by
 have h1 : ¬ ((1:Int) < 0):=by omega
 unfold Builtin.Slice.sliceAdjust
 simp only [h1,aA3]
 refine Prod.ext ?_ ?_
 ·cases lo with
  | none=>rfl
  | some v=>exact tW v n 0
 ·cases hi with
  | none=>rfl
  | some v=>exact tW v n n
theorem L1 (i j:Nat):Builtin.Slice.slicePlaces (i:Int) (j:Int) 1=j - i:=by
 unfold Builtin.Slice.slicePlaces
 have h1:(1:Int) > 0:=by omega
 simp only [h1,if_true,Int.ediv_one]
 split <;> omega
theorem tX {v:Value}{o:Option Int}{Q:Option Int->Shared->Prop} (p:IsPart v o) (h:Q o s):wpAny (model prog w) A (Builtin.Slice.slicePartIndex v) Q E s:=by
 cases p with
 | none=>exact slicePart_none h
 | int i t=>exact slicePart_int h
theorem tY {sl:Addr}{vl vu:Value}{lo hi:Option Int}{n:Nat}{Q:Int × Int × Nat->Shared->Prop} (hs:s.heap.IsSliceOf sl vl vu .none) (pl:IsPart vl lo) (pu:IsPart vu hi)
  (h:Q (((aL n 0 lo:Nat):Int),1,aL n n hi - aL n 0 lo) s):wpAny (model prog w) A (Builtin.Slice.sliceApplied (.ref sl) (pure (n:Int))) Q E s:=by
 obtain ⟨os,hos,hcs,hds⟩:=id hs
 unfold Builtin.Slice.sliceApplied Builtin.Slice.sliceFields
 refine au5 (au5 (aC8 hos hds (x:=vl) rfl (au5 (aC8 hos hds (x:=vu) rfl (au5 (aC8 hos hds (x:=.none) rfl (au9 ?_)))))))
 refine au5 (slicePart_none ?_)
 show wpAny _ _ (if ((1:Int) == 0)=true then _ else _) _ _ s
 rw [if_neg (by decide)]
 refine au5 (tX pl (au5 (tX pu (au5 (au9 ?_)))))
 show wpAny _ _ (match Builtin.Slice.sliceAdjust lo hi 1 (n:Int) with | (lo,hi)=>pure (lo,(1:Int),Builtin.Slice.slicePlaces lo hi 1)) _ _ s
 rw [L0 lo hi n]
 show wpAny _ _ (pure (((aL n 0 lo:Nat):Int),(1:Int),Builtin.Slice.slicePlaces ((aL n 0 lo:Nat):Int) ((aL n n hi:Nat):Int) 1)) _ _ s
 rw [L1]
 exact au9 h
theorem L3 (xs:Array Value) (i k:Nat):((List.range k).filterMap fun (m:Nat)=>xs[((i:Int)+(m:Int) * 1).toNat]?).toArray=((xs.toList.drop i).take k).toArray:=by
 have e:(fun (m:Nat)=>xs[((i:Int)+(m:Int) * 1).toNat]?)=fun m=>xs[i+m]?:=by
  funext m
  have:((i:Int)+(m:Int) * 1).toNat=i+m:=by omega
  rw [this]
 rw [e]
 have:=pick_run xs i k
 rw [List.filterMap_map] at this
 have e2:((fun x=>xs[x]?) ∘ fun x=>i+x)=fun m=>xs[i+m]?:=rfl
 rw [e2] at this
 rw [this]
theorem L4 {t sl:Addr}{items:Array Value}{vl vu:Value}{lo hi:Option Int}{Q:Value->Shared->Prop} (ht:IsTup s.heap t items) (hs:s.heap.IsSliceOf sl vl vu .none) (pl:IsPart vl lo) (pu:IsPart vu hi)
  (hw : ¬ (aL items.size 0 lo=0/\aL items.size items.size hi=items.size))
  (h:Q (.ref s.heap.objs.size) { s with heap:=s.heap.push { cls:=.type "tuple",data:=.seq ((items.toList.drop (aL items.size 0 lo)).take (aL items.size items.size hi - aL items.size 0 lo)).toArray } })
  (hsz:items.size<=sizeLine):wpAny (model prog w) A (getItem (.ref t) (.ref sl)) Q E s:=by
 have htake:sizeOk (.seq ((items.toList.drop (aL items.size 0 lo)).take (aL items.size items.size hi - aL items.size 0 lo)).toArray):=by
  show ((items.toList.drop (aL items.size 0 lo)).take (aL items.size items.size hi - aL items.size 0 lo)).toArray.size<=sizeLine
  rw [aw1,aF3,List.length_drop,az6]
  omega
 have hj:aL items.size items.size hi<=items.size:=K9 _ _ (au7 _) hi
 obtain ⟨os,hos,hcs,hds⟩:=id hs
 have hTs:s.TypeIs (.ref sl) "slice":=⟨os,hos,hcs⟩
 unfold getItem
 try with_reducible refine aG8 ?_
 first | refine au5 (au9 ?_) | skip
 refine au5 (wpAny_sequenceKey ht.typeIs (by decide) ?_)
 refine au5 (aB2 (name:=Str.ofString "__getitem__") ht.typeIs aE0
  (aB9 aE0 ht.typeIs entry_tuple_getitem ?_ (args_tuple_getitem _ _)))
 show wpAny _ _ (Builtin.Tuple.tupleItemsOf (.ref t) >>= _) _ _ s
 refine au5 (tupleItemsOf_ ht ?_)
 refine au5 (wpAny_typeOf hTs ?_)
 rw [if_pos (by decide)]
 refine au5 (tY hs pl pu ?_)
 have hno : ¬ ((((aL items.size 0 lo:Nat):Int) == 0 && (1:Int) == 1 && (aL items.size items.size hi - aL items.size 0 lo) == items.size)=true):=by
  intro q
  rw [aE3,aE3] at q
  have q1:((aL items.size 0 lo:Nat):Int)=0:=eq_of_beq q.1.1
  have q2:aL items.size items.size hi - aL items.size 0 lo=items.size:=eq_of_beq q.2
  exact hw ⟨by omega,by omega⟩
 show wpAny _ _ (if (((aL items.size 0 lo:Nat):Int) == 0 && (1:Int) == 1 && (aL items.size items.size hi - aL items.size 0 lo) == items.size)=true then _ else _) _ _ s
 rw [if_neg hno,L3]
 first
  | exact au5 (m:=Builtin.Tuple.tupleExact _) (aB0 (au9 ⟨_,rfl,au9 h⟩) htake)
  | exact au5 (m:=Builtin.Tuple.tupleExact _) (aB0 (au5 (au9 (au9 ⟨_,rfl,au9 h⟩))) htake)
  | exact au5 (au5 (m:=Builtin.Tuple.tupleExact _) (aB0 (au9 (au9 ⟨_,rfl,au9 h⟩)) htake))
  | exact au5 (au5 (m:=Builtin.Tuple.tupleExact _) (aB0 (au9 ⟨_,rfl,au9 h⟩) htake))
end
end HT
namespace L2
open PySem PySem.Spec PyProof.Rows
abbrev TO:=St->Hp->(Option Int->Hp->Prop)->Prop
def PO (X:Cx) (e:Option Expr) (t:TO):Prop:=
 ∀ (pins:List (Addr × Obj)) (s:Shared) (σ:St) (H:Hp) (Q:Option Int->Hp->Prop),a5 X pins σ H s->t σ H Q->
  wpAny (model X.prog X.w) X.A (evalPart e X.env) (fun u s'=>∃ o H',a5 X pins σ H' s'/\IsPart u o/\Q o H') X.xe s
def L5:TO:=fun _ H Q=>Q none H
def L6 (t:TE):TO:=fun σ H Q=>t σ H fun x H1=>∃ i,x = .int i/\Q (some i) H1
theorem iQ {ns:List Int}:∀ {us:List Value},aG (ns.map V.int) us->IntsAre us ns:=by
 induction ns with
 | nil=>intro us r; rw [List.map_nil] at r; cases r; exact .nil
 | cons n ns ih=>
  intro us r
  rw [az0] at r
  cases r with
  | cons r1 r2=>
   obtain ⟨t,e⟩:=r1
   subst e
   exact .cons n t (ih r2)
section
variable {X : Cx} {e : Expr} {te : TE} {lo hi : Option Expr} {tl th : TO} {pos p2 : Pos}
theorem L7:PO X none L5:=by
 intro pins s σ H Q I h
 rw [evalPart_none]
 exact au9 ⟨none,H,I,.none,h⟩
theorem L8 (h:PE X e te):PO X (some e) (L6 te):=by
 intro pins s σ H Q I hw
 rw [evalPart_some]
 refine aJ (h pins s σ H _ I hw) fun u s1 ⟨x,H1,I1,r1,q1⟩=>?_
 obtain ⟨i,rfl,q⟩:=q1
 obtain ⟨t,rfl⟩:=r1
 exact⟨some i,H1,I1,.int i t,q⟩
def gG (X:Cx) (r:V->Option Int->Option Int->Hp->VK->Prop):Prop:=
 ∀ (pins:List (Addr × Obj)) (s:Shared) (σ:St) (H:Hp) (x:V) (v vl vu:Value) (lo hi:Option Int) (sl:Addr) (Q:VK),a5 X pins σ H s->aO x v->s.heap.IsSliceOf sl vl vu .none->IsPart vl lo->IsPart vu hi->r x lo hi H Q->
  ∃ T id,typeLookup (.type T) "__getitem__" = pure (some (.builtin id))/\s.TypeIs v T/\wpAny (model X.prog X.w) X.A (getItem v (.ref sl)) (EP X pins σ Q) X.xe s
theorem gG.or {r r':V->Option Int->Option Int->Hp->VK->Prop} (h:gG X r) (h':gG X r'):gG X (fun x lo hi H Q=>r x lo hi H Q ∨ r' x lo hi H Q):=by
 intro pins s σ H x v vl vu lo hi sl Q I rx hs pl pu q
 rcases q with q | q
 ·exact h pins s σ H x v vl vu lo hi sl Q I rx hs pl pu q
 ·exact h' pins s σ H x v vl vu lo hi sl Q I rx hs pl pu q
def L9 (r:V->Option Int->Option Int->Hp->VK->Prop) (te:TE) (tl th:TO):TE:=fun σ H Q=>te σ H fun x H1=>tl σ H1 fun l H2=>th σ H2 fun u H3=>r x l u H3 Q
theorem M0 {r:V->Option Int->Option Int->Hp->VK->Prop} (hr:gG X r) (he:PE X e te) (hl:PO X lo tl) (hu:PO X hi th):PE X (.Subscript e (.Slice lo hi none p2) pos) (L9 r te tl th):=by
 intro pins s σ H Q I h
 refine Subscript_ (aJ (he pins s σ H _ I h) fun v s1 ⟨x,H1,I1,r1,q1⟩=>?_)
 refine wpAny_Slice (aJ (hl pins s1 σ H1 _ I1 q1) fun vl s2 ⟨l,H2,I2,pl,q2⟩=>aJ (hu pins s2 σ H2 _ I2 q2) fun vu s3 ⟨u,H3,I3,pu,q3⟩=>?_)
 rw [evalPart_none]
 refine au9 ?_
 have I4:a5 X pins σ H3 { s3 with heap:=s3.heap.push { cls:=.type "slice",data:=.fields #[vl,vu,.none] } }:=I3.kept (t':=s3.toks) fun b ob q=>au6 _ q
 obtain ⟨T,id,hT,ht,hg⟩:=hr pins { s3 with heap:=s3.heap.push { cls:=.type "slice",data:=.fields #[vl,vu,.none] } } σ H3 x v vl vu l u s3.heap.objs.size Q I4 r1 (Heap.IsSliceOf.new ..) pl pu q3
 show wpAny (model X.prog X.w) X.A (subscriptTail e (.Slice lo hi none p2) v (.ref s3.heap.objs.size)) (EP X pins σ Q) X.xe { s3 with heap:=s3.heap.push { cls:=.type "slice",data:=.fields #[vl,vu,.none] } }
 exact tail_any (ops:=[.ref s3.heap.objs.size,v]) ht hT hg (by with_unfolding_all rfl)
def eS (xs:List V) (lo hi:Option Int):List V:=(xs.drop (HT.aL xs.length 0 lo)).take (HT.aL xs.length xs.length hi - HT.aL xs.length 0 lo)
theorem tZ (xs:List V) (lo hi:Option Int):(eS xs lo hi).length<=xs.length:=by
 unfold eS
 rw [aF3,List.length_drop]
 omega
def M1 (K:PySem.W.Frag):V->Option Int->Option Int->Hp->VK->Prop:=fun x lo hi H Q=>∃ a xs,x = .ref a/\aC K H a xs/\
 ¬ (HT.aL xs.length 0 lo=0/\HT.aL xs.length xs.length hi=xs.length)/\∀ p,H p=none->Q (.ref p) (upd H p (.tup (eS xs lo hi)))
theorem M2:gG X (M1 X.K):=by
 intro pins s σ H x v vl vu lo hi sl Q I rx hs pl pu h
 obtain ⟨a,xs,rfl,hx,hw,q⟩:=h
 cases rx
 obtain ⟨its,r,ht,hz⟩:=I.tuple hx
 have hlen:its.toArray.size=xs.length:=by rw [aw1]; exact r.length.symm
 refine⟨"tuple",_,PyProof.Rows.slot_tuple_getitem.lookup,ht.typeIs,?_⟩
 refine HT.L4 ht hs pl pu (by rw [hlen]; exact hw) ?_ (by rw [hlen]; exact hz)
 rw [hlen]
 refine⟨.ref s.heap.objs.size,_,I.laid (t':=s.toks) (o:=.tup (eS xs lo hi)) (fun b ob q=>au6 _ q) (au7 _) ?_,rfl,q _ (I.hok.fresh (au7 _))⟩
 exact⟨ay6 (tZ xs lo hi) hz,_,(r.drop (HT.aL xs.length 0 lo)).take (HT.aL xs.length xs.length hi - HT.aL xs.length 0 lo),IsTup.new _ _⟩
def M3 (K:PySem.W.Frag):R2:=fun x y H Q=>∃ a b xs ys,x = .ref a/\y = .ref b/\aC K H a xs/\aC K H b ys/\xs ≠ []/\xs.length+ys.length<=sizeLine/\
 (ys = []->Q (.ref a) H)/\(ys ≠ []->∀ p,H p=none->Q (.ref p) (upd H p (.tup (xs ++ ys))))
theorem aG.nil_iff {xs:List V}{us:List Value} (r:aG xs us):us = [] ↔ xs = []:=by
 cases r with
 | nil=>simp
 | cons _ _=>simp
theorem M4:bN X (binaryOp .Add) (M3 X.K):=by
 intro pins s σ H x y v u Q I rx ry h
 obtain ⟨a,b,xs,ys,rfl,rfl,ha,hb,hx,hz,q1,q2⟩:=h
 cases rx
 cases ry
 obtain ⟨its,r1,p1,_⟩:=I.tuple ha
 obtain ⟨its2,r2,p2,_⟩:=I.tuple hb
 refine HT.K6 p1 p2 (fun z=>hx (r1.nil_iff.mp z)) (fun z=>⟨.ref a,H,I,rfl,q1 (r2.nil_iff.mp z)⟩) (fun z=>?_) (by rw [<- r1.length,<- r2.length]; exact hz)
 refine⟨.ref s.heap.objs.size,_,I.laid (t':=s.toks) (o:=.tup (xs ++ ys)) (fun b ob q=>au6 _ q) (au7 _) ?_,rfl,q2 (fun w=>z (r2.nil_iff.mpr w)) _ (I.hok.fresh (au7 _))⟩
 exact⟨by rw [aw4]; exact hz,_,r1.append r2,IsTup.new _ _⟩
end
def hZ (n:Nat) (i:Int):Option Nat:=if 0<=i then (if i < n then some i.toNat else none) else if -(n:Int)<=i then some (i+n).toNat else none
def atI {α:Type} (xs:List α) (i:Int):Option α:=(hZ xs.length i).bind fun j=>xs[j]?
theorem M5 {n:Nat}{i:Int}{j:Nat} (h:hZ n i=some j):seqIndex? i n=some j/\j < n/\-(n:Int)<=i/\i < n:=by
 unfold hZ at h
 by_cases h0:0<=i
 ·rw [if_pos h0] at h
  by_cases h1:i < n
  ·rw [if_pos h1] at h
   have e:i.toNat=j:=ax4 h
   exact⟨by rw [seqIndex_of h0 h1,e],by omega,by omega,h1⟩
  ·rw [if_neg h1] at h; cases h
 ·rw [if_neg h0] at h
  by_cases h1 : -(n:Int)<=i
  ·rw [if_pos h1] at h
   have e:(i+n).toNat=j:=ax4 h
   exact⟨by rw [seqIndex_neg (by omega) h1,e],by omega,h1,by omega⟩
  ·rw [if_neg h1] at h; cases h
theorem oZ {α:Type}{xs:List α}{i:Int}{v:α} (h:atI xs i=some v):∃ j,seqIndex? i xs.length=some j/\xs[j]? = some v/\j < xs.length/\-(xs.length:Int)<=i/\i < xs.length:=by
 unfold atI at h
 cases e:hZ xs.length i with
 | none=>rw [e] at h; cases h
 | some j=>
  rw [e] at h
  obtain ⟨h1,h2,h3,h4⟩:=M5 e
  exact⟨j,h1,h,h2,h3,h4⟩
theorem jS {α:Type}{xs:List α}{j:Nat}{v:α} (h:xs[j]? = some v):atI xs (j:Int)=some v:=by
 have hj:j < xs.length:=(av4.mp h).1
 have e:hZ xs.length (j:Int)=some j:=by
  unfold hZ
  rw [if_pos (by omega),if_pos (by omega)]; simp
 unfold atI; rw [e]; exact h
def u0 (b:Expr):Prop:=∀ o i,subscripted b false o i=operate [o,i] (getItem o i)
def fR (X:Cx) (r:R2):Prop:=
 ∀ (value slice:Expr) (pins:List (Addr × Obj)) (s:Shared) (σ:St) (H:Hp) (x y:V) (v u:Value) (Q:VK),a5 X pins σ H s->aO x v->aO y u->r x y H Q->
  subscripted slice false v u=operate [v,u] (getItem v u)->wpAny (model X.prog X.w) X.A (subscriptTail value slice v u) (EP X pins σ Q) X.xe s
def M6 (X:Cx) (id:String) (r:V->List V->Hp->VK->Prop):Prop:=
 ∀ (pins:List (Addr × Obj)) (s:Shared) (σ:St) (H:Hp) (x:V) (xs:List V) (v:Value) (us:List Value) (Q:VK),a5 X pins σ H s->aO x v->aG xs us->r x xs H Q->
  wpAny (model X.prog X.w) X.A (call (.builtin id) (v :: us)) (EP X pins σ Q) X.xe s
section
variable {X : Cx} {a b : Expr} {ta tb : TE} {pos : Pos}
theorem fR.or {r r':R2} (h:fR X r) (h':fR X r'):fR X (fun x y H Q=>r x y H Q ∨ r' x y H Q):=by
 intro value slice pins s σ H x y v u Q I rx ry q hs
 rcases q with q | q
 ·exact h value slice pins s σ H x y v u Q I rx ry q hs
 ·exact h' value slice pins s σ H x y v u Q I rx ry q hs
theorem fD {r:R2} (hr:fR X r) (ha:PE X a ta) (hb:PE X b tb) (hs:u0 b):PE X (.Subscript a b pos) (jQ r ta tb):=by
 intro pins s σ H Q I h
 exact Subscript_ (oQ ha hb I h fun v u s2 x y H2 I2 rx ry q=>hr a b pins s2 σ H2 x y v u Q I2 rx ry q (hs _ _))
def u5 (K:PySem.W.Frag):R2:=fun x y H Q=>∃ p xs i v,x = .ref p/\y = .int i/\aI K H p xs/\atI xs i=some v/\Q v H
def u6 (K:PySem.W.Frag):R2:=fun x y H Q=>∃ p xs i v,x = .ref p/\y = .int i/\aC K H p xs/\atI xs i=some v/\Q v H
def u7:R2:=fun x y H Q=>∃ z i c,x = .str z/\y = .int i/\z.length<=sizeLine/\atI z.cps.toList i=some c/\Q (.str ⟨#[c]⟩) H
theorem p5:fR X (u5 X.K):=by
 intro value slice pins s σ H x y v u Q I rx ry h hs
 obtain ⟨p,xs,i,z,rfl,rfl,hq,he,q⟩:=h
 cases rx
 obtain ⟨t,rfl⟩:=ry
 obtain ⟨its,r,pl,hz⟩:=I.list hq
 obtain ⟨j,h1,h2,h3,h4,h5⟩:=oZ he
 obtain ⟨w,ew,rw'⟩:=r.get h2
 have hl:=r.length
 have hn:=lH
 have fin:EP X pins σ Q w s:=⟨z,H,I,rw',q⟩
 by_cases h0:0<=i
 ·have hj:i.toNat=j:=by
   rw [seqIndex_of h0 h5] at h1
   exact ax4 h1
  exact item_listR pl.isList h0 (by omega) (by rw [hj]; simpa using ew) fin hs
 ·have hj:(i+(its.toArray.size:Int)).toNat=j:=by
   rw [seqIndex_neg (by omega) h4] at h1
   rw [aw1,<- hl]
   exact ax4 h1
  exact subscriptTail_builtinR (x:=w) pl.isList.typeIs slot_list_getitem.lookup
   (wpAny_getItem_list_neg (Q:=fun r s'=>r=w/\EP X pins σ Q r s') pl.isList (by omega) (by rw [aw1] <;> omega) (by omega) (by rw [hj]; simpa using ew) ⟨rfl,fin⟩) hs
theorem gH:fR X (u6 X.K):=by
 intro value slice pins s σ H x y v u Q I rx ry h hs
 obtain ⟨p,xs,i,z,rfl,rfl,hq,he,q⟩:=h
 cases rx
 obtain ⟨t,rfl⟩:=ry
 obtain ⟨its,r,pl,hz⟩:=I.tuple hq
 obtain ⟨j,h1,h2,h3,h4,h5⟩:=oZ he
 obtain ⟨w,ew,rw'⟩:=r.get h2
 have hl:=r.length
 have hn:=lH
 have fin:EP X pins σ Q w s:=⟨z,H,I,rw',q⟩
 exact subscriptTail_builtinR (x:=w) pl.typeIs slot_tuple_getitem.lookup
  (getItem_tuple (j:=j) (Q:=fun r s'=>r=w/\EP X pins σ Q r s') pl (by omega) (by omega) (by rw [aw1,<- hl]; exact h1) (by simpa using ew) ⟨rfl,fin⟩) hs
theorem M7:fR X u7:=by
 intro value slice pins s σ H x y v u Q I rx ry h hs
 obtain ⟨z,i,c,rfl,rfl,hz,he,q⟩:=h
 obtain ⟨t,rfl⟩:=rx
 obtain ⟨t',rfl⟩:=ry
 obtain ⟨j,h1,h2,h3,h4,h5⟩:=oZ he
 have hl:z.cps.toList.length=z.length:=by simp [Str.length]
 rw [hl] at h1 h4 h5
 have hn:=lH
 exact tail_any (typeIs_str s z t) slot_str_getitem.lookup (getItem_str (c:=c) (by
  have e1:decide (i < -(2 ^ 63:Int))=false:=av7 (by omega)
  have e2:decide (i >= 2 ^ 63)=false:=av7 (by omega)
  rw [e1,e2,Bool.or_false]) (by rw [h1]; simpa using h2) ⟨.str ⟨#[c]⟩,H,I.tok _,⟨_,rfl⟩,q⟩) hs
def u8 (K:PySem.W.Frag):R2:=fun x y H Q=>u5 K x y H Q ∨ u6 K x y H Q ∨ u7 x y H Q
theorem M8:fR X (u8 X.K):=p5.or (gH.or M7)
theorem M9 (lo hi:Option Int) (n:Nat):(sliceBounds lo hi none n).1=((HT.aL n 0 lo:Nat):Int)/\(sliceBounds lo hi none n).2.1=((HT.aL n n hi:Nat):Int)/\(sliceBounds lo hi none n).2.2=1:=by
 refine⟨?_,?_,rfl⟩
 ·cases lo with
  | none=>simp [sliceBounds,HT.aL]
  | some i=>
   simp only [sliceBounds,HT.aL,Option.getD_none,show (1:Int) > 0 by decide,if_true]
   by_cases h:i < 0
   ·simp only [h,if_true] <;> omega
   ·simp only [h,aA3] <;> omega
 ·cases hi with
  | none=>simp [sliceBounds,HT.aL]
  | some i=>
   simp only [sliceBounds,HT.aL,Option.getD_none,show (1:Int) > 0 by decide,if_true]
   by_cases h:i < 0
   ·simp only [h,if_true] <;> omega
   ·simp only [h,aA3] <;> omega
theorem N0 (its:List Value) (lo hi:Option Int):slicePick its.toArray lo hi none=((its.drop (HT.aL its.length 0 lo)).take (HT.aL its.length its.length hi - HT.aL its.length 0 lo)).toArray:=by
 obtain ⟨h1,h2,h3⟩:=M9 lo hi its.toArray.size
 unfold slicePick
 rw [h1,h2,h3]
 simp only [sliceRange_one,pick_run,aw1] <;> rfl
def N1 (K:PySem.W.Frag):V->Option Int->Option Int->Hp->VK->Prop:=fun x lo hi H Q=>∃ a xs,x = .ref a/\aI K H a xs/\∀ p,H p=none->Q (.ref p) (upd H p (.lst (eS xs lo hi)))
theorem N3:gG X (N1 X.K):=by
 intro pins s σ H x v vl vu lo hi sl Q I rx hs pl pu h
 obtain ⟨a,xs,rfl,hx,q⟩:=h
 cases rx
 obtain ⟨its,r,ht,hz⟩:=I.list hx
 have hlen:=r.length
 refine⟨"list",_,slot_list_getitem.lookup,ht.isList.typeIs,?_⟩
 refine wpAny_getItem_list_slice ht.isList hs pl pu .none (by simp) ?_ (by rw [aw1] <;> omega)
 rw [N0,<- hlen]
 refine⟨.ref s.heap.objs.size,_,I.laid (t':=s.toks) (o:=.lst (eS xs lo hi)) (fun b ob q=>au6 _ q) (au7 _) ?_,rfl,q _ (I.hok.fresh (au7 _))⟩
 exact⟨ay6 (tZ xs lo hi) hz,_,0,(r.drop (HT.aL xs.length 0 lo)).take (HT.aL xs.length xs.length hi - HT.aL xs.length 0 lo),aw8 _ rfl⟩
def fS:V->Bool
 | .non=>true
 | .bl _=>true
 | .int _=>true
 | .str _=>true
 | _=>false
def eU:V->V->Bool
 | .non,.non=>true
 | .bl a,.bl b=>a == b
 | .bl a,.int b=>(if a then 1 else 0) == b
 | .int a,.bl b=>a == (if b then 1 else 0)
 | .int a,.int b=>a == b
 | .str a,.str b=>a == b
 | _,_=>false
theorem N4 {A:Around}{s:Shared}{y x:V}{u v:Value} (ry:aO y u) (rx:aO x v) (fy:fS y=true) (fx:fS x=true):SeqAt.EqAt A s u v (eU y x):=by
 cases y with
 | non=>
  cases ry
  cases x with
  | non=>cases rx; exact SeqAt.EqAt.same _
  | bl b=>cases rx; exact SeqAt.EqAt.none_bool b
  | int b=>obtain ⟨t,rfl⟩:=rx; exact SeqAt.EqAt.none_int b t
  | str b=>obtain ⟨t,rfl⟩:=rx; exact SeqAt.EqAt.none_str b t
  | _=>exact absurd (show false=true from fx) aw0
 | bl a=>
  cases ry
  cases x with
  | non=>cases rx; exact SeqAt.EqAt.bool_none a
  | bl b=>cases rx; exact SeqAt.EqAt.bool_bool a b
  | int b=>obtain ⟨t,rfl⟩:=rx; exact SeqAt.EqAt.bool_int a b t
  | str b=>obtain ⟨t,rfl⟩:=rx; exact SeqAt.EqAt.bool_str a b t
  | _=>exact absurd (show false=true from fx) aw0
 | int a=>
  obtain ⟨t',rfl⟩:=ry
  cases x with
  | non=>cases rx; exact SeqAt.EqAt.int_none a t'
  | bl b=>cases rx; exact SeqAt.EqAt.int_bool a t' b
  | int b=>obtain ⟨t,rfl⟩:=rx; exact SeqAt.EqAt.int_int a t' b t
  | str b=>obtain ⟨t,rfl⟩:=rx; exact SeqAt.EqAt.int_str a t' b t
  | _=>exact absurd (show false=true from fx) aw0
 | str a=>
  obtain ⟨t',rfl⟩:=ry
  cases x with
  | non=>cases rx; exact SeqAt.EqAt.str_none a t'
  | bl b=>cases rx; exact SeqAt.EqAt.str_bool a t' b
  | int b=>obtain ⟨t,rfl⟩:=rx; exact SeqAt.EqAt.str_int a t' b t
  | str b=>obtain ⟨t,rfl⟩:=rx; exact SeqAt.EqAt.str_str a t' b t
  | _=>exact absurd (show false=true from fx) aw0
 | _=>exact absurd (show false=true from fy) aw0
def fT (x:V) (u:Value):Bool:=match u with
 | .none=>eU .non x
 | .bool b=>eU (.bl b) x
 | .int i _=>eU (.int i) x
 | .str z _=>eU (.str z) x
 | _=>false
theorem u9 {x y:V}{u:Value} (r:aO y u) (f:fS y=true):fT x u=eU y x:=by
 cases y with
 | non=>cases r; rfl
 | bl b=>cases r; rfl
 | int i=>obtain ⟨t,rfl⟩:=r; rfl
 | str z=>obtain ⟨t,rfl⟩:=r; rfl
 | _=>exact absurd (show false=true from f) aw0
theorem p6 {x:V}:∀ {xs:List V}{us:List Value},aG xs us->xs.all fS=true->us.any (fT x)=xs.any fun y=>eU y x
 | _,_,.nil,_=>rfl
 | y :: xs,u :: us,.cons r t,f=>by
  rw [List.all_cons,aE3] at f
  rw [aG9,aG9,u9 r f.1,p6 t f.2]
theorem p7 {A:Around}{s:Shared}{x:V}{v:Value} (rx:aO x v) (fx:fS x=true):∀ {xs:List V}{us:List Value},aG xs us->xs.all fS=true->∀ u ∈ us,SeqAt.EqAt A s u v (fT x u)
 | _,_,.nil,_=>fun u hu=>by cases hu
 | y :: xs,u :: us,.cons r t,f=>fun u' hu=>by
  rw [List.all_cons,aE3] at f
  rcases av8.mp hu with rfl | hu
  ·rw [u9 r f.1]; exact N4 r rx f.1 fx
  ·exact p7 rx fx t f.2 u' hu
def jT (x:V) (xs:List V):Bool:=xs.any fun y=>eU y x
def uA (K:PySem.W.Frag) (neg:Bool):R2:=fun x y H Q=>∃ p xs,y = .ref p/\(aI K H p xs ∨ aC K H p xs)/\fS x=true/\xs.all fS=true/\Q (.bl (if neg then !jT x xs else jT x xs)) H
theorem N5:bN X (compareOp .In) (uA X.K false):=by
 intro pins s σ H x y v u Q I rx ry h
 obtain ⟨p,xs,rfl,hq,fx,fs,q⟩:=h
 cases ry
 rcases hq with hq | hq
 ·obtain ⟨its,r,pl,hz⟩:=I.list hq
  refine SeqAt.in_listAt (fT x) pl.isList (fun w hw=>p7 rx fx r fs w (by simpa using hw)) ⟨.bl _,H,I,rfl,?_⟩
  rw [show its.toArray.any (fT x)=its.any (fT x) by simp,p6 r fs]
  exact q
 ·obtain ⟨its,r,pl,hz⟩:=I.tuple hq
  refine SeqAt.in_tupleAt (fT x) pl (fun w hw=>p7 rx fx r fs w (by simpa using hw)) ⟨.bl _,H,I,rfl,?_⟩
  rw [show its.toArray.any (fT x)=its.any (fT x) by simp,p6 r fs]
  exact q
theorem uB:bS X (.builtin "len") (fun xs H Q=>∃ p ys,xs = [.ref p]/\(aI X.K H p ys ∨ aC X.K H p ys)/\Q (.int ys.length) H):=by
 intro pins s σ H xs us Q I r h
 obtain ⟨p,ys,rfl,hq,q⟩:=h
 obtain ⟨u,rfl,rx⟩:=eB r
 cases rx
 have hn:=lH
 rcases hq with hq | hq
 ·obtain ⟨its,r',pl,hz⟩:=I.list hq
  have hlen:=r'.length
  exact Calls.call_len_list pl.isList (by simp only [aw1] <;> omega) ⟨.int ys.length,H,I.tok _,⟨s.toks+1,by rw [aw1,hlen]⟩,q⟩
 ·obtain ⟨its,r',pl,hz⟩:=I.tuple hq
  have hlen:=r'.length
  exact len_tuple pl (by simp only [aw1] <;> omega) ⟨.int ys.length,H,I.tok _,⟨s.toks+1,by rw [aw1,hlen]⟩,q⟩
theorem bS.or {f:Value}{r r':List V->Hp->VK->Prop} (h:bS X f r) (h':bS X f r'):bS X f (fun xs H Q=>r xs H Q ∨ r' xs H Q):=by
 intro pins s σ H xs us Q I rs q
 rcases q with q | q
 ·exact h pins s σ H xs us Q I rs q
 ·exact h' pins s σ H xs us Q I rs q
theorem N6:bS X (.type "list") (fun xs H Q=>∃ p ys,xs = [.ref p]/\(aI X.K H p ys ∨ aC X.K H p ys)/\∀ l,H l=none->Q (.ref l) (upd H l (.lst ys))):=by
 intro pins s σ H xs us Q I r h
 obtain ⟨p,ys,rfl,hq,q⟩:=h
 obtain ⟨u,rfl,rx⟩:=eB r
 cases rx
 have fin:∀ (its:List Value),aG ys its->ys.length<=sizeLine->∀ (h':Heap) (c':Nat),(∀ b o',s.heap.get? b=some o'->h'.get? b=some o')->
   h'.get? s.heap.objs.size=some { cls:=.type "list",dict:=none,data:=.seq its.toArray c',slots:=#[] }->EP X pins σ Q (.ref s.heap.objs.size) { s with heap:=h' }:=fun its r' hz h' c' kp e=>
  ⟨.ref s.heap.objs.size,_,I.laid (t':=s.toks) kp (au7 _) (show b6 X.prog X.w _ h' _ (.lst ys) from ⟨hz,its,c',r',e⟩),rfl,q _ (I.hok.fresh (au7 _))⟩
 rcases hq with hq | hq
 ·obtain ⟨its,r',pl,hz⟩:=I.list hq
  have hlen:=r'.length
  obtain ⟨o,ho,hc,n,hd⟩:=pl.isList
  exact call_list_seq p (.inl rfl) ho hc hd (fun h' c' kp e=>fin its r' hz h' c' kp e) (by simp only [aw1] <;> omega)
 ·obtain ⟨its,r',pl,hz⟩:=I.tuple hq
  have hlen:=r'.length
  obtain ⟨o,ho,hc,n,hd⟩:=pl
  exact call_list_seq p (.inr rfl) ho hc hd (fun h' c' kp e=>fin its r' hz h' c' kp e) (by simp only [aw1] <;> omega)
theorem N7:bS X (.type "tuple") (fun xs H Q=>∃ p ys,xs = [.ref p]/\((aI X.K H p ys/\∀ l,H l=none->Q (.ref l) (upd H l (.tup ys))) ∨ (aC X.K H p ys/\Q (.ref p) H))):=by
 intro pins s σ H xs us Q I r h
 obtain ⟨p,ys,rfl,h⟩:=h
 obtain ⟨u,rfl,rx⟩:=eB r
 cases rx
 rcases h with ⟨hq,q⟩ | ⟨hq,q⟩
 ·obtain ⟨its,r',pl,hz⟩:=I.list hq
  have hlen:=r'.length
  refine call_tuple_list pl.isList (fun h' kp=>?_) (by simp only [aw1] <;> omega)
  have I1:a5 X pins σ H { s with heap:=h' }:=I.kept (t':=s.toks) kp
  have I2:a5 X pins σ (upd H h'.objs.size (.tup ys)) { s with heap:=h'.push { cls:=.type "tuple",data:=.seq its.toArray } }:=
   I1.laid (t':=s.toks) (fun b o e=>au6 _ e) (au7 _) (show b6 X.prog X.w _ _ _ (.tup ys) from ⟨hz,its,r',IsTup.new _ _⟩)
  exact⟨.ref h'.objs.size,_,I2,rfl,q _ (I1.hok.fresh (au7 _))⟩
 ·obtain ⟨its,r',pl,hz⟩:=I.tuple hq
  exact call_tuple_same pl ⟨.ref p,H,I,rfl,q⟩
def lN (K:PySem.W.Frag) (T:String) (x:V) (H:Hp):Prop:=match x with
 | .str _=>T="str"
 | .int _=>T="int"
 | .ref p=>(T="list"/\∃ xs,aI K H p xs) ∨ (T="tuple"/\∃ o,K.lookup p=some o/\o.cls = .type "tuple"/\o.dict=none) ∨
   (T="dict"/\((∃ kvs,H p=some (.dK kvs)) ∨ ∃ kvs,H p=some (.dT kvs))) ∨ (T="set"/\∃ S n,H p=some (.set S n))
 | _=>False
theorem N8 {pins:List (Addr × Obj)}{σ:St}{H:Hp}{s:Shared}{T:String}{x:V}{v:Value} (I:a5 X pins σ H s) (r:aO x v) (ty:lN X.K T x H) :
  s.TypeIs v T/\∀ a,v = .ref a->∃ ob,s.heap.get? a=some ob/\ob.dict=none:=by
 cases x with
 | str z=>
  obtain ⟨t,rfl⟩:=r
  cases (show T="str" from ty)
  exact⟨typeIs_str s z t,fun _ e=>nomatch e⟩
 | int i=>
  obtain ⟨t,rfl⟩:=r
  cases (show T="int" from ty)
  exact⟨typeIs_int s i t,fun _ e=>nomatch e⟩
 | ref p=>
  cases r
  rcases ty with ⟨rfl,xs,hq⟩ | ⟨rfl,o,hk,hc,hd⟩ | ⟨rfl,hk⟩ | ⟨rfl,S,n,hk⟩
  ·obtain ⟨its,_,pl,_⟩:=I.list hq
   refine⟨pl.isList.typeIs,fun a e=>?_⟩
   cases e
   obtain ⟨o,n,e,c,hd,_⟩:=pl
   exact⟨o,e,hd⟩
  ·refine⟨⟨o,I.kIn p o hk,hc⟩,fun a e=>?_⟩
   cases e
   exact⟨o,I.kIn _ o hk,hd⟩
  ·have z:∃ o,s.heap.get? p=some o/\o.ExactDict:=by
    rcases hk with ⟨kvs,hk⟩ | ⟨kvs,hk⟩
    ·obtain ⟨_,_,_,_,o,_,_,e,ex,_⟩:=I.hok p _ hk
     exact⟨o,e,ex⟩
    ·obtain ⟨_,_,_,_,o,_,_,e,ex,_⟩:=I.hok p _ hk
     exact⟨o,e,ex⟩
   obtain ⟨o,e,ex⟩:=z
   refine⟨⟨o,e,ex.1⟩,fun a e2=>?_⟩
   cases e2
   exact⟨o,e,ex.2.1⟩
  ·obtain ⟨o,_,_,_,e,ex,_⟩:=I.hok p _ hk
   refine⟨⟨o,e,ex.1⟩,fun a e2=>?_⟩
   cases e2
   exact⟨o,e,ex.2.1⟩
 | _=>exact False.elim ty
def lO (K:PySem.W.Frag) (T:String) (r:V->List V->Hp->VK->Prop) (to:TE) (t:TA):TE:=fun σ H Q=>to σ H fun x H1=>lN K T x H1/\t σ H1 fun xs H2=>r x xs H2 Q
variable {o e : Expr} {es : List Expr} {to : TE} {t : TA} {name : Str} {apos cpos : Pos} {T id : String} {r : V → List V → Hp → VK → Prop}
theorem jU (pa:PlainAttrs T) (slot:Slot T name id) (hty:typeOf (.builtin id)=pure (.type "method_descriptor")) (hm:M6 X id r) (ho:PE X o to) (ha:PA X (e :: es) t)
  (hbase:attributeBase o name X.env (eval o X.env)=eval o X.env:=by rfl)
  (hfew:((backTo cpos (starEach (e :: es) X.env)).all (fun x=>!x.1) && (backToKw cpos (keywordEach [] X.env)).all (fun x=>x.1.isSome)
   && decide ((e :: es).length+([]:List Keyword).length+(if ([]:List Keyword).isEmpty then 0 else 1) < 30))=true:=by rfl)
  (hline:(apos.endLine == cpos.line)=true:=by rfl) (hs:starEach (e :: es) X.env=(false,eval e X.env) :: starEach es X.env:=by rfl) (hplain:(backTo cpos (starEach es X.env)).any (·.1)=false:=by rfl) :
  PE X (.Call (.Attribute o name apos) (e :: es) [] cpos) (lO X.K T r to t):=by
 intro pins s σ H Q I h
 refine wpAny_Call_method_late hbase hfew hline rfl (aJ (ho pins s σ H _ I h) fun v s1 ⟨x,H1,I1,r1,ty,q1⟩=>?_)
 obtain ⟨h1,h2⟩:=N8 I1 r1 ty
 refine⟨T,id,pa,slot,hty,h1,h2,?_⟩
 have hA:=ha cpos pins s1 σ H1 _ I1 q1
 rw [hs] at hA ⊢
 refine Calls.callWith_builtin (by show (false || (backTo cpos (starEach es X.env)).any (·.1))=false; rw [hplain] <;> rfl) (Calls.evalArgs_plain ?_)
 exact aJ hA fun us s2 ⟨vs,H2,I2,r2,q2⟩=>hm pins s2 σ H2 x vs v us Q I2 r1 r2 q2
end
def p9 (X:Cx) (id:String) (r:V->List V->Hp->VK->Prop):Prop:=
 ∀ (pins:List (Addr × Obj)) (s:Shared) (σ:St) (H:Hp) (x:V) (xs:List V) (v:Value) (us:List Value) (Q:VK),a5 X pins σ H s->aO x v->aG xs us->r x xs H Q->
  wpAny (model X.prog X.w) X.A (call (.builtin id) (v :: us)) (EP X pins σ Q) X.xe s
theorem aG.one {x:V}{us:List Value} (h:aG [x] us):∃ u,us = [u]/\aO x u:=by
 cases h with
 | cons r t=>
  cases t
  exact⟨_,rfl,r⟩
theorem aG.dropLast {xs:List V}{us:List Value} (h:aG xs us):aG xs.dropLast us.dropLast:=by
 induction h with
 | nil=>exact .nil
 | cons r t ih=>
  cases t with
  | nil=>exact .nil
  | cons q t'=>exact .cons r ih
theorem aG.eraseIdx:∀ {xs:List V}{us:List Value} (i:Nat),aG xs us->aG (xs.eraseIdx i) (us.eraseIdx i)
 | _,_,_,.nil=>.nil
 | _,_,0,.cons _ t=>t
 | _,_,i+1,.cons r t=>.cons r (aG.eraseIdx i t)
section
variable {X : Cx} {pins : List (Addr × Obj)} {σ : St} {H : Hp} {s : Shared} {l b : Addr} {xs ys zs : List V}
theorem a5.lset {its its':List Value}{n:Nat}{f:Array Value->Array Value}{t':Nat} (I:a5 X pins σ H s) (hH:H l=some (.lst xs))
  (e:s.heap.get? l=some { cls:=.type "list",data:=.seq its.toArray n }) (hf:f its.toArray=its'.toArray) (hv:aG ys its') (hz:ys.length<=sizeLine) :
  a5 X pins σ (upd H l (.lst ys)) { s with heap:=s.heap.update l (Obj.mapSeq f),toks:=t' }:=by
 have q:=PySem.IsL.update e f
 rw [hf] at q
 refine I.write (x:=l) (e:=l) (by rw [hH]; exact trivial) (.inl rfl) (fun b' u hb hu=>(Heap.get?_update_other s.heap (Obj.mapSeq f) (Ne.symm hb)).trans hu) ⟨_,q⟩ ?_
 exact⟨hz,its',_,hv,q⟩
theorem a5.lnew {its:List Value}{t':Nat} (I:a5 X pins σ H s) (hv:aG ys its) (hz:ys.length<=sizeLine) :
  a5 X pins σ (upd H s.heap.objs.size (.lst ys)) { s with heap:=s.heap.push { cls:=.type "list",data:=.seq its.toArray },toks:=t' }:=
 I.laid (fun _ _ q=>au6 _ q) (au7 _) ⟨hz,its,0,hv,aw8 _ rfl⟩
theorem a5.fresh (I:a5 X pins σ H s):H s.heap.objs.size=none:=I.hok.fresh (au7 _)
theorem a5.lstM (I:a5 X pins σ H s) (hH:H l=some (.lst xs)):xs.length<=sizeLine/\∃ (its:List Value) (n:Nat),aG xs its/\xs.length=its.length/\s.heap.get? l=some { cls:=.type "list",data:=.seq its.toArray n }:=by
 obtain ⟨z,its,n,r,e⟩:=I.hok l _ hH
 exact⟨z,its,n,r,r.length,e⟩
theorem N9 {n:Nat} (h:n<=sizeLine):Builtin.List.listTooLong n=false:=by
 unfold Builtin.List.listTooLong
 exact av7 (by omega)
end
section
variable {X : Cx}
def pA:V->List V->Hp->VK->Prop:=fun x vs H Q=>∃ l xs y,x = .ref l/\vs = [y]/\H l=some (.lst xs)/\xs.length < sizeLine/\Q .non (upd H l (.lst (xs ++ [y])))
theorem jV:p9 X "list.append" pA:=by
 intro pins s σ H x vs v us Q I rx rv h
 obtain ⟨l,xs,y,rfl,rfl,hH,hz,q⟩:=h
 cases rx
 obtain ⟨u,rfl,ru⟩:=rv.one
 obtain ⟨z,its,n,r,hl,e⟩:=I.lstM hH
 refine call_meets F.slot_list_append ⟨_,e,rfl⟩ F.entry_list_append (F.args_list_append_2 _ _) (PySem.list_append l its.toArray n u (by rw [aw1]; omega)) ⟨e,?_⟩
 refine⟨.non,_,I.lset (its':=its ++ [u]) hH e (by simp) (r.append (.cons ru .nil)) ?_,rfl,q⟩
 rw [aw4,aC9]
 omega
def O0:V->List V->Hp->VK->Prop:=fun x vs H Q=>∃ l b xs zs,x = .ref l/\vs = [.ref b]/\H l=some (.lst xs)/\H b=some (.lst zs)/\xs.length+zs.length<=sizeLine/\Q .non (upd H l (.lst (xs ++ zs)))
theorem au1:p9 X "list.extend" O0:=by
 intro pins s σ H x vs v us Q I rx rv h
 obtain ⟨l,b,xs,zs,rfl,rfl,hH,hB,hz,q⟩:=h
 cases rx
 obtain ⟨u,rfl,ru⟩:=rv.one
 cases ru
 obtain ⟨z,its,n,r,hl,e⟩:=I.lstM hH
 obtain ⟨z2,its2,n2,r2,hl2,e2⟩:=I.lstM hB
 have hsz:its.toArray.size+its2.toArray.size<=sizeLine:=by rw [aw1,aw1]; omega
 have hlong : ¬ (!its.toArray.isEmpty && Builtin.List.listTooLong (its.toArray.size+its2.toArray.size))=true:=by
  rw [N9 hsz,Bool.and_false]
  exact aw0
 refine call_meets F.slot_list_extend ⟨_,e,rfl⟩ F.entry_list_extend (F.args_list_extend_2 _ _)
  (AutoSeq1.list_extend_list_list_0 l its.toArray n b its2.toArray n2 hlong (by rw [aw1]; omega) (by omega)) ⟨e,e2,?_⟩
 refine⟨.non,_,I.lset (its':=its ++ its2) hH e (by simp) (r.append r2) ?_,rfl,q⟩
 rw [aw4]
 omega
def pB:R2:=fun x y H Q=>∃ l b xs zs,x = .ref l/\y = .ref b/\H l=some (.lst xs)/\H b=some (.lst zs)/\xs.length+zs.length<=sizeLine/\∀ p,H p=none->Q (.ref p) (upd H p (.lst (xs ++ zs)))
theorem uC:bN X (binaryOp .Add) pB:=by
 intro pins s σ H x y v u Q I rx ry h
 obtain ⟨l,b,xs,zs,rfl,rfl,hH,hB,hz,q⟩:=h
 cases rx
 cases ry
 obtain ⟨z,its,n,r,hl,e⟩:=I.lstM hH
 obtain ⟨z2,its2,n2,r2,hl2,e2⟩:=I.lstM hB
 refine PySem.P.add_list e e2 ?_ (by rw [aw1,aw1]; omega)
 have ea:its.toArray ++ its2.toArray=(its ++ its2).toArray:=by simp
 rw [ea]
 exact⟨.ref _,_,I.lnew (t':=s.toks) (r.append r2) (by rw [aw4]; omega),rfl,q _ I.fresh⟩
end
section
variable {κ : Type} [DecidableEq κ]
def fE (kvs:List (κ × V)) (k:κ):Option V:=(kvs.find? fun kv=>decide (kv.1=k)).map (·.2)
def dM (kvs:List (κ × V)) (k:κ) (v:V):List (κ × V):=
 if (kvs.any fun kv=>decide (kv.1=k))=true then kvs.map (fun kv=>if kv.1=k then (kv.1,v) else kv) else kvs ++ [(k,v)]
theorem uD {p:κ × V}{r:List (κ × V)}{k:κ} (e:p.1=k):fE (p :: r) k=some p.2:=by simp [fE,List.find?_cons,e]
theorem uE {p:κ × V}{r:List (κ × V)}{k:κ} (e : ¬ p.1=k):fE (p :: r) k=fE r k:=by simp [fE,List.find?_cons,e]
theorem uF (k:κ):∀ kvs:List (κ × V),(kvs.any fun kv=>decide (kv.1=k))=(fE kvs k).isSome
 | []=>rfl
 | p :: r=>by
  rw [aG9]
  by_cases e:p.1=k
  ·simp only [uD e,aw5 e,Bool.true_or,Option.isSome_some]
  ·rw [uE e,av7 e,Bool.false_or]; exact uF k r
theorem uG (kvs:List (κ × V)) (k:κ) (v:V):(dM kvs k v).length<=kvs.length+1:=by
 unfold dM
 split
 ·rw [au8]; omega
 ·rw [aw4,aA8,List.length_nil]; omega
theorem iO.isSome_eq {o:Option V}{u:Option Value} (r:iO o u):o.isSome=u.isSome:=by
 cases o with
 | none=>cases u with
  | none=>rfl
  | some _=>exact (show False from r).elim
 | some _=>cases u with
  | none=>exact (show False from r).elim
  | some _=>rfl
theorem KV.any {kvs:List (κ × V)}{vs:List (κ × Value)} (r:KV kvs vs) (k:κ):(kvs.any fun kv=>decide (kv.1=k))=vs.any fun kv=>decide (kv.1=k):=by
 unfold KV at r
 induction r with
 | nil=>rfl
 | cons h t ih=>rw [aG9,aG9,ih,h.1]
theorem KV.repl {kvs:List (κ × V)}{vs:List (κ × Value)} (r:KV kvs vs) (k:κ) {y:V}{u:Value} (ry:aO y u) :
  KV (kvs.map fun kv=>if kv.1=k then (kv.1,y) else kv) (vs.map fun kv=>if kv.1=k then (kv.1,u) else kv):=by
 unfold KV at r ⊢
 induction r with
 | nil=>exact .nil
 | @cons p q ps qs h t ih=>
  rw [az0,az0]
  refine .cons ?_ ih
  obtain ⟨h1,h2⟩:=h
  by_cases e:p.1=k
  ·rw [if_pos e,if_pos (h1.symm.trans e)]; exact⟨h1,ry⟩
  ·rw [if_neg e,if_neg (fun z=>e (h1.trans z))]; exact⟨h1,h2⟩
theorem KV.put {kvs:List (κ × V)}{vs:List (κ × Value)} (r:KV kvs vs) (k:κ) {y:V}{u:Value} (ry:aO y u):KV (dM kvs k y) (stored vs k u):=by
 unfold dM stored
 rw [r.any k]
 by_cases e:(vs.any fun kv=>decide (kv.1=k))=true
 ·rw [if_pos e,if_pos e]; exact r.repl k ry
 ·rw [if_neg e,if_neg e]; exact Paired.snoc r ⟨rfl,ry⟩
theorem KV.length {kvs:List (κ × V)}{vs:List (κ × Value)} (r:KV kvs vs):kvs.length=vs.length:=Paired.length r
end
theorem uH {P:Program}{w:World}{k:aH}{u:Value} (r:aO (kV k) u):(dW P w).is k u=true:=by
 cases k with
 | inl i=>obtain ⟨t,e⟩:=(show ∃ t,u=Value.int i t from r); subst e; exact A9 P w i t
 | inr x=>obtain ⟨t,e⟩:=(show ∃ t,u=Value.str x t from r); subst e; exact B0 P w x t
theorem uI {P:Program}{w:World}:∀ {ks:List aH}{us:List Value},aG (ks.map kV) us->ItemsAre (dW P w) ks us
 | [],_,r=>by rw [List.map_nil] at r; cases r; exact .nil
 | k :: ks,_,r=>by
  rw [az0] at r
  cases r with
  | cons h t=>exact .cons (uH h) (uI t)
abbrev KT (H:Hp):List (List aH × V)->List (List aH × Addr × Value)->Prop:=Paired fun p q=>p.1=q.1/\H q.2.1=some (.tup (p.1.map kV))/\aO p.2 q.2.2
theorem KT.val {H:Hp}{kvs:List (List aH × V)}{xs:List (List aH × Addr × Value)} (r:KT H kvs xs) (k:List aH):iO (fE kvs k) ((atKey xs k).map (·.2)):=by
 induction r with
 | nil=>exact True.intro
 | @cons p q ps qs h t ih=>
  obtain ⟨h1,_,h2⟩:=h
  by_cases e:p.1=k
  ·have e':q.1=k:=h1.symm.trans e
   have b:atKey (q :: qs) k=some q.2:=by simp [atKey,List.find?_cons,e']
   rw [uD e,b]; exact h2
  ·have e' : ¬ q.1=k:=fun z=>e (h1.trans z)
   have b:atKey (q :: qs) k=atKey qs k:=by simp [atKey,List.find?_cons,e']
   rw [uE e,b]; exact ih
theorem KT.repl {H:Hp}{kvs:List (List aH × V)}{xs:List (List aH × Addr × Value)} (r:KT H kvs xs) (k:List aH) {y:V}{u:Value} (ry:aO y u) :
  KT H (kvs.map fun kv=>if kv.1=k then (kv.1,y) else kv) (xs.map (putAt k u)):=by
 induction r with
 | nil=>exact .nil
 | @cons p q ps qs h t ih=>
  rw [az0,az0]
  refine .cons ?_ ih
  obtain ⟨h1,h2,h3⟩:=h
  unfold putAt
  by_cases e:p.1=k
  ·rw [if_pos e,if_pos (h1.symm.trans e)]; exact⟨h1,h2,ry⟩
  ·rw [if_neg e,if_neg (fun z=>e (h1.trans z))]; exact⟨h1,h2,h3⟩
theorem KT.put {H:Hp}{kvs:List (List aH × V)}{xs:List (List aH × Addr × Value)} (r:KT H kvs xs) (k:List aH) {b:Addr}{y:V}{u:Value} (hb:H b=some (.tup (k.map kV))) (ry:aO y u) :
  KT H (dM kvs k y) (storedH xs k b u):=by
 have e:(kvs.any fun kv=>decide (kv.1=k))=(atKey xs k).isSome:=by
  rw [uF,(r.val k).isSome_eq,Option.isSome_map]
 unfold dM storedH
 rw [e]
 by_cases q:(atKey xs k).isSome=true
 ·rw [if_pos q,if_pos q]; exact r.repl k ry
 ·rw [if_neg q,if_neg q]; exact Paired.snoc r ⟨rfl,hb,ry⟩
theorem KT.keeps {H H':Hp}{kvs:List (List aH × V)}{xs:List (List aH × Addr × Value)} (r:KT H kvs xs) (ht:∀ b ys,H b=some (.tup ys)->H' b=some (.tup ys)):KT H' kvs xs:=
 Paired.mapP r fun _ _ z=>⟨z.1,ht _ _ z.2.1,z.2.2⟩
section
variable {P : Program} {w : World} {H : Hp} {h : Heap} {a : Addr}
theorem uJ {u:HO} (ok:bD P w H h) (e:Rd H a u):b6 P w H h a u:=e.ok ok
theorem uK {kvs:List (aH × V)} (ok:bD P w H h) (e:Rd H a (.dK kvs)):kvs.length<=sizeLine/\(a == sysModules)=false/\∃ vs,KV kvs vs/\h.DictOf (dW P w) a vs:=
 show b6 P w H h a (.dK kvs) from uJ ok e
theorem O1 {kvs:List (aH × V)} (ok:bD P w H h) (e:H a=some (.dK kvs)):kvs.length<=sizeLine/\(a == sysModules)=false/\∃ vs,KV kvs vs/\h.DictOf (dW P w) a vs:=uK ok (.inl e)
theorem uL {ks:List aH} (ok:bD P w H h) (e:H a=some (.tup (ks.map kV))):(tupleKind (dW P w)).is h ks a:=by
 obtain ⟨_,its,r,o,h1,h2,n,h3⟩:=(show b6 P w H h a (.tup (ks.map kV)) from ok a _ e)
 exact⟨o,its.toArray,n,h1,h2,h3,by simpa using uI r⟩
theorem O2 {kvs:List (List aH × V)} (ok:bD P w H h) (e:Rd H a (.dT kvs)):kvs.length<=sizeLine/\(a == sysModules)=false/\
  ∃ xs,KT H kvs xs/\h.DictOfH (tupleKind (dW P w)) a xs:=by
 obtain ⟨z,y,xs,r,o,es,ep,h1,h2,h3,h4,h5⟩:=(show b6 P w H h a (.dT kvs) from uJ ok e)
 refine⟨z,y,xs,r,o,es,ep,h1,h2,h3,h4,fun x hx=>?_,h5⟩
 have all:∀ {l:List (List aH × V)}{m:List (List aH × Addr × Value)},KT H l m->∀ x ∈ m,(tupleKind (dW P w)).is h x.1 x.2.1:=by
  intro l m q
  induction q with
  | nil=>intro x hx; exact nomatch hx
  | @cons p q ps qs hq t ih=>
   intro x hx
   rcases av8.mp hx with e | hx
   ·subst e
    exact uL ok (by rw [<- hq.1]; exact hq.2.1)
   ·exact ih x hx
 exact all r x hx
theorem O3 {kvs:List (List aH × V)} (ok:bD P w H h) (e:H a=some (.dT kvs)):kvs.length<=sizeLine/\(a == sysModules)=false/\
  ∃ xs,KT H kvs xs/\h.DictOfH (tupleKind (dW P w)) a xs:=O2 ok (.inl e)
end
def jW (H:Hp) (a:Addr) (y v:V) (H':Hp):Prop:=
 (∃ kvs k,H a=some (.dK kvs)/\y=kV k/\kvs.length < sizeLine/\H'=upd H a (.dK (dM kvs k v))) ∨
 ∃ kvs k b,H a=some (.dT kvs)/\y = .ref b/\H b=some (.tup (k.map kV))/\kvs.length < sizeLine/\H'=upd H a (.dT (dM kvs k v))
theorem jW.t {H:Hp}{a b:Addr}{kvs:List (List aH × V)}{k:List aH}{v:V} (e:H a=some (.dT kvs)) (eb:H b=some (.tup (k.map kV))) (hl:kvs.length < sizeLine) :
  jW H a (.ref b) v (upd H a (.dT (dM kvs k v))):=.inr ⟨kvs,k,b,e,rfl,eb,hl,rfl⟩
section
variable {X : Cx} {pins : List (Addr × Obj)} {σ : St} {H : Hp} {s : Shared} {a : Addr} {y v : V} {u r : Value} {o : Option V} {A : Around} {E : Value → Shared → Prop}
theorem a5.big (I:a5 X pins σ H s):sysModules < s.heap.objs.size:=by
 have h:mainGlobals < s.heap.objs.size:=(I.mod.glob.keeps I.bk).lt
 exact Nat.lt_trans (by decide) h
theorem uM {h':Heap}{t':Nat}{ob:HO} (I:a5 X pins σ H s) (mu:jI (H a)) (hs:Heap.SameBut a s.heap h') (he:∃ q,h'.get? a=some q) (new:b6 X.prog X.w (upd H a ob) h' a ob) :
  a5 X pins σ (upd H a ob) { s with heap:=h',toks:=t' }:=
 I.write (x:=a) (e:=a) mu (.inl rfl) (fun b q hb z=>(hs.2 b hb).trans z) he new
theorem O4 {P:Program}{w:World}{H':Hp}{h':Heap}{kvs:List (aH × V)}{vs:List (aH × Value)} (z:kvs.length<=sizeLine) (hd:(a == sysModules)=false) (rel:KV kvs vs) (dd:h'.DictOf (dW P w) a vs) :
  b6 P w H' h' a (.dK kvs):=⟨z,hd,vs,rel,dd⟩
theorem O5 {H':Hp}{Q:Unit->Shared->Prop} (hu:A.units+1 < cLine) (I:a5 X pins σ H s) (g:jW H a y v H') (ry:aO y u) (rv:aO v r) (h:∀ s',a5 X pins σ H' s'->Q () s') :
  wpAny (model X.prog X.w) A (setItem (.ref a) u r) Q E s:=by
 rcases g with ⟨kvs,k,e,ey,l,eH⟩ | ⟨kvs,k,b,e,ey,eb,l,eH⟩
 ·subst ey eH
  obtain ⟨z,hd,vs,rel,dd⟩:=O1 I.hok e
  have hz:vs.length<=sizeLine:=by rw [<- rel.length]; exact z
  have hl:(dM kvs k v).length<=sizeLine:=by have:=uG kvs k v; omega
  refine wpAny_setItem_pairs (hsz:=hz) (uH ry) dd fun h' dd' hs=>h _ ?_
  have he:∃ q,h'.get? a=some q:=let ⟨q,_,_,hq,_⟩:=dd'; ⟨q,hq⟩
  exact uM I (by rw [e]; exact True.intro) hs he (O4 hl hd (rel.put k rv) dd')
 ·subst ey eH
  cases (show u=Value.ref b from ry)
  obtain ⟨z,hd,xs,rel,dd⟩:=O3 I.hok e
  have hz:xs.length<=sizeLine:=by rw [<- Paired.length rel]; exact z
  have hl:(dM kvs k v).length<=sizeLine:=by have:=uG kvs k v; omega
  refine wpAny_setItem_heap (hsz:=hz) (tupleKind_room_in1 hu) (uL I.hok eb) dd fun h' dd' hs=>h _ ?_
  obtain ⟨q,es,ep,hq,h2,h3,h4,_,h5⟩:=dd'
  refine uM I (by rw [e]; exact True.intro) hs ⟨q,hq⟩ ⟨hl,hd,_,(rel.put k eb rv).keeps fun c ys ec=>?_,q,es,ep,hq,h2,h3,h4,h5⟩
  rw [aN (B1 ec e (fun z=>nomatch z))]
  exact ec
end
section
variable {X : Cx} {pins : List (Addr × Obj)} {σ : St} {H : Hp} {s : Shared} {a : Addr} {kvs : List (aH × V)} {k : aH} {u : Value} {A : Around} {E : Value → Shared → Prop}
theorem O6 {Q:Value->Shared->Prop} (I:a5 X pins σ H s) (e:Rd H a (.dK kvs)) (h:∀ t s',a5 X pins σ H s'->Q (.int kvs.length t) s'):wpAny (model X.prog X.w) A (call (.builtin "len") [.ref a]) Q E s:=by
 obtain ⟨z,hd,vs,rel,dd⟩:=uK I.hok e
 refine call_len_dict hd dd (by rw [<- rel.length]; rw [sizeLine_eq] at z; omega) ?_
 rw [<- rel.length]
 exact h _ _ (I.tok _)
end
def uN (td ty tv:TE):TS:=fun D σ H=>tv σ H fun v H1=>td σ H1 fun x H2=>ty σ H2 fun y H3=>∃ a H4,x = .ref a/\jW H3 a y v H4/\D.nx σ H4
section
variable {X : Cx} {o i e value : Expr} {pos pos' tpos : Pos} {td ty tv : TE}
theorem O7 (hu:X.A.units+1 < cLine) (ho:PE X o td) (hi:PE X i ty) (hv:PE X value tv) (hs:swapsWith value (some (.Subscript o i pos')) pos.line X.env=pure false) :
  PS X (.Assign [.Subscript o i pos'] value pos) (uN td ty tv):=by
 intro pins s σ H D I h
 refine wpAny_Assign_Subscript (aJ (hv pins s σ H _ I h) fun r s1 ⟨v,H1,I1,rv,q1⟩=>aJ (ho pins s1 σ H1 _ I1 q1) fun u s2 ⟨x,H2,I2,rx,q2⟩=>aJ (hi pins s2 σ H2 _ I2 q2) fun iv s3 ⟨y,H3,I3,ry,a,H4,ex,g,q3⟩=>?_) hs
 subst ex
 obtain rfl:u=Value.ref a:=rx
 exact O5 hu I3 g ry rv fun s4 I4=>⟨σ,H4,I4,q3⟩
end
theorem O8 {P:Program}{w:World}{H:Hp} (h:Heap) (hb:sysModules < h.objs.size):b6 P w H (h.push { cls:=.type "dict",data:=.dict #[] }) h.objs.size (.dT []):=
 ⟨ay4 _,beq_eq_false_iff_ne.mpr (Ne.symm (ay1 hb)),[],.nil,_,#[],0,aw8 _ rfl,⟨rfl,rfl,rfl⟩,rfl,rfl,List.nodup_nil⟩
def uO:TE:=fun _ H Q=>∀ p,H p=none->Q (.ref p) (upd H p (.dT []))
section
variable {X : Cx} {pos : Pos}
theorem O9:PE X (.Dict [] [] pos) uO:=fun pins s σ H Q I h=>
 wpAny_Dict_empty ⟨.ref s.heap.objs.size,_,I.laid (a:=s.heap.objs.size) (o:=.dT []) (t':=s.toks) (fun _ _ q=>au6 _ q) (au7 _) (O8 s.heap I.big),rfl,h _ (I.hok.fresh (au7 _))⟩
end
end L2
namespace Att
open PySem PySem.W PySem.Calls PyProof.Rows
theorem P0 {P:Params}{h:Heap}:∀ (ns:List Int) (vs:List Value),WellAll P h vs (ns.map WData.int)->IntsAre vs ns:=by
 intro ns
 induction ns with
 | nil=>
  intro vs w
  rw [List.map_nil] at w
  cases w
  exact .nil
 | cons n ns ih=>
  intro vs w
  rw [az0] at w
  cases w with
  | cons a b=>
   cases a
   exact .cons _ _ (ih _ b)
theorem uP {l:OpenLaw}{n:Nat} (hn:l.most=some n) {P:Params}{h:Heap}{args:List WData}{vals:List Value}
  (hpre:l.row.toRowW.claim.pre args=true) (hwl:WellAll P h vals args) :
  ∃ a vs ns,vals = [Value.ref a]/\args = [WData.list (ns.map WData.int)]/\h.get? a=some { cls:=.type "list",data:=.seq vs.toArray }/\IntsAre vs ns/\ns.length<=n:=by
 have hsh:WShape.hasAll [] args [.list .int]=true:=(pre_splitW hpre).1
 have hc:l.pre.holds [] { args:=args }=true:=(pre_splitW hpre).2
 obtain ⟨d,r,rfl,h1,h2⟩:=hasAllW_cons hsh
 obtain rfl:=hasAllW_nil h2
 obtain ⟨xs,rfl,h3⟩:=hasW_list h1
 obtain ⟨ns,rfl⟩:=items_int h3
 have hlen:ns.length<=n:=by
  unfold OpenLaw.pre at hc
  have h4:(WTm.not (.lt (.lit (.int (n:Int))) (.len (.arg 0)))).holds [] { args:=[.list (ns.map .int)] }=true:=by
   have h4:=(holds_andW hc).1
   rw [hn] at h4
   exact h4
  have h5:=condW_of h4 (w_not (w_lt w_lit (w_len_list (w_arg rfl))))
  rw [au8] at h5
  refine aF4 fun q=>?_
  have q':(n:Int) < ((ns.length:Nat):Int):=by omega
  first
   | (rw [aw5 q'] at h5; exact absurd h5 (by decide))
   | (simp at h5; omega)
 cases hwl with
 | cons w1 w2=>
  cases w2
  cases w1 with
  | list ho hall=>exact⟨_,_,ns,rfl,rfl,ho,P0 ns _ hall,hlen⟩
theorem uQ (l:OpenLaw) (args:List WData):l.row.toRowW.claim.post args (.bool true) args=true:=
 postW_of (r:=l.row.toRowW) (X:=(true == true))
  (show WShape.has [] (.bool true) .bool=true by first | rfl | decide | simp [WShape.has,WShape.arms,WShape.armsAll])
  (show (WTm.eq .res (.lit (.bool true))).value [] { args:=args,res:=some (.bool true),after:=args }=some (.bool (true == true)) from w_eq_bool (w_res rfl) w_lit) rfl
theorem au2 {l:OpenLaw}{n:Nat}{q:Program}{loose:List Str}{XP:(Str->Option Value)->Heap->Prop}{YP:World->Heap->Prop}{d:DefRec}{x:Str}
  (hn:l.most=some n) (hdf:d.params.defaults = [])
  (hbind:∀ pm cd doc v:Value,bindArgs (docDef d.name d.params d.body d.scope pm cd doc) ⟨[v],[]⟩=pure [(x,v)])
  (hx:d.scope.names.lookup x=some .local ∨ d.scope.names.lookup x=some .cell)
  (hk:d.scope.kind = .function) (hco:d.scope.isCoroutine=false) (hgen:d.scope.isGenerator=false)
  (body:∀ (w:World) (s₀ s₁ s:Shared) (mg mb:Str->Option Value) (fa:Addr) (o:Obj) (pm cd doc:Value) (a:Addr) (vs:List Value) (ns:List Int),
   Ground q loose [] XP w s₀ mg mb s₁.heap->YP w s₁.heap->
   s₁.heap.get? fa=some o->o.data = .func (docDef d.name d.params d.body d.scope pm cd doc)->s₁.heap.CodeRec cd d.name->mg d.name=some (.ref fa)->
   s₁.heap.get? a=some { cls:=.type "list",data:=.seq vs.toArray }->IntsAre vs ns->ns.length<=n->
   s.gens = #[]->s.os=s₁.os->
   Fr s₁.heap s₁.heap.objs.size s.heap (bindL (envOfC d.name d.scope s₁.heap.objs.size fa cd).kindOf [(x,.ref a)] fun _=>none)->
   Cl s₁.heap.objs.size (cellsFrom (s₁.heap.objs.size+1) d.scope.names []) s.heap (bindC (envOfC d.name d.scope s₁.heap.objs.size fa cd).kindOf [(x,.ref a)] fun _=>none)->
   wpAny (model l.prog w) (callerA.deeper (envOfC d.name d.scope s₁.heap.objs.size fa cd)) (execs d.body (envOfC d.name d.scope s₁.heap.objs.size fa cd))
    (fun f s'=>f = .ret (.bool true)/\OldK s₁.heap s'.heap/\s'.os=s₁.os/\AllBare s'.gens) (fun _ _=>False) s) :
  WalkO q loose XP YP l.row.toRowW d [] (fun f vs=>PySem.call f vs):=by
 intro w s₀ s₁ mg mb G Y fa o pm cd doc dV kV ho hd hcd hD hmg hg args vals as hpre hlay hrd hwl hlo
 obtain rfl:dV = .none:=Dflts.none hD hdf
 obtain rfl:kV = .none:=Dflts.noKw hD
 obtain ⟨a,vs,ns,rfl,rfl,hobj,hints,hlen⟩:=uP hn hpre hwl
 refine enter_call ?_
 refine call_cells_ret (o:=o) (by rw [depth_caller]; decide) ho (fd_plain hd) G.T.nolimit hcd (hbind pm cd doc (.ref a)) (fun y hy=>?_) (fun h₁ tk F X=>?_) hco hgen hk
 ·obtain rfl:y=(x,Value.ref a):=av2.mp hy
  rcases hx with e | e
  ·exact .inl e
  ·exact .inr ⟨e,cellsFrom_some _ _ _ (.inl e)⟩
 ·refine aC6 (body w s₀ s₁ { s₁ with heap:=h₁,toks:=tk } mg mb fa o pm cd doc a vs ns G Y ho (fd_plain hd) hcd hmg hobj hints hlen hg rfl F X) (fun f s' hq=>?_) (fun _ _ hq=>hq)
  obtain ⟨rfl,h2,h3,h4⟩:=hq
  exact⟨.inl ⟨.bool true,.bool true,[],rfl,fun _=>rfl,.bool true,uQ l _,fun _=>⟨List.Pairwise.nil,fun _ hm=>(nomatch hm)⟩⟩,h2,h3,h4⟩
theorem P3 {l:OpenLaw}{n:Nat}{q:Program}{loose:List Str}{XP:(Str->Option Value)->Heap->Prop}{YP:World->Heap->Prop}{d:DefRec}
  (hn:l.most=some n) (hdf:d.params.defaults = [])
  (call:∀ (w:World) (s₀ s₁:Shared) (mg mb:Str->Option Value) (fa:Addr) (o:Obj) (pm cd doc:Value) (a:Addr) (vs:List Value) (ns:List Int),
   Ground q loose [] XP w s₀ mg mb s₁.heap->YP w s₁.heap->
   s₁.heap.get? fa=some o->o.data = .func (docDef d.name d.params d.body d.scope pm cd doc)->s₁.heap.CodeRec cd d.name->mg d.name=some (.ref fa)->
   s₁.heap.get? a=some { cls:=.type "list",data:=.seq vs.toArray }->IntsAre vs ns->ns.length<=n->s₁.gens = #[]->
   codeAny (model l.prog w) callerA (.call (.ref fa) ⟨[.ref a],[]⟩) (fun r s'=>r = .ok (.ret (.bool true))/\OldK s₁.heap s'.heap/\s'.os=s₁.os/\AllBare s'.gens) s₁) :
  WalkO q loose XP YP l.row.toRowW d [] (fun f vs=>PySem.call f vs):=by
 intro w s₀ s₁ mg mb G Y fa o pm cd doc dV kV ho hd hcd hD hmg hg args vals as hpre hlay hrd hwl hlo
 obtain rfl:dV = .none:=Dflts.none hD hdf
 obtain rfl:kV = .none:=Dflts.noKw hD
 obtain ⟨a,vs,ns,rfl,rfl,hobj,hints,hlen⟩:=uP hn hpre hwl
 refine enter_call (codeAny_mono (call w s₀ s₁ mg mb fa o pm cd doc a vs ns G Y ho (fd_plain hd) hcd hmg hobj hints hlen hg) fun r s' hq=>?_)
 obtain ⟨rfl,h2,h3,h4⟩:=hq
 exact⟨.inl ⟨.bool true,.bool true,[],rfl,fun _=>rfl,.bool true,uQ l _,fun _=>⟨List.Pairwise.nil,fun _ hm=>(nomatch hm)⟩⟩,h2,h3,h4⟩
end Att
namespace L2
open PySem PySem.Spec PyProof.Rows
theorem pC:∀ {vs:List Value}{ns:List Int},IntsAre vs ns->aG (ns.map V.int) vs
 | _,_,.nil=>.nil
 | _,_,.cons n t h=>.cons ⟨t,rfl⟩ (pC h)
def lP (H:Hp):Prop:=∀ b,H b=none ∨ ∃ o xs,H b=some (.frz o (.lst xs))
theorem P4 {P:Program}{w:World}{K:PySem.W.Frag}{mg mb:Str->Option Value}{CX:eO}{k:Nat}{fa a:Addr}{fd:FuncData}{x:Str}{sp:Sp}{s₁:Shared}{vs:List Value}{ns:List Int}
  (KX:K.In s₁.heap) (hns:s₁.heap.Ns mainGlobals mg) (hb:s₁.heap.Ns builtinsNs mb) (hbb:∀ x:Str,x ≠ "__name__"->mb x=bootBuiltins x) (hlim:s₁.heap.NoLimit) (hg:s₁.gens = #[])
  (ha:s₁.heap.get? a=some { cls:=.type "list",data:=.seq vs.toArray }) (hi:IntsAre vs ns) (hl:ns.length<=sizeLine) (hr:bT k callerA)
  (F:∀ base:Heap,K.In base->base.Ns mainGlobals mg->cG P w K mg base CX k fa fd [x] sp) (hbind:∀ (s:Shared) (u:Value),BindsTo s fd ⟨[u],[]⟩ [(x,u)])
  (hsp:∀ H:Hp,lP H->aI K H a (ns.map V.int)->sp [.ref a] H (fun v _=>v = .bl true) fun _ _ _=>False)
  (hCX:∀ H e s',CX [] H s₁ (fun _ _ _=>False) e s'->False) :
  codeAny (model P w) callerA (.call (.ref fa) ⟨[.ref a],[]⟩) (fun r s'=>r = .ok (.ret (.bool true))/\OldK s₁.heap s'.heap/\s'.os=s₁.os/\AllBare s'.gens) s₁:=by
 have rv:=pC hi
 have lenV:=hi.length
 have core:∀ H:Hp,lP H->aI K H a (ns.map V.int)->bD P w H s₁.heap->(∀ b,H b ≠ none->b=a)->(H a ≠ none->K.lookup a=none)->
   codeAny (model P w) callerA (.call (.ref fa) ⟨[.ref a],[]⟩) (fun r s'=>r = .ok (.ret (.bool true))/\OldK s₁.heap s'.heap/\s'.os=s₁.os/\AllBare s'.gens) s₁:=by
  intro H hO hS hok hA hK
  have base_of:∀ {b:Addr}{o:Obj},s₁.heap.get? b=some o->H b=none->(fO s₁.heap H).get? b=some o:=fun e n=>B3 e n
  have noA:∀ {b:Addr}{o:Obj}{es:Array DictEntry}{ep:Nat},s₁.heap.get? b=some o->o.data = .dict es ep->H b=none:=fun {b o es ep} e d=>by
   cases q:H b with
   | none=>rfl
   | some u=>
    have e':b=a:=hA b (by rw [q]; simp)
    subst e'
    rw [ha] at e; cases e
    have d':Data.seq vs.toArray _=Data.dict es ep:=d
    cases d'
  have nsK:∀ {b:Addr}{m:Str->Option Value},s₁.heap.Ns b m->(fO s₁.heap H).Ns b m:=fun {b m} ⟨o,es,ep,e,d,r⟩=>⟨o,es,ep,base_of e (noA e d),d,r⟩
  have hKb:K.In (fO s₁.heap H):=fun b o e=>base_of (KX b o e) (by
   cases q:H b with
   | none=>rfl
   | some u=>
    have e':b=a:=hA b (by rw [q]; simp)
    subst e'
    rw [hK (by rw [q]; simp)] at e; cases e)
  have hM:Mod K mg (fO s₁.heap H):=⟨hKb,nsK hns,⟨mb,nsK hb,hbb⟩,let ⟨mc,h1,h2⟩:=hlim; ⟨mc,nsK h1,h2⟩⟩
  have e0:lJ P w K mg (fO s₁.heap H) callerA [] s₁ H:=⟨rfl,hM,fun b o e=>B4 e,Nat.le_of_eq (B2 _ _),trivial,fun b hb=>absurd (show b ∈ ([]:List Addr) from hb) (by simp),hok,.of_eq hg⟩
  refine codeAny_mono ((F _ hKb (nsK hns)).run callerA [] s₁ H ⟨[.ref a],[]⟩ [.ref a] [.ref a] _ _ hr e0 (hbind s₁ (.ref a)) (.cons rfl .nil) (hsp H hO hS)) fun r s' h=>?_
  cases r with
  | error e=>exact (hCX H e s' h).elim
  | ok fl=>
   cases fl with
   | next=>exact False.elim h
   | brk=>exact False.elim h
   | cont=>exact False.elim h
   | ret u=>
    obtain ⟨v,H',os,bare,un,hok',r',q⟩:=h
    have q':v = .bl true:=q
    subst q'
    obtain rfl:u=Value.bool true:=r'
    refine⟨rfl,OldK.of_keep fun b o e=>?_,os,bare⟩
    cases q:H b with
    | none=>exact un.keep b o e q (by intro z; exact absurd (show b ∈ ([]:List Addr) from z) (by simp)) (by simp)
    | some u=>
     rcases hO b with z | ⟨ob,xs,z⟩
     ·rw [q] at z; cases z
     ·have z2:=un.frzs b ob _ z
      obtain ⟨e1,_⟩:=hok b _ z
      obtain ⟨e2,_⟩:=hok' b _ z2
      rw [e] at e1; cases e1
      exact e2
 cases hk:K.lookup a with
 | some o=>
  have e:=KX a o hk
  rw [ha] at e
  cases e
  refine core (fun _=>none) (fun _=>.inl rfl) (.inr ⟨_,vs.toArray,_,hk,rfl,rfl,rfl,by rw [aw1,lenV]; exact hl,by simpa using rv⟩) (fun b u z=>by have z':(none:Option HO)=some u:=z; cases z') (fun b z=>absurd rfl z) fun z=>absurd rfl z
 | none=>
  refine core (fun b=>if b=a then some (.frz { cls:=.type "list",data:=.seq vs.toArray } (.lst (ns.map V.int))) else none) (fun b=>?_) (.inl (.inr ⟨{ cls:=.type "list",data:=.seq vs.toArray },if_pos rfl⟩)) (fun b u z=>?_) (fun b z=>?_) fun _=>hk
  ·by_cases hb:b=a
   ·exact .inr ⟨_,_,if_pos hb⟩
   ·exact .inl (if_neg hb)
  ·by_cases hb:b=a
   ·have z':=(if_pos hb).symm.trans z
    cases z'
    subst hb
    exact⟨ha,by rw [au8]; exact hl,vs,_,rv,ha⟩
   ·have z':=(if_neg hb).symm.trans z
    cases z'
  ·by_cases hb:b=a
   ·exact hb
   ·exact absurd (if_neg hb) z
theorem P5 {l:PySem.W.OpenLaw}{n k:Nat}{q:Program}{loose:List Str}{XP:(Str->Option Value)->Heap->Prop}{YP:World->Heap->Prop}{d:DefRec}{K:Params->PySem.W.Frag}{CX:World->eO}{sp:World->Sp}{x:Str}
  (hn:l.most=some n) (hn2:n<=sizeLine) (hdf:d.params.defaults = []) (hr:bT k callerA)
  (hY:∀ (w:World) (h:Heap),YP w h->(K w.params).In h)
  (F:∀ (w:World) (mg:Str->Option Value) (fa:Addr) (h:Heap),(K w.params).In h->h.Ns mainGlobals mg->mg d.name=some (.ref fa)->
   ∃ fd:FuncData,(∀ (s:Shared) (u:Value),BindsTo s fd ⟨[u],[]⟩ [(x,u)])/\
    ∀ base:Heap,(K w.params).In base->base.Ns mainGlobals mg->cG l.prog w (K w.params) mg base (CX w) k fa fd [x] (sp w))
  (hsp:∀ (w:World) (H:Hp) (a:Addr) (ns:List Int),ns.length<=n->lP H->aI (K w.params) H a (ns.map V.int)->sp w [.ref a] H (fun v _=>v = .bl true) fun _ _ _=>False)
  (hCX:∀ (w:World) (H:Hp) (s:Shared) (e:Value) (s':Shared),CX w [] H s (fun _ _ _=>False) e s'->False) :
  PySem.W.WalkO q loose XP YP l.row.toRowW d [] (fun f vs=>PySem.call f vs):=by
 refine Att.P3 hn hdf fun w s₀ s₁ mg mb fa o pm cd doc a vs ns G Y ho hd hcd hmg hobj hints hlen hg=>?_
 have KX:=hY w _ Y
 obtain ⟨fd,hb,hF⟩:=F w mg fa _ KX G.T.g hmg
 exact P4 KX G.T.g G.T.b G.T.builtins G.T.nolimit hg hobj hints (ay6 hlen hn2) hr hF hb (fun H hO hS=>hsp w H a ns hlen hO hS) fun H e s'=>hCX w H s₁ e s'
def gI (s:Stmt):Arguments:=match s with
 | .FunctionDef _ a _ _ _ _ _ _ _ _=>a
 | _=>{ posonlyargs:=[],args:=[],vararg:=none,kwonlyargs:=[],kw_defaults:=[],kwarg:=none,defaults:=[] }
def eC (s:Stmt):List Stmt:=match s with
 | .FunctionDef _ _ b _ _ _ _ _ _ _=>b
 | _=>[]
def aU (s:Stmt):Scope:=match s with
 | .FunctionDef _ _ _ _ _ _ sc _ _ _=>sc
 | _=>{ kind:=.function,names:=[],isGenerator:=false,isCoroutine:=false }
abbrev cV:eO:=fun _ _ _ _ _ _=>False
abbrev E0:XK:=fun _ _ _=>False
theorem uR {X:Cx}:oY cV X E0:=fun _ _ _ _ _ _ _ h=>h.elim
structure eV (K:PySem.W.Frag) (x qual:Str) (st:Stmt) (f:Addr) (fd:FuncData):Prop where
 ex:∃ (oc:Value) (od:Option Addr) (kV doc pm:Value) (an:Option Addr) (cdv ct:Value) (osl:Array (Option Value)),
  fd=PySem.W.fnOf x qual (gI st) (eC st) (aU st) .none kV doc pm an cdv ct/\K.lookup f=some ⟨oc,od,.func fd,osl⟩/\PySem.W.codeIn K cdv qual=true
 kp:PySem.W.keepIn K (.ref f)=true
section
variable {P : Program} {w : World} {K : PySem.W.Frag} {mg : Str → Option Value} {base : Heap}
theorem eV.ok {x qual:Str}{st:Stmt}{f:Addr}{fd:FuncData}{N ps:List Str}{k:Nat}{sp:Sp} (F:eV K x qual st f fd) (S:FnScope N ps (aU st)) (len:∀ vs H Q E,sp vs H Q E->vs.length=ps.length)
  (hbody:∀ (cdv:Value) (A:Around) (outer:List Env) (s:Shared) (H:Hp) (vs:List V) (Q:VK) (E:XK),bT k (A.deeper (envOfC qual (aU st) s.heap.objs.size f cdv))->sp vs H Q E->
   ∃ t,cT (fQ cV P w K mg base N qual (aU st) f cdv A outer s H E).nox (eC st) t/\t { nx:=fun _ H'=>Q .non H',rt:=Q } (eQ N vs) H):cG P w K mg base cV (k+1) f fd ps sp:=by
 obtain ⟨oc,od,kV,doc,pm,an,cdv,ct,osl,rfl,lk,hcd⟩:=F.ex
 refine K2 lk hcd S len fun A outer s H vs Q E hr hsp=>?_
 obtain ⟨t,h,q⟩:=hbody cdv A outer s H vs Q E hr hsp
 exact⟨t,h.nox,q⟩
theorem eV.binds {x qual:Str}{st:Stmt}{f:Addr}{fd:FuncData}{ps:List Str} (F:eV K x qual st f fd)
  (h:∀ (kV doc pm:Value) (an:Option Addr) (cdv ct:Value) (us:List Value),us.length=ps.length->bindArgs (PySem.W.fnOf x qual (gI st) (eC st) (aU st) .none kV doc pm an cdv ct) ⟨us,[]⟩=pure (ps.zip us)):hV K fd ps []:=by
 obtain ⟨oc,od,kV,doc,pm,an,cdv,ct,osl,rfl,lk,hcd⟩:=F.ex
 exact .all (h kV doc pm an cdv ct)
theorem P6 {x qual:Str}{st:Stmt}{f:Addr}{oc:Value}{od an:Option Addr}{osl:Array (Option Value)}{kV doc pm cdv ct:Value} (l:K.lookup f=some ⟨oc,od,.func (PySem.W.fnOf x qual (gI st) (eC st) (aU st) .none kV doc pm an cdv ct),osl⟩)
  (c:PySem.W.codeIn K cdv qual=true) (k:PySem.W.keepIn K (.ref f)=true):eV K x qual st f (PySem.W.fnOf x qual (gI st) (eC st) (aU st) .none kV doc pm an cdv ct):=⟨⟨oc,od,kV,doc,pm,an,cdv,ct,osl,rfl,l,c⟩,k⟩
end
theorem P7 {A:Around}{k:Nat} (hr:bT k A):A.units+1 < cLine:=Nat.lt_of_le_of_lt (Nat.add_le_add_left (by decide:1<=64) _) hr.units
theorem pD {n:Nat} (h:n<=1000):n < sizeLine:=Nat.lt_of_le_of_lt h (by decide)
section
variable {X : Cx}
theorem pv (i:Nat) {x:Str}{pos:Pos} (hN:X.N[i]? = some x:=by rfl) (hv:gA X.env.scope x:=by first | exact Or.inl rfl | exact Or.inr (Or.inl rfl) | exact Or.inr (Or.inr rfl)) (hd:(x == ("__debug__" : Str))=false:=by decide)
  (hcd:(x == ("__classdict__" : Str))=false:=by decide):PE X (.Name x pos) (iP i):=jK hN hv hd hcd
theorem P8:bS X (.builtin "len") (fun xs H Q=>∃ a kvs,xs = [V.ref a]/\H a=some (.dK kvs)/\Q (.int kvs.length) H):=by
 intro pins s σ H xs us Q I r h
 obtain ⟨a,kvs,rfl,ha,q⟩:=h
 obtain ⟨u,rfl,ru⟩:=eB r
 cases ru
 exact O6 I (.inl ha) fun t s' I'=>⟨.int kvs.length,H,I',⟨t,rfl⟩,q⟩
end
theorem bH {A B:Prop} (h:B):if false=true then A else B:=by
 rw [if_neg aw0]
 exact h
theorem bX {A B:Prop} (h:A):if true=true then A else B:=by
 rw [if_pos rfl]
 exact h
def a8 (H H':Hp):Prop:=∀ b o,H b=some o->H' b=some o
theorem a8.refl (H:Hp):a8 H H:=fun _ _ h=>h
theorem a8.trans {H H1 H2:Hp} (a:a8 H H1) (b:a8 H1 H2):a8 H H2:=fun c o h=>b c o (a c o h)
theorem a8.free {H H':Hp} (e:a8 H H') {l:Addr} (h:H' l=Option.none):H l=Option.none:=by
 cases q:H l with
 | none=>rfl
 | some o=>
  rw [e l o q] at h
  cases h
def cP (cells:List (Str × Addr)):List (Str × NameKind)->List (Str × Addr)->List (Str × Addr)
 | [],cs=>cs
 | (n,k) :: r,cs=>cP cells r (if k == .free then (n,(cells.lookup n).getD 0) :: cs else cs)
theorem pE {env:Env}:∀ (ns:List (Str × NameKind)) (cs:List (Str × Addr)),(∀ x ∈ ns,x.2 = .free->∃ c,env.cells.lookup x.1=some c)->
  (forIn ns cs (fun (x:Str × NameKind) r=>(match x with
   | (name,kind)=>if (kind == .free)=true then (do let y <- cellOf env name; pure (ForInStep.yield ((name,y) :: r))) else pure (ForInStep.yield r)):_->_->Sem _))=(pure (cP env.cells ns cs):Sem (List (Str × Addr)))
 | [],cs,_=>by rw [List.forIn_nil]; rfl
 | (n,k) :: r,cs,h=>by
  rw [List.forIn_cons]
  have hr:∀ x ∈ r,x.2 = .free->∃ c,env.cells.lookup x.1=some c:=fun x hx=>h x (av1 _ hx)
  cases hk:(k == NameKind.free) with
  | true=>
   have e:k = .free:=by simpa using hk
   obtain ⟨c,hc⟩:=h (n,k) av5 e
   simp only [hk,if_true]
   have e1:cellOf env n=pure c:=by unfold cellOf; rw [hc]
   rw [e1]
   show ((pure c >>= fun y=>pure (ForInStep.yield ((n,y) :: cs))) >>= _:Sem _)=_
   rw [pure_bind,pure_bind]
   have:=pE (env:=env) r ((n,c) :: cs) hr
   refine this.trans ?_
   unfold cP
   simp only [hk,if_true,hc,Option.getD_some]
   cases r <;> rfl
  | false=>
   simp only [hk,aw9,aA3]
   rw [pure_bind]
   have:=pE (env:=env) r cs hr
   refine this.trans ?_
   conv=>rhs; unfold cP
   simp only [hk,aw9,aA3]
theorem pF {scope:Scope}{env:Env} (h:∀ x ∈ scope.names,x.2 = .free->∃ c,env.cells.lookup x.1=some c):closureFor scope env=pure (cP env.cells scope.names []):=by
 have e:=pE (env:=env) scope.names [] h
 unfold closureFor
 rw [show (pure (cP env.cells scope.names []):Sem (List (Str × Addr)))=(pure (cP env.cells scope.names []) >>= pure) by rw [pure_bind]]
 rw [<- e]
theorem lQ {cells:List (Str × Addr)}:∀ (ns:List (Str × NameKind)) (cs:List (Str × Addr)) {x:Str}{c:Addr},(∀ y ∈ ns,y.2 = .free->∃ c,cells.lookup y.1=some c)->
  (∀ x c,cs.lookup x=some c->cells.lookup x=some c)->(cP cells ns cs).lookup x=some c->cells.lookup x=some c
 | [],cs,x,c,_,hc,h=>hc x c h
 | (n,k) :: r,cs,x,c,hn,hc,h=>by
  unfold cP at h
  have hr:∀ y ∈ r,y.2 = .free->∃ c,cells.lookup y.1=some c:=fun y hy=>hn y (av1 _ hy)
  cases hk:(k == NameKind.free) with
  | false=>
   simp only [hk,aw9,aA3] at h
   exact lQ r cs hr hc h
  | true=>
   simp only [hk,if_true] at h
   refine lQ r _ hr (fun y d e=>?_) h
   obtain ⟨c0,h0⟩:=hn (n,k) av5 (by simpa using hk)
   have h0:cells.lookup n=some c0:=h0
   rw [h0] at e
   rw [az8] at e
   by_cases hyn:y=n
   ·subst hyn
    simp only [beq_self_eq_true,Option.getD_some] at e
    rw [h0]; exact e
   ·have:(y == n)=false:=beq_eq_false_iff_ne.mpr hyn
    simp only [this] at e
    exact hc y d e
theorem pG {cells:List (Str × Addr)}:∀ (ns:List (Str × NameKind)) (cs:List (Str × Addr)) {x:Str},((x,NameKind.free) ∈ ns ∨ ∃ c,cs.lookup x=some c)->∃ c,(cP cells ns cs).lookup x=some c
 | [],cs,x,h=>by
  rcases h with h | h
  ·simp at h
  ·exact h
 | (n,k) :: r,cs,x,h=>by
  unfold cP
  refine pG r _ ?_
  rcases h with h | ⟨c,h⟩
  ·rcases av8.mp h with e | e
   ·cases e
    exact .inr ⟨_,by simp [az8]; rfl⟩
   ·exact .inl e
  ·right
   cases hk:(k == NameKind.free) with
   | false=>exact⟨c,by simpa [hk] using h⟩
   | true=>
    simp only [if_true]
    rw [az8]
    by_cases hxn:(x == n)=true
    ·simp only [hxn]; exact⟨_,rfl⟩
    ·simp only [aF0.mpr hxn]; exact⟨c,h⟩
theorem lR {env:Env}:∀ {names:List (Str × NameKind)}{x:Str}{k:NameKind},(names.map fun (n,k)=>if (k == NameKind.free && env.scope.kind == .function && env.kindOf n == some .cell) then (n,NameKind.cell) else (n,k)).lookup x=some k->
  names.lookup x=some k ∨ (names.lookup x=some .free/\k = .cell)
 | [],_,_,h=>by simp at h
 | (n,q) :: r,x,k,h=>by
  have ih:=@lR env r x k
  rw [az0] at h
  by_cases hx:(x == n)=true
  ·have e:x=n:=by simpa using hx
   subst e
   by_cases hc:(q == NameKind.free && env.scope.kind == .function && env.kindOf x == some .cell)=true
   ·simp only [hc,if_true,az8,beq_self_eq_true] at h
    have hq:q = .free:=by simp at hc; exact hc.1.1
    exact .inr ⟨by simp [az8,hq],(ax4 h).symm⟩
   ·simp only [hc,aw9,aA3,az8,beq_self_eq_true] at h
    exact .inl (by simp [az8]; exact ax4 h)
  ·have hx':(x == n)=false:=aF0.mpr hx
   have h':(r.map fun (n,k)=>if (k == NameKind.free && env.scope.kind == .function && env.kindOf n == some .cell) then (n,NameKind.cell) else (n,k)).lookup x=some k:=by
    by_cases hc:(q == NameKind.free && env.scope.kind == .function && env.kindOf n == some .cell)=true
    ·simp only [hc,if_true,az8,hx'] at h; exact h
    ·simp only [hc,aw9,aA3,az8,hx'] at h; exact h
   simp only [az8,hx']
   exact ih h'
def dN (fr:List (Option Nat)) (σ:St):St:=fr.map fun o=>o.bind fun j=>(σ[j]?).join
def Wk (σ₁ σ₂:St):Prop:=σ₁.length=σ₂.length/\∀ (i:Nat) v,σ₁[i]? = some (some v)->σ₂[i]? = some (some v)
theorem Wk.refl (σ:St):Wk σ σ:=⟨rfl,fun _ _ h=>h⟩
theorem Wk.set {σ τ:St}{i:Nat}{v:V} (h:Wk σ τ) (hi:σ[i]? = some none):Wk σ (τ.set i (some v)):=by
 refine⟨by rw [aD3]; exact h.1,fun j w e=>?_⟩
 by_cases hj:j=i
 ·subst hj; rw [hi] at e; cases e
 ·rw [ax7 (Ne.symm hj)]; exact h.2 j w e
theorem fU:∀ (ns:List (Str × NameKind)) (n:Nat) (cs:List (Str × Addr)),cellsFrom n ns cs=cellsFrom n ns [] ++ cs
 | [],_,_=>rfl
 | (x,k) :: r,n,cs=>by
  unfold cellsFrom
  split
  ·rw [fU r (n+1) ((x,n) :: cs),fU r (n+1) [(x,n)]]; simp
  ·exact fU r n cs
theorem pH:∀ (ns:List (Str × NameKind)) (n:Nat) {x:Str}{c:Addr},(x,c) ∈ cellsFrom n ns []->(x,NameKind.cell) ∈ ns
 | [],_,_,_,h=>by simp [cellsFrom] at h
 | (y,k) :: r,n,x,c,h=>by
  unfold cellsFrom at h
  split at h
  ·rename_i hk
   rw [fU] at h
   rcases ax5.mp h with z | z
   ·exact av1 _ (pH r _ z)
   ·rw [av2] at z
    cases z
    have:k = .cell:=by simpa using hk
    rw [this]; exact av5
  ·exact av1 _ (pH r _ h)
theorem lS:∀ (ns:List (Str × NameKind)) (n:Nat) {x:Str},(x,NameKind.cell) ∈ ns->∃ c,(x,c) ∈ cellsFrom n ns []
 | (y,k) :: r,n,x,h=>by
  unfold cellsFrom
  rcases av8.mp h with z | z
  ·cases z
   rw [if_pos (by rfl),fU]
   exact⟨n,ax9 _ (by simp)⟩
  ·split
   ·obtain ⟨c,hc⟩:=lS r (n+1) z
    rw [fU]
    exact⟨c,aG5 _ hc⟩
   ·exact lS r n z
theorem pI {α:Type}:∀ {l:List (Str × α)}{x:Str}{c:α},(x,c) ∈ l->∃ d,l.lookup x=some d
 | (y,v) :: r,x,c,h=>by
  rw [az8]
  cases hb:x == y with
  | true=>exact⟨v,rfl⟩
  | false=>
   rcases av8.mp h with z | z
   ·cases z; simp at hb
   ·exact pI z
theorem lT {α:Type}{x:Str}:∀ (l r:List (Str × α)),(l ++ r).lookup x=(match l.lookup x with | some v=>some v | none=>r.lookup x)
 | [],_=>rfl
 | (y,v) :: l,r=>by
  rw [List.cons_append,az8,az8]
  cases hb:x == y with
  | true=>rfl
  | false=>exact lT l r
def eD (X:Cx) (scope:Scope) (C:Addr):List (Str × Addr):=cellsFrom (C+1) scope.names (cP X.env.cells scope.names [])
theorem i4 {X:Cx}{scope:Scope}{C:Addr}{x:Str}{c:Addr} (h:(eD X scope C).lookup x=some c) :
  (x,c) ∈ cellsFrom (C+1) scope.names [] ∨ ((∀ d,(x,d) ∉ cellsFrom (C+1) scope.names [])/\(cP X.env.cells scope.names []).lookup x=some c):=by
 unfold eD at h
 rw [fU,lT] at h
 cases e:(cellsFrom (C+1) scope.names []).lookup x with
 | some v=>rw [e] at h; cases h; exact .inl (az4 e)
 | none=>
  rw [e] at h
  refine .inr ⟨fun d hd=>?_,h⟩
  obtain ⟨d',z⟩:=pI hd
  rw [e] at z; cases z
theorem P9 {X:Cx}{scope:Scope}{C:Addr}{x:Str}{c:Addr} (hn:(x,NameKind.cell) ∉ scope.names) (h:(cP X.env.cells scope.names []).lookup x=some c):(eD X scope C).lookup x=some c:=by
 unfold eD
 rw [fU,lT]
 cases e:(cellsFrom (C+1) scope.names []).lookup x with
 | some v=>exact absurd (pH _ _ (az4 e)) hn
 | none=>exact h
theorem uS {X:Cx}{scope:Scope}{C:Addr}{x:Str} (h:(x,NameKind.cell) ∈ scope.names ∨ ∃ c,(cP X.env.cells scope.names []).lookup x=some c):∃ c,(eD X scope C).lookup x=some c:=by
 unfold eD
 rw [fU,lT]
 cases e:(cellsFrom (C+1) scope.names []).lookup x with
 | some v=>exact⟨v,rfl⟩
 | none=>
  rcases h with h | h
  ·obtain ⟨c,hc⟩:=lS scope.names (C+1) h
   obtain ⟨d,hd⟩:=pI hc
   rw [e] at hd; cases hd
  ·exact h
def bA (X:Cx) (scope:Scope) (N:List Str) (s:Shared) (H:Hp) (C:Addr) (fp:List Addr) (E:Value->Shared->Prop):Cx:=
 { X with N:=N,s₀:=s,H₀:=H,env:=compEnvC scope (eD X scope C) C X.env,outer:=X.stack,ex:=fp,fn:=fun x=>scope.names.lookup x == some .cell,pn:=[],xe:=E }
structure cH (X:Cx) (scope:Scope) (N:List Str) (fr:List (Option Nat)):Prop where
 kind:scope.kind = .function
 own:∀ y ∈ scope.names,y.2 = .cell->scope.names.lookup y.1=some .cell
 names:∀ y ∈ scope.names,y.2 = .local->scope.names.lookup y.1=some .local
 free:∀ y ∈ scope.names,y.2 = .free->X.env.scope.names.lookup y.1=some .cell ∨ X.env.scope.names.lookup y.1=some .free
 len:fr.length=N.length
 from_:∀ (i j:Nat),fr[i]? = some (some j)->∃ x,N[i]? = some x/\X.N[j]? = some x/\scope.names.lookup x=some .free
section
variable {X : Cx} {pins : List (Addr × Obj)} {σ : St} {H : Hp} {s : Shared} {scope : Scope} {N : List Str} {fr : List (Option Nat)}
theorem cH.cells (S:cH X scope N fr) (I:a5 X pins σ H s):∀ y ∈ scope.names,y.2 = .free->∃ c,X.env.cells.lookup y.1=some c:=fun y hy hk=>I.ok.has y.1 (S.free y hy hk)
theorem Q0 {C D:Addr}{fp:List Addr}{E:Value->Shared->Prop}{h1:Heap}{tk:Nat}{m:Str->Option Value} (S:cH X scope N fr) (I:a5 X pins σ H s)
  (hf:∀ b ∈ fp,e9 X pins H b) (hfl:∀ b ∈ fp,b < s.heap.objs.size) (hD:s.heap.objs.size<=D) (hC:s.heap.objs.size<=C) (hDC:D < C)
  (old:∀ b o,s.heap.get? b=some o->h1.get? b=some o) (hns:h1.Ns C m) (hacc:h1.get? D=some { cls:=.type "list",data:=.seq #[] 0 }) (hco:CellsOk h1 (C+1) (cellsFrom (C+1) scope.names [])) :
  a5 (bA X scope N s H C fp E) [] (dN fr σ) (upd H D (.lst [])) { s with heap:=h1,toks:=tk }:=by
 have hHD:H D=none:=I.hok.fresh hD
 have cl:=S.cells I
 have cs:∀ {x:Str}{c:Addr},(cP X.env.cells scope.names []).lookup x=some c->X.env.cells.lookup x=some c:=fun {x c} h=>lQ scope.names [] cl (fun _ _ z=>by simp at z) h
 have clt:∀ {x:Str}{c:Addr},X.env.cells.lookup x=some c->c < s.heap.objs.size:=fun {x c} h=>by obtain ⟨v,z⟩:=I.cell x c h; exact z.lt
 have nge:∀ {x:Str}{c:Addr},(x,c) ∈ cellsFrom (C+1) scope.names []->C < c:=fun {x c} h=>(hco.empty x c h).2
 refine⟨⟨I.ok.mod,?_,I.ok.glob,I.ok.blt,hC,?_,?_,?_,I.ok.hd,I.ok.frames,.inl rfl,?_,I.bs,ay6 I.ok.bsz I.sz,?_,?_,I.stack,I.stkFree⟩,rfl,I.bare,Un.laid old hD hHD,⟨m,hns,?_⟩,?_,?_,?_,fun p hp=>absurd (show p ∈ ([]:List (Addr × Obj)) from hp) (by simp),?_,?_⟩
 ·exact S.kind
 ·intro x y c h1 h2
  rcases i4 h1 with a | ⟨_,a⟩ <;> rcases i4 h2 with b | ⟨_,b⟩
  ·exact name_of_addr hco.apart a b
  ·exact absurd (av6 (Nat.lt_trans (nge a) (clt (cs b))) hC) (az5 _)
  ·exact absurd (av6 (Nat.lt_trans (nge b) (clt (cs a))) hC) (az5 _)
  ·exact I.ok.inj x y c (cs a) (cs b)
 ·intro x hx
  have hx:(relabel scope X.env).names.lookup x=some .cell ∨ (relabel scope X.env).names.lookup x=some .free:=hx
  have fin:(x,NameKind.free) ∈ scope.names->∃ c,(eD X scope C).lookup x=some c:=fun z=>uS (.inr (pG scope.names [] (.inl z)))
  rcases hx with hx | hx
  ·rcases lR hx with z | z
   ·exact uS (.inl (az4 z))
   ·exact fin (az4 z.1)
  ·rcases lR hx with z | z
   ·exact fin (az4 z)
   ·exact absurd z.2 (by decide)
 ·intro x c hx h
  have hx:(scope.names.lookup x == some NameKind.cell)=true:=hx
  have hx:scope.names.lookup x=some .cell:=by simpa using hx
  rcases i4 h with a | ⟨a,_⟩
  ·exact ay6 hC (aB7 (nge a))
  ·obtain ⟨d,hd⟩:=lS scope.names (C+1) (az4 hx)
   exact absurd hd (a d)
 ·intro b hb
  refine⟨ay1 (av6 (hfl b hb) hC),fun x c e=>?_⟩
  rcases i4 e with a | ⟨_,a⟩
  ·exact aD7 (Nat.lt_trans (av6 (hfl b hb) hC) (nge a))
  ·exact (hf b hb).2.2.2.2.1 x c (cs a)
 ·intro b o e hb
  rcases (hf b hb).2.2.2.1 with z | z
  ·exact I.ok.noex b o e z
  ·exact absurd (av6 (aw2 e) (ay6 I.ok.bsz z)) (az5 _)
 ·intro b hb z
  rcases av8.mp (I.stkSub b z) with e | e
  ·exact (hf b hb).2.1 e
  ·exact (hf b hb).2.2.1 e
 ·intro i x v e1 e2 e3
  have e2:(fr.map fun o=>o.bind fun j=>(σ[j]?).join)[i]? = some (some v):=e2
  rw [aw3] at e2
  cases ef:fr[i]? with
  | none=>rw [ef] at e2; cases e2
  | some o=>
   rw [ef] at e2
   cases o with
   | none=>cases e2
   | some j=>
    have e2:some ((σ[j]?).join)=some (some v):=e2
    have ej:σ[j]? = some (some v):=by
     cases q:σ[j]? with
     | none=>rw [q] at e2; cases e2
     | some w=>rw [q] at e2; cases w with
      | none=>cases e2
      | some w=>cases e2; rfl
    obtain ⟨y,a1,a2,a4⟩:=S.from_ i j ef
    have e1:N[i]? = some x:=e1
    rw [e1] at a1
    cases a1
    have a3:(x,NameKind.free) ∈ scope.names:=az4 a4
    have vis:gA X.env.scope x:=(S.free _ a3 rfl).elim (fun z=>.inr (.inl z)) fun z=>.inr (.inr z)
    obtain ⟨m0,hn0,hl0⟩:=I.loc
    obtain ⟨u,r,l⟩:=hl0 j x v a2 ej vis
    refine⟨u,r,.inr ⟨?_,?_⟩⟩
    ·have e3:(relabel scope X.env).names.lookup x=some .local ∨ (relabel scope X.env).names.lookup x=some .cell ∨ (relabel scope X.env).names.lookup x=some .free:=e3
     rcases e3 with z | z | z
     ·rcases lR z with y | y
      ·rw [a4] at y; cases y
      ·exact absurd y.2 (by decide)
     ·exact .inl z
     ·exact .inr z
    ·obtain ⟨c,hc⟩:=pG (cells:=X.env.cells) scope.names [] (x:=x) (.inl a3)
     refine⟨c,P9 (fun z=>by have:=S.own _ z rfl; rw [a4] at this; cases this) hc,?_⟩
     have hc':=cs hc
     have S1:=S.free (x,.free) a3 rfl
     rcases l with ⟨k,_⟩ | ⟨_,c2,hc2,z⟩
     ·have k:X.env.scope.names.lookup x=some .local:=k
      rcases S1 with q | q <;> (have q:X.env.scope.names.lookup x=_:=q; rw [k] at q; cases q)
     ·rw [hc'] at hc2; cases hc2
      obtain ⟨oc,ho,hd⟩:=z
      exact⟨oc,old c oc ho,hd⟩
 ·intro x c e
  rcases i4 e with a | ⟨_,a⟩
  ·exact⟨_,(hco.empty x c a).1⟩
  ·obtain ⟨v,oc,ho,hd⟩:=I.cell x c (cs a)
   exact⟨v,oc,old c oc ho,hd⟩
 ·show upd H D (.lst []) C=none
  rw [aN (aD7 hDC)]; exact I.hok.fresh hC
 ·intro x c e
  show upd H D (.lst []) c=none
  rcases i4 e with a | ⟨_,a⟩
  ·rw [aN (aD7 (Nat.lt_trans hDC (nge a)))]; exact I.hok.fresh (ay6 hC (aB7 (nge a)))
  ·have q:=cs a
   rw [aN (ay1 (av6 (clt q) hD))]
   exact I.freeC x c q
 ·exact I.hok.laid old hD ⟨ay4 _,[],0,.nil,hacc⟩
 ·show (dN fr σ).length=N.length
  unfold dN; rw [au8]; exact S.len
end
def gJ (X:Cx) (ifs:List Expr) (t:TT):Prop:=
 ∀ (pins:List (Addr × Obj)) (s:Shared) (σ:St) (H:Hp) (Q:Bool->Hp->Prop),a5 X pins σ H s->t σ H Q->
  wpAny (model X.prog X.w) X.A (forIn ifs true fun c r=>if r=true then do let ok <- isTrue c X.env (eval c X.env); pure (ForInStep.yield ok) else pure (ForInStep.yield r)) (TP X pins σ Q) X.xe s
def pJ:TT:=fun _ H Q=>Q true H
theorem uT {X:Cx}:gJ X [] pJ:=fun _ _ _ H _ I h=>wpAny_tests_nil ⟨H,I,h⟩
theorem Q2 {X:Cx}{c:Expr}{t:TT} (h:PT X c t):gJ X [c] t:=fun pins s σ H Q I hq=>wpAny_tests_one (h pins s σ H Q I hq)
section
variable {prog : Program} {w : World} {A : Around}
def pK (prog:Program) (w:World) (A:Around) (elt tg:Expr) (ifs:List Expr) (it acc:Value) (env:Env) (lost:Value->Shared->Prop) (stop next:Shared->Prop) (s:Shared):Prop:=
 let M:=model prog w
 let tests:Sem Bool:=forIn ifs true fun c r=>if r=true then do let ok <- isTrue c env (eval c env); pure (ForInStep.yield ok) else pure (ForInStep.yield r)
 let put:Shared->Prop:=wpAny M A (eval elt env) (fun x=>wpAny M A (call (.builtin "list.append") [acc,x]) (fun _=>next) lost) lost
 let taken:Value->Shared->Prop:=fun v=>wpAny M A (letOwnedTupleGo tg it v) (fun _=>wpAny M A (assign tg env v) (fun _=>wpAny M A tests (fun ok s'=>if ok=true then put s' else next s') lost) lost) lost
 wpAny M A (pyNext it) (fun r s'=>match r with
  | none=>stop s'
  | some v=>taken v s') lost s
theorem Q3 {R:Result->Shared->Prop}{s:Shared}{elt tg iter:Expr}{ifs:List Expr}{scope:Scope}{pos:Pos}{it acc:Value}{env:Env} (I:Nat->Shared->Prop)
  (turn:∀ n s,I n s->pK prog w A elt tg ifs it acc env (notedBy (model prog w) A env fun e=>R (.error e)) (R (.ok .next)) (fun s'=>∃ m,m < n/\I m s') s) (n:Nat) (h:I n s) :
  codeAny (model prog w) A (.compLoop (.ListComp elt [⟨tg,iter,ifs,0⟩] scope pos) 0 it acc env) R s:=by
 apply codeAny_loop rfl I _ n h
 intro k s1 h1
 change wpAny _ A ((compTurn _ 0 it acc env).onRaise (fun x=>do noteFrame x env; theTreesLotGoes x)) _ _ s1
 apply wpAny_noted
 rw [compTurn_list]
 have t:=turn k s1 h1
 unfold pK at t
 apply au5
 apply wpAny_standAt
 apply au5
 refine aC6 t (fun r s2 h2=>?_) fun _ _ z=>z
 cases r with
 | none=>exact au9 h2
 | some v=>
  apply au5
  refine aC6 h2 (fun _ s3 h3=>?_) fun _ _ z=>z
  apply au5
  refine aC6 h3 (fun _ s4 h4=>?_) fun _ _ z=>z
  apply au5
  refine aC6 h4 (fun ok s5 h5=>?_) fun _ _ z=>z
  cases ok with
  | false=>exact au9 ⟨rfl,h5⟩
  | true=>
   apply au5
   apply au5
   refine aC6 h5 (fun x s6 h6=>?_) fun _ _ z=>z
   apply au5
   exact aC6 h6 (fun _ s7 h7=>au9 (au9 ⟨rfl,h7⟩)) fun _ _ z=>z
end
def lU (g:TG) (tc:TT) (te:TE) (σ0:St) (J:It) (D:Addr) (Q:VK) (W:Nat->Nat->List V->Hp->Prop):Prop:=
 ∀ i m acc H',W i m acc H'->H' D=some (.lst acc)/\((J.stop i H'/\Q (.ref D) H') ∨ (J.go i H'/\∀ x H2,J.yld i H' x H2->g x σ0 H2 fun σ2 H3=>Wk σ0 σ2/\tc σ2 H3 fun b H4=>
  if b=true then te σ2 H4 fun v H5=>H5 D=some (.lst acc)/\acc.length < sizeLine/\∃ m',m' < m/\W (i+1) m' (acc ++ [v]) (upd H5 D (.lst (acc ++ [v]))) else ∃ m',m' < m/\W (i+1) m' acc H4))
def Q4 (wi:TI) (fr:List (Option Nat)) (g:TG) (tc:TT) (te:TE):TE:=fun σ H Q=>wi σ H fun J H1=>∀ D,H1 D=none->
 ∃ W:Nat->Nat->List V->Hp->Prop,(∃ m,W 0 m [] (upd H1 D (.lst [])))/\lU g tc te (dN fr σ) J D Q W
section
variable {M : Model} {A : Around} {E : Value → Shared → Prop} {s : Shared}
theorem Q5 {scope:Scope}{globals:Addr}{cl:List (Str × Addr)}{qual:Str}{func:Option Addr}{code:Value}{builtins:Addr}{outer:Env}{Q:Env->Shared->Prop}
  (hQ:∀ h',h'.Ns s.heap.objs.size (fun _=>none)->(∀ b o,s.heap.get? b=some o->h'.get? b=some o)->CellsOk h' (s.heap.objs.size+1) (cellsFrom (s.heap.objs.size+1) scope.names [])->
   Q (newEnv scope s.heap.objs.size globals (cellsFrom (s.heap.objs.size+1) scope.names cl) qual func code (some outer) builtins) { s with heap:=h' }) :
  wpAny M A (newFunctionEnv scope globals cl [] qual func code (some outer) builtins) Q E s:=by
 simp only [newFunctionEnv,Option.isSome_some,if_true]
 refine au5 (wpAny_alloc ?_)
 refine au5 (wpAny_layCells _ (fun name kind cells=>by cases hkc:kind == NameKind.cell <;> simp [hkc]) _ _ _ _ ?_)
 have ok:=cellsFrom_ok scope.names (s.heap.push { cls:=.type "dict",data:=.dict #[] }) (s.heap.objs.size+1) [] ⟨fun _ _ hm=>(nomatch hm),List.Pairwise.nil⟩ (by rw [aE5]; exact au7 _)
 rw [aE5] at ok
 rw [show ({ s with heap:=s.heap.push { cls:=.type "dict",data:=.dict #[] } }:Shared).heap.objs.size=s.heap.objs.size+1 from aE5 ..]
 rw [List.forIn_nil]
 refine au5 (au9 (au9 (hQ _ ((Heap.Ns.new s.heap (.type "dict")).keeps (pushCells_keeps _ _)) (fun b o e=>pushCells_keeps _ _ b o (au6 _ e)) ok)))
end
section
variable {X : Cx} {pins : List (Addr × Obj)} {σ : St} {H : Hp} {s : Shared} {scope : Scope} {N : List Str} {fr : List (Option Nat)} {tg iter elt : Expr} {ifs : List Expr} {pos : Pos} {wi : TI} {g : TG} {tc : TT} {te : TE}
structure iR (X:Cx) (scope:Scope) (N:List Str) (tg:Expr) (ifs:List Expr) (elt:Expr) (s:Shared) (H:Hp) (g:TG) (tc:TT) (te:TE):Prop where
 tg:∀ (C:Addr) (fp:List Addr),PG (bA X scope N s H C fp fun _ _=>False) tg g
 ifs:∀ (C:Addr) (fp:List Addr),gJ (bA X scope N s H C fp fun _ _=>False) ifs tc
 elt:∀ (C:Addr) (fp:List Addr),PE (bA X scope N s H C fp fun _ _=>False) elt te
structure pL (X:Cx) (scope:Scope) (N:List Str) (tg:Expr) (ifs:List Expr) (elt:Expr) (g:TG) (tc:TT) (te:TE):Prop where
 tg:∀ (s:Shared) (H:Hp) (C:Addr) (fp:List Addr),PG (bA X scope N s H C fp fun _ _=>False) tg g
 ifs:∀ (s:Shared) (H:Hp) (C:Addr) (fp:List Addr),gJ (bA X scope N s H C fp fun _ _=>False) ifs tc
 elt:∀ (s:Shared) (H:Hp) (C:Addr) (fp:List Addr),PE (bA X scope N s H C fp fun _ _=>False) elt te
theorem pL.at (B:pL X scope N tg ifs elt g tc te) (s:Shared) (H:Hp):iR X scope N tg ifs elt s H g tc te:=⟨B.tg s H,B.ifs s H,B.elt s H⟩
theorem Q6 {C:Addr}{fp:List Addr}{E:Value->Shared->Prop}{pins':List (Addr × Obj)}{σ':St}{H':Hp}{s':Shared} (I:a5 X pins σ H s) (hf:∀ b ∈ fp,e9 X pins H b) (I':a5 (bA X scope N s H C fp E) pins' σ' H' s'):a5 X pins σ H' s':=
 I.call' (ch:=fp) I'.os I'.base I'.hok I'.bare fun b hb=>⟨(hf b hb).2.2.2.1,(hf b hb).2.1,(hf b hb).2.2.2.2.1,(hf b hb).2.2.2.2.2⟩
theorem pM {Rr:Value->Addr->Result->Shared->Prop}{J:It}{fp:List Addr}{it:Addr}{tn:Nat->Heap->Prop}{Q:VK}
  (hc:X.calm=true) (S:cH X scope N fr) (B:iR X scope N tg ifs elt s H g tc te) (I:a5 X pins σ H s) (T:gD X.prog X.w X.K tg J fp it tn) (hst:tn 0 s.heap) (hf:∀ b ∈ fp,e9 X pins H b)
  (h:∀ D,H D=none->∃ W:Nat->Nat->List V->Hp->Prop,(∃ m,W 0 m [] (upd H D (.lst [])))/\lU g tc te (dN fr σ) J D Q W)
  (hend:∀ (D C:Addr) (s':Shared) (H':Hp) (m:Str->Option Value),s.heap.objs.size<=C->s.heap.objs.size<=D->a5 X pins σ H' s'->s'.heap.Ns C m->H' C=none->Q (.ref D) H'->Rr (.ref D) C (.ok .next) s') :
  wpAny (model X.prog X.w) X.A (newList []) (fun acc s₃=>wpAny (model X.prog X.w) X.A (newFunctionEnv scope X.env.globals (cP X.env.cells scope.names []) [] X.env.qual none .none (some X.env)) (fun cenv s₄=>
   codeAny (model X.prog X.w) X.A (.compStart (.ListComp elt [⟨tg,iter,ifs,0⟩] scope pos) 0 (.ref it) acc { cenv with scope:=relabel scope X.env }) (Rr acc cenv.locals) s₄) X.xe s₃) X.xe s:=by
 refine aB0 (Q5 (fun h₁ hns₁ keep₁ hco₁=>?_))
 dsimp only at hns₁ keep₁ hco₁ ⊢
 generalize hH2:s.heap.push { cls:=.type "list",dict:=none,data:=.seq ([]:List Value).toArray }=H2 at hns₁ keep₁ hco₁ ⊢
 have hC:H2.objs.size=s.heap.objs.size+1:=by rw [<- hH2,aE5]
 have hDC:s.heap.objs.size < H2.objs.size:=by rw [hC]; exact Nat.lt_succ_self _
 have hCle:s.heap.objs.size<=H2.objs.size:=by rw [hC]; exact Nat.le_succ _
 have old:∀ b o,s.heap.get? b=some o->h₁.get? b=some o:=fun b o e=>keep₁ b o (hH2 ▸ au6 _ e)
 have hacc:h₁.get? s.heap.objs.size=some { cls:=.type "list",data:=.seq #[] 0 }:=keep₁ _ _ (hH2 ▸ aw8 _ rfl)
 have hfl:∀ b ∈ fp,b < s.heap.objs.size:=fun b hb=>by obtain ⟨o,e,_⟩:=T.obj _ _ hst b hb; exact aw2 e
 obtain ⟨W,⟨m0,w0⟩,turn⟩:=h s.heap.objs.size (I.hok.fresh (au7 _))
 have st1:tn 0 h₁:=T.keep _ _ _ hst fun b _ o e=>old b o e
 have fr0:∀ b ∈ fp,upd H s.heap.objs.size (.lst []) b=none:=fun b hb=>by rw [aN (ay1 (hfl b hb))]; exact (hf b hb).1
 have stat:∀ {H':Hp},(∀ b ∈ fp,H' b=none)->∀ b ∈ fp,e9 (bA X scope N s H H2.objs.size fp fun _ _=>False) [] H' b:=fun {H'} hn b hb=>by
  have f:=hf b hb
  refine⟨hn b hb,ay1 (av6 (hfl b hb) hCle),fun z=>?_,.inl hb,fun x c e=>(i4 e).elim (fun z=>aD7 (Nat.lt_trans (av6 (hfl b hb) hCle) (hco₁.empty x c z).2)) fun z=>f.2.2.2.2.1 x c (lQ scope.names [] (S.cells I) (fun _ _ z=>by simp at z) z.2),fun p hp=>absurd (show p ∈ ([]:List (Addr × Obj)) from hp) (by simp)⟩
  rcases av8.mp (I.stkSub b z) with e | e
  ·exact f.2.1 e
  ·exact f.2.2.1 e
 generalize hX:bA X scope N s H H2.objs.size fp (fun _ _=>False)=Y at stat
 have I0:a5 Y [] (dN fr σ) (upd H s.heap.objs.size (.lst [])) { s with heap:=h₁ }:=hX ▸ Q0 S I hf hfl (au7 _) hCle hDC old hns₁ hacc hco₁
 have bt:PG Y tg g:=hX ▸ B.tg H2.objs.size fp
 have bi:gJ Y ifs tc:=hX ▸ B.ifs H2.objs.size fp
 have be:PE Y elt te:=hX ▸ B.elt H2.objs.size fp
 have eP:Y.prog=X.prog:=by rw [<- hX]; rfl
 have ew:Y.w=X.w:=by rw [<- hX]; rfl
 have eK:Y.K=X.K:=by rw [<- hX]; rfl
 have eA:Y.A=X.A:=by rw [<- hX]; rfl
 have eE:Y.env=compEnvC scope (eD X scope H2.objs.size) H2.objs.size X.env:=by rw [<- hX]; rfl
 have eX:Y.xe=fun _ _=>False:=by rw [<- hX]; rfl
 have ec:Y.calm=true:=by rw [<- hX]; exact hc
 have never:∀ {E:Value->Shared->Prop} (e:Value) (s':Shared),Y.xe e s'->E e s':=fun {E} e s' z=>by rw [eX] at z; exact z.elim
 have out:∀ {pins' σ' H' s'},a5 Y pins' σ' H' s'->a5 X pins σ H' s':=fun {_ _ _ _} I'=>Q6 (C:=H2.objs.size) (E:=fun _ _=>False) (scope:=scope) (N:=N) I hf (hX ▸ I')
 have loop:codeAny (model X.prog X.w) X.A (.compLoop (.ListComp elt [⟨tg,iter,ifs,0⟩] scope pos) 0 (.ref it) (.ref s.heap.objs.size) (compEnvC scope (eD X scope H2.objs.size) H2.objs.size X.env))
   (Rr (.ref s.heap.objs.size) H2.objs.size) { s with heap:=h₁ }:=by
  refine Q3 (fun n s'=>∃ i acc H',a5 Y [] (dN fr σ) H' s'/\tn i s'.heap/\(∀ b ∈ fp,H' b=none)/\W i n acc H') ?_ m0 ⟨0,[],_,I0,st1,fr0,w0⟩
  rintro n s3 ⟨i,acc,H3,I3,st3,fr3,w3⟩
  unfold pK
  dsimp only
  obtain ⟨hD3,step⟩:=turn i n acc H3 w3
  rcases step with ⟨stop,qn⟩ | ⟨go,step⟩
  ·have z:=T.done Y eP ew eK ec i [] s3 _ H3 (notedBy (model X.prog X.w) X.A (compEnvC scope (eD X scope H2.objs.size) H2.objs.size X.env) fun e s'=>Rr (.ref s.heap.objs.size) H2.objs.size (.error e) s') I3 (stat fr3) st3 stop
   rw [eA] at z
   refine aJ z fun r s4 ⟨hr,I4⟩=>?_
   subst hr
   obtain ⟨m4,hn4,_⟩:=I4.loc
   rw [eE] at hn4
   have f4:=I4.free
   rw [eE] at f4
   exact hend _ _ s4 H3 m4 hCle (au7 _) (out I4) hn4 f4 qn
  ·have z:=T.item Y eP ew eK ec i [] s3 _ H3 (notedBy (model X.prog X.w) X.A (compEnvC scope (eD X scope H2.objs.size) H2.objs.size X.env) fun e s'=>Rr (.ref s.heap.objs.size) H2.objs.size (.error e) s') I3 (stat fr3) st3 go
   rw [eA] at z
   refine aJ z fun r s4 ⟨u,hr,h4⟩=>?_
   subst hr
   refine aJ h4 fun _ s5 ⟨x,H5,I5,r5,y5,st5,fr5⟩=>?_
   have I5':=I5.pinned (stat fr5) (T.obj _ _ st5)
   have q1:=bt _ s5 _ H5 x u _ I5' r5 (step x H5 y5)
   rw [eP,ew,eA,eE] at q1
   refine aC6 q1 (fun _ s6 ⟨σ6,H6,I6,wk,q6⟩=>?_) never
   have q2:=bi _ s6 σ6 H6 _ I6 q6
   rw [eP,ew,eA,eE] at q2
   refine aC6 q2 (fun b s7 ⟨H7,I7,q7⟩=>?_) never
   have again:∀ {H8:Hp}{s8:Shared}{acc':List V},a5 Y ([] ++ jP fp s5.heap) σ6 H8 s8->(∃ m',m' < n/\W (i+1) m' acc' H8)->∃ m,m < n/\∃ i acc H',a5 Y [] (dN fr σ) H' s8/\tn i s8.heap/\(∀ b ∈ fp,H' b=none)/\W i m acc H':=fun {H8 s8 acc'} I8 n8=>by
    obtain ⟨m',hm,w8⟩:=n8
    refine⟨m',hm,i+1,acc',H8,(I8.unpinned).weak wk.1 wk.2,T.keep _ _ _ st5 fun b hb o e=>(I8.pin (b,o) (ax9 _ (ax9 _ (lF hb e)))).1,fun b hb=>?_,w8⟩
    obtain ⟨o,e,d⟩:=T.obj _ _ st5 b hb
    exact (I8.pin (b,o) (ax9 _ (ax9 _ (lF hb e)))).2.1
   cases b with
   | false=>
    rw [if_neg aw0] at q7 ⊢
    exact again I7 q7
   | true=>
    rw [if_pos rfl] at q7 ⊢
    have q3:=be _ s7 σ6 H7 _ I7 q7
    rw [eP,ew,eA,eE] at q3
    refine aC6 q3 (fun v s8 ⟨y,H8,I8,r8,hD8,hz8,q8⟩=>?_) never
    have q4:=jV _ s8 σ6 H8 (.ref s.heap.objs.size) [y] (.ref s.heap.objs.size) [v] (fun _ H9=>∃ m',m' < n/\W (i+1) m' (acc ++ [y]) H9) I8 rfl (.cons r8 .nil) ⟨_,_,_,rfl,rfl,hD8,hz8,q8⟩
    rw [eP,ew,eA] at q4
    exact aC6 q4 (fun _ s9 ⟨_,H9,I9,_,q9⟩=>again I9 q9) never
 exact codeAny_compStart_list loop (T.self _ 0 _ _ _ st1 loop)
end
section
variable {X : Cx} {scope : Scope} {N : List Str} {fr : List (Option Nat)} {tg iter elt : Expr} {ifs : List Expr} {pos : Pos} {wi : TI} {g : TG} {tc : TT} {te : TE}
theorem a5.drop {pins:List (Addr × Obj)}{σ:St}{H H':Hp}{s s':Shared}{C:Addr}{h':Heap} (I0:a5 X pins σ H s) (hC:s.heap.objs.size<=C) {σ':St} (I:a5 X pins σ' H' s') (hn:H' C=none) (sb:Heap.SameBut C s'.heap h'):a5 X pins σ' H' { s' with heap:=h' }:=by
 refine I.turned (t':=s'.toks) (it:=C) (fun b o hb e=>(sb.2 b hb).trans e) hn (aD7 (av6 I0.lt hC)) (.inr (ay6 I0.sz hC)) (fun x c e z=>?_) fun p hp z=>?_
 ·obtain ⟨v,q⟩:=I0.cell x c e
  exact absurd (av6 q.lt (by rw [z]; exact hC)) (az5 _)
 ·exact absurd (av6 (aw2 (I0.pin p hp).1) (by rw [z]; exact hC)) (az5 _)
theorem Q7 {i:Nat}{x:Str}{px spos:Pos} (hc:X.calm=true) (S:cH X scope N fr) (hi:PI X tg iter wi) (B:pL X scope N tg ifs elt g tc te) (hN:X.N.Nodup) (hix:X.N[i]? = some x) (hx:X.env.scope.names.lookup x=some .local)
  (hsw:swapsWith (.ListComp elt [⟨tg,iter,ifs,0⟩] scope pos) (some (.Name x px)) spos.line X.env=pure true) (hs:∀ x,foldedSetIterable iter X.env x=pure x:=by intro _; rfl) :
  PS X (.Assign [.Name x px] (.ListComp elt [⟨tg,iter,ifs,0⟩] scope pos) spos) (jM (Q4 wi fr g tc te) (cO i)):=by
 intro pins s σ H D I h
 rw [exec_Assign_Name_used _ _ _ _ hsw]
 refine au5 (wpAny_standAt (au5 ?_))
 show wpAny _ _ (do let _ <- comprehension (.ListComp elt [⟨tg,iter,ifs,0⟩] scope pos) scope X.env _ (newList []) false (eval iter X.env) (some (assign (.Name x px) X.env))) _ _ s
 refine au5 (aC6 (wpAny_comprehension_free (Q:=fun _ s'=>SP X pins D .next s') (use:=some (assign (.Name x px) X.env)) rfl hs (pF (S.cells I)) S.kind S.names (aJ (hi pins s σ H _ I h) fun v s1 h1=>aJ h1 fun itv s2 h2=>?_))
  (fun _ s' hq=>au9 (au9 hq)) fun _ _ e=>e)
 obtain ⟨it,fp,tn,J,H2,e,I2,T,st2,f2,hW⟩:=h2
 subst e
 refine pM (Rr:=fun acc C=>compPost (model X.prog X.w) X.A X.xe (some (assign (.Name x px) X.env)) (fun _ s'=>SP X pins D .next s') acc C) hc S (B.at _ _) I2 T st2 f2 hW ?_
 intro D' C s' H' m hC hD I' hns hHC q
 refine wpAny_assign_Name (oG I' hN hix (.inl hx) (v:=.ref D') rfl (fun s'' I'' sb=>?_) (.inr hx))
 obtain ⟨a,sb,ha⟩:=sb
 have hCa:C ≠ a:=by
  rcases ha with z | z
  ·rw [z]; exact aD7 (av6 I2.lt hC)
  ·intro e; subst e
   obtain ⟨v,q⟩:=I2.cell x _ z
   exact absurd (av6 q.lt hC) (az5 _)
 exact⟨m,hns.sameBut sb hCa,fun h' sb'=>⟨_,H',I2.drop hC I'' hHC sb',q⟩⟩
variable {gh : Hp → TG} {tch : Hp → TT} {teh : Hp → TE}
def pN (wi:TI) (fr:List (Option Nat)) (gh:Hp->TG) (tch:Hp->TT) (teh:Hp->TE):TE:=fun σ H Q=>wi σ H fun J H1=>∀ D,H1 D=none->
 ∃ W:Nat->Nat->List V->Hp->Prop,(∃ m,W 0 m [] (upd H1 D (.lst [])))/\lU (gh H1) (tch H1) (teh H1) (dN fr σ) J D Q W
theorem pO (hc:X.calm=true) (S:cH X scope N fr) (hi:PI X tg iter wi) (B:∀ (s:Shared) (H:Hp),iR X scope N tg ifs elt s H (gh H) (tch H) (teh H))
  (hs:∀ x,foldedSetIterable iter X.env x=pure x:=by intro _; rfl):PE X (.ListComp elt [⟨tg,iter,ifs,0⟩] scope pos) (pN wi fr gh tch teh):=by
 intro pins s σ H Q I h
 rw [eval_ListComp]
 refine wpAny_comprehension_free (use:=none) rfl hs (pF (S.cells I)) S.kind S.names (aJ (hi pins s σ H _ I h) fun v s1 h1=>aJ h1 fun itv s2 h2=>?_)
 obtain ⟨it,fp,tn,J,H2,e,I2,T,st2,f2,hW⟩:=h2
 subst e
 refine pM (Rr:=fun acc C=>compPost (model X.prog X.w) X.A X.xe none (EP X pins σ Q) acc C) hc S (B _ _) I2 T st2 f2 hW ?_
 intro D C s' H' m hC hD I' hns hHC q
 exact⟨m,hns,fun h' sb=>⟨.ref D,H',I2.drop hC I' hHC sb,rfl,q⟩⟩
theorem Q8 {i:Nat}{x:Str}{px spos:Pos} (hc:X.calm=true) (S:cH X scope N fr) (hi:PI X tg iter wi) (B:∀ (s:Shared) (H:Hp),iR X scope N tg ifs elt s H (gh H) (tch H) (teh H)) (hN:X.N.Nodup) (hix:X.N[i]? = some x) (hx:X.env.scope.names.lookup x=some .local)
  (hsw:swapsWith (.ListComp elt [⟨tg,iter,ifs,0⟩] scope pos) (some (.Name x px)) spos.line X.env=pure true) (hs:∀ x,foldedSetIterable iter X.env x=pure x:=by intro _; rfl) :
  PS X (.Assign [.Name x px] (.ListComp elt [⟨tg,iter,ifs,0⟩] scope pos) spos) (jM (pN wi fr gh tch teh) (cO i)):=by
 intro pins s σ H D I h
 rw [exec_Assign_Name_used _ _ _ _ hsw]
 refine au5 (wpAny_standAt (au5 ?_))
 show wpAny _ _ (do let _ <- comprehension (.ListComp elt [⟨tg,iter,ifs,0⟩] scope pos) scope X.env _ (newList []) false (eval iter X.env) (some (assign (.Name x px) X.env))) _ _ s
 refine au5 (aC6 (wpAny_comprehension_free (Q:=fun _ s'=>SP X pins D .next s') (use:=some (assign (.Name x px) X.env)) rfl hs (pF (S.cells I)) S.kind S.names (aJ (hi pins s σ H _ I h) fun v s1 h1=>aJ h1 fun itv s2 h2=>?_))
  (fun _ s' hq=>au9 (au9 hq)) fun _ _ e=>e)
 obtain ⟨it,fp,tn,J,H2,e,I2,T,st2,f2,hW⟩:=h2
 subst e
 refine pM (Rr:=fun acc C=>compPost (model X.prog X.w) X.A X.xe (some (assign (.Name x px) X.env)) (fun _ s'=>SP X pins D .next s') acc C) hc S (B _ _) I2 T st2 f2 hW ?_
 intro D' C s' H' m hC hD I' hns hHC q
 refine wpAny_assign_Name (oG I' hN hix (.inl hx) (v:=.ref D') rfl (fun s'' I'' sb=>?_) (.inr hx))
 obtain ⟨a,sb,ha⟩:=sb
 have hCa:C ≠ a:=by
  rcases ha with z | z
  ·rw [z]; exact aD7 (av6 I2.lt hC)
  ·intro e; subst e
   obtain ⟨v,q⟩:=I2.cell x _ z
   exact absurd (av6 q.lt hC) (az5 _)
 exact⟨m,hns.sameBut sb hCa,fun h' sb'=>⟨_,H',I2.drop hC I'' hHC sb',q⟩⟩
end
theorem aT {H:Hp}{p:Addr} (h:H p=none) (o:HO):a8 H (upd H p o):=fun b u q=>by rw [aN (cE q h)]; exact q
theorem a8.tup {K:PySem.W.Frag}{H H':Hp}{a:Addr}{xs:List V} (e:a8 H H') (h:aC K H a xs):aC K H' a xs:=by
 rcases h with (h | ⟨o,h⟩) | h
 ·exact .inl (.inl (e _ _ h))
 ·exact .inl (.inr ⟨o,e _ _ h⟩)
 ·exact .inr h
structure uU (H:Hp) (J:It) (xs:List V):Prop where
 go:∀ i H',a8 H H'->i < xs.length->J.go i H'
 yld:∀ i H' x H2,a8 H H'->J.yld i H' x H2->i < xs.length->xs[i]? = some x/\H2=H'
 stop:∀ H',a8 H H'->J.stop xs.length H'
theorem Q9 {K:PySem.W.Frag}{H:Hp}{a:Addr}{xs:List V} (h:aC K H a xs):uU H (jN K a) xs:=
 ⟨fun i H' e hi=>⟨xs,xs[i],e.tup h,by simp [hi]⟩,fun i H' x H2 e y hi=>⟨y.2 xs (e.tup h),y.1⟩,fun H' e=>⟨xs,e.tup h,au7 _⟩⟩
def CW (H1:Hp) (D:Addr) (n:Nat) (Pv:Nat->List V->Hp->Prop):Nat->Nat->List V->Hp->Prop:=fun i m acc H'=>m=n - i/\i<=n/\acc.length<=i/\a8 H1 H'/\H' D=some (.lst acc)/\Pv i acc H'
def uV (H1:Hp) (D:Addr) (n:Nat) (Pv:Nat->List V->Hp->Prop) (i:Nat) (acc:List V) (v:V) (H5:Hp):Prop:=H5 D=some (.lst acc)/\acc.length < sizeLine/\∃ m',m' < n - i/\CW H1 D n Pv (i+1) m' (acc ++ [v]) (upd H5 D (.lst (acc ++ [v])))
def R4 (H1:Hp) (D:Addr) (n:Nat) (Pv:Nat->List V->Hp->Prop) (i:Nat) (acc:List V) (H4:Hp):Prop:=∃ m',m' < n - i/\CW H1 D n Pv (i+1) m' acc H4
structure pP (H1:Hp) (D:Addr) (n i:Nat) (acc:List V) (H':Hp):Prop where
 lt:i < n
 few:acc.length<=i
 sz:n<=sizeLine
 same:a8 H1 H'
 new:H1 D=none
 acc:H' D=some (.lst acc)
theorem pP.yes {H1:Hp}{D:Addr}{n i:Nat}{acc:List V}{H' H5:Hp}{Pv:Nat->List V->Hp->Prop}{v:V} (c:pP H1 D n i acc H') (s:a8 H' H5) (p:Pv (i+1) (acc ++ [v]) (upd H5 D (.lst (acc ++ [v])))):uV H1 D n Pv i acc v H5:=by
 refine⟨s _ _ c.acc,Nat.lt_of_le_of_lt c.few (av6 c.lt c.sz),_,?_,rfl,c.lt,?_,fun b o e=>?_,aZ,p⟩
 ·have:=c.lt; omega
 ·rw [aw4,aC9]; exact Nat.succ_le_succ c.few
 ·rw [aN (cE e c.new)]; exact s _ _ (c.same _ _ e)
theorem R5 {H1:Hp}{J:It}{xs:List V}{g:TG}{tc:TT}{te:TE}{σ0:St}{Q:VK} (O:uU H1 J xs) (Pv:Nat->List V->Hp->Prop) (hn:xs.length<=sizeLine)
  (h0:∀ D,H1 D=none->Pv 0 [] (upd H1 D (.lst [])))
  (hs:∀ i x acc D H',xs[i]? = some x->pP H1 D xs.length i acc H'->Pv i acc H'->g x σ0 H' fun σ2 H3=>Wk σ0 σ2/\tc σ2 H3 fun b H4=>
   if b=true then te σ2 H4 fun v H5=>uV H1 D xs.length Pv i acc v H5 else R4 H1 D xs.length Pv i acc H4)
  (hd:∀ D acc H',H1 D=none->a8 H1 H'->H' D=some (.lst acc)->acc.length<=xs.length->Pv xs.length acc H'->Q (.ref D) H') :
  ∀ D,H1 D=none->∃ W:Nat->Nat->List V->Hp->Prop,(∃ m,W 0 m [] (upd H1 D (.lst [])))/\lU g tc te σ0 J D Q W:=by
 intro D hD
 refine⟨CW H1 D xs.length Pv,⟨xs.length,rfl,ay4 _,au7 _,aT hD _,aZ,h0 D hD⟩,?_⟩
 rintro i m acc H' ⟨rfl,hi,ha,sm,hDa,p⟩
 refine⟨hDa,?_⟩
 by_cases hlt:i < xs.length
 ·refine .inr ⟨O.go i H' sm hlt,fun x H2 y=>?_⟩
  obtain ⟨hx,e⟩:=O.yld i H' x H2 sm y hlt
  subst e
  exact hs i x acc D H2 hx ⟨hlt,ha,hn,sm,hD,hDa⟩ p
 ·have e:i=xs.length:=by omega
  subst e
  exact .inl ⟨O.stop H' sm,hd D acc H' hD sm hDa ha p⟩
end L2
namespace Srt
open PySem PySem.W PyProof.Rows
abbrev G (p:Array Nat) (i:Nat):Nat:=p.getD i 0
theorem jX {p q:Array Nat}{i j:Nat} (h:p[i]? = q[j]?):G p i=G q j:=by
 unfold G; rw [aD6,aD6,h]
theorem pQ {p:Array Nat}{i j:Nat} (hj:j<=p.size) (k:Nat):G (kas_rev p i j) k=if i<=k/\k < j then G p (i+j - 1 - k) else G p k:=by
 have e:=getElem?_mirror_all (i:=i) hj k
 unfold kas_rev
 by_cases h1:i<=k/\k < j
 ·rw [if_pos h1] at e ⊢; exact jX e
 ·rw [if_neg h1] at e ⊢; exact jX e
theorem R6 {p:Array Nat}{src d:Nat} (hs:src < p.size) (hd:d<=src) (k:Nat):G (bubble p src d) k=if k=src - d then G p src else if src - d < k/\k<=src then G p (k - 1) else G p k:=by
 have e:=getElem?_bubble hs d hd k
 by_cases h1:k=src - d
 ·rw [if_pos h1] at e ⊢; exact jX e
 ·rw [if_neg h1] at e ⊢
  by_cases h2:src - d < k/\k<=src
  ·rw [if_pos h2] at e ⊢; exact jX e
  ·rw [if_neg h2] at e ⊢; exact jX e
def PP (n:Nat) (p:Array Nat):Prop:=p.toList.Perm (List.range n)
theorem PP.size {n:Nat}{p:Array Nat} (h:PP n p):p.size=n:=by
 have:=h.length_eq
 rw [aG6] at this
 simpa using this
theorem PP.lt {n:Nat}{p:Array Nat} (h:PP n p) {k:Nat} (hk:k < n):G p k < n:=by
 have hs:=h.size
 have hk':k < p.toList.length:=by simpa [hs] using hk
 have e:G p k=p.toList[k]:=by
  unfold G; rw [aD6]; simp [hs,hk]
 have m:p.toList[k] ∈ p.toList:=aC1 hk'
 rw [e]
 exact List.mem_range.mp (h.mem_iff.mp m)
theorem PP.of {n:Nat}{p q:Array Nat} (h:PP n p) (e:q.Perm p):PP n q:=(Array.perm_iff_toList_perm.mp e).trans h
theorem PP.rev {n:Nat}{p:Array Nat} (h:PP n p) (i j:Nat):PP n (kas_rev p i j):=h.of (mirror_perm _ _ _ _)
theorem PP.bub {n:Nat}{p:Array Nat} (h:PP n p) (i j:Nat):PP n (bubble p i j):=h.of (bubble_perm _ _ _)
structure pR (c:Nat->Nat->Bool):Prop where
 asym:∀ {i j},c i j=true->c j i=false
 ntr:∀ {i j k},c i j=false->c j k=false->c i k=false
section
variable {c : Nat → Nat → Bool} (O : pR c)
def Le (c:Nat->Nat->Bool) (i j:Nat):Prop:=c j i=false
include O
theorem le_refl (i:Nat):Le c i i:=by
 unfold Le
 cases h:c i i with
 | false=>rfl
 | true=>have:=O.asym h; rw [h] at this; exact this
theorem le_trans {i j k:Nat} (h1:Le c i j) (h2:Le c j k):Le c i k:=O.ntr h2 h1
theorem lV {i j:Nat} (h:c i j=true):Le c i j:=O.asym h
omit O
def dO (c:Nat->Nat->Bool) (p:Array Nat) (n:Nat):Prop:=∀ a b,a<=b->b < n->Le c (G p a) (G p b)
def gK (c:Nat->Nat->Bool) (p:Array Nat) (n:Nat):Prop:=∀ a b,a<=b->b < n->Le c (G p b) (G p a)
include O
theorem R7 {p:Array Nat}{n:Nat} (h:dO c p n) (h1:1<=n) (hl:Le c (G p (n - 1)) (G p n)):dO c p (n+1):=fun a b hab hb=>by
 by_cases hbn:b < n
 ·exact h a b hab hbn
 ·have e:b=n:=by omega
  subst e
  by_cases han:a=b
  ·subst han; exact le_refl O _
  ·exact le_trans O (h a (b - 1) (by omega) (by omega)) hl
theorem lW {p:Array Nat}{n:Nat} (h:gK c p n) (h1:1<=n) (hl:Le c (G p n) (G p (n - 1))):gK c p (n+1):=fun a b hab hb=>by
 by_cases hbn:b < n
 ·exact h a b hab hbn
 ·have e:b=n:=by omega
  subst e
  by_cases han:a=b
  ·subst han; exact le_refl O _
  ·exact le_trans O hl (h a (b - 1) (by omega) (by omega))
omit O
def bE {α:Type} (n:Nat) (c:Nat->Nat->Bool) (R:α->Prop):KasT α->Prop
 | .ret a=>R a
 | .ask i j k=>i < n/\j < n/\bE n c R (k (c i j))
theorem bE.mono {α:Type}{n:Nat}{R R':α->Prop} (h:∀ a,R a->R' a):∀ (t:KasT α),bE n c R t->bE n c R' t
 | .ret a,q=>h a q
 | .ask i j k,q=>⟨q.1,q.2.1,bE.mono h (k (c i j)) q.2.2⟩
theorem bE.bind {α β:Type}{n:Nat}{R:α->Prop}{R':β->Prop}{f:α->KasT β} (h:∀ a,R a->bE n c R' (f a)):∀ (t:KasT α),bE n c R t->bE n c R' (t.bind f)
 | .ret a,q=>h a q
 | .ask i j k,q=>⟨q.1,q.2.1,bE.bind h (k (c i j)) q.2.2⟩
theorem bE.run {α:Type}{n:Nat}{R:α->Prop}{I:Shared->Prop}{cmp:Nat->Nat->(Bool->Shared->Prop)->Shared->Prop}{Q:α->Shared->Prop}
  (hc:∀ i j C s,i < n->j < n->I s->(∀ s',I s'->C (c i j) s')->cmp i j C s) (hQ:∀ a s,R a->I s->Q a s):∀ (t:KasT α) (s:Shared),I s->bE n c R t->t.kasWp cmp Q s
 | .ret a,s,hI,q=>hQ a s q hI
 | .ask i j k,s,hI,q=>hc i j _ s q.1 q.2.1 hI fun s' hI'=>bE.run hc hQ (k (c i j)) s' hI' q.2.2
include O
theorem pS {n:Nat}{p:Array Nat} (hp:PP n p):∀ (f m:Nat),1<=m->m+f<=n->dO c p m->bE n c (fun r=>m<=r/\r<=m+f/\dO c p r/\(r < m+f->c (G p r) (G p (r - 1))=true)) (kas_asc p f m)
 | 0,m,_,_,h=>⟨au7 _,au7 _,h,fun z=>absurd z (az5 _)⟩
 | f+1,m,h1,h2,h=>by
  refine⟨hp.lt (by omega),hp.lt (by omega),?_⟩
  by_cases hc:c (p.getD m 0) (p.getD (m - 1) 0)=true
  ·simp only [hc,if_true]
   exact⟨au7 _,by omega,h,fun _=>hc⟩
  ·have hc':c (p.getD m 0) (p.getD (m - 1) 0)=false:=aF0.mpr hc
   simp only [hc',aw9,aA3]
   refine bE.mono (fun r q=>⟨by omega,by omega,q.2.2.1,fun z=>q.2.2.2 (by omega)⟩) _ (pS hp f (m+1) (by omega) (by omega) (R7 O h h1 hc'))
omit O
def i5 (c:Nat->Nat->Bool) (i j:Nat):Prop:=Le c i j/\Le c j i
include O
theorem pT {p q:Array Nat}{n:Nat} (h:gK c p n) (e:∀ k,k < n->i5 c (G q k) (G p k)):gK c q n:=fun a b hab hb=>
 le_trans O (e b hb).1 (le_trans O (h a b hab hb) (e a (by omega)).2)
theorem uW {n m i:Nat}{p:Array Nat} (hp:PP n p) (hm:m<=n) (h:∀ a,i<=a->a < m->i5 c (G p a) (G p (m - 1))):∀ k,i5 c (G (kas_rev p i m) k) (G p k):=fun k=>by
 rw [pQ (by rw [hp.size]; exact hm)]
 by_cases hk:i<=k/\k < m
 ·rw [if_pos hk]
  have h1:=h (i+m - 1 - k) (by omega) (by omega)
  have h2:=h k hk.1 hk.2
  exact⟨le_trans O h1.1 h2.2,le_trans O h2.1 h1.2⟩
 ·rw [if_neg hk]; exact⟨le_refl O _,le_refl O _⟩
omit O
def DI (c:Nat->Nat->Bool) (n:Nat) (p:Array Nat) (m q:Nat):Prop:=PP n p/\1<=m/\m<=n/\gK c p m/\q+1<=m/\∀ a,m - (q+1)<=a->a < m->i5 c (G p a) (G p (m - 1))
include O
theorem uX {n m q:Nat}{p:Array Nat} (h:DI c n p m q):PP n (kas_rev p (m - (q+1)) m)/\∀ k,i5 c (G (kas_rev p (m - (q+1)) m) k) (G p k):=
 ⟨h.1.rev _ _,uW O h.1 h.2.2.1 h.2.2.2.2.2⟩
theorem lX {n:Nat}:∀ (f:Nat) (p:Array Nat) (m q:Nat),m+f<=n->DI c n p m q->bE n c (fun r=>DI c n r.1 r.2.1 r.2.2) (kas_desc f p m q)
 | 0,p,m,q,_,h=>h
 | f+1,p,m,q,hf,h=>by
  have hp:=h.1
  have h1:=h.2.1
  refine⟨hp.lt (by omega),hp.lt (by omega),?_⟩
  by_cases hc:c (p.getD m 0) (p.getD (m - 1) 0)=true
  ·simp only [hc,if_true]
   have dn:gK c p (m+1):=lW O h.2.2.2.1 h1 (lV O hc)
   by_cases hq:q > 0
   ·simp only [hq,if_true]
    obtain ⟨pr,er⟩:=uX O h
    refine lX f _ (m+1) 0 (by omega) ⟨pr,by omega,by omega,pT O dn fun k _=>er k,by omega,fun a h1 h2=>?_⟩
    have e:a=m+1 - 1:=by omega
    rw [e]; exact⟨le_refl O _,le_refl O _⟩
   ·simp only [hq,aA3]
    refine lX f p (m+1) 0 (by omega) ⟨hp,by omega,by omega,dn,by omega,fun a h1 h2=>?_⟩
    have e:a=m+1 - 1:=by omega
    rw [e]; exact⟨le_refl O _,le_refl O _⟩
  ·have hc':c (p.getD m 0) (p.getD (m - 1) 0)=false:=aF0.mpr hc
   simp only [hc',aw9,aA3]
   refine⟨hp.lt (by omega),hp.lt (by omega),?_⟩
   by_cases hd:c (p.getD (m - 1) 0) (p.getD m 0)=true
   ·simp only [hd,if_true]
    exact h
   ·have hd':c (p.getD (m - 1) 0) (p.getD m 0)=false:=aF0.mpr hd
    simp only [hd',aw9,aA3]
    have ee:i5 c (G p (m - 1)) (G p m):=⟨hc',hd'⟩
    refine lX f p (m+1) (q+1) (by omega) ⟨hp,by omega,by omega,lW O h.2.2.2.1 h1 ee.2,by have:=h.2.2.2.2.1; omega,fun a h1 h2=>?_⟩
    rw [Nat.add_sub_cancel]
    by_cases ha:a=m
    ·rw [ha]; exact⟨le_refl O _,le_refl O _⟩
    ·have z:=h.2.2.2.2.2 a (by omega) (by omega)
     exact⟨le_trans O z.1 ee.1,le_trans O ee.2 z.2⟩
omit O
def CI (c:Nat->Nat->Bool) (n:Nat) (r:Nat × Array Nat):Prop:=PP n r.2/\1<=r.1/\r.1<=n/\dO c r.2 r.1
include O
theorem uY {n m:Nat}{p:Array Nat} (hp:PP n p) (h1:1<=m) (hm:m<=n) (h:gK c p m):bE n c (CI c n) (kas_tail3 m n p):=by
 have ha:dO c (kas_rev p 0 m) m:=fun a b hab hb=>by
  rw [pQ (by rw [hp.size]; exact hm),pQ (by rw [hp.size]; exact hm),if_pos ⟨ay4 _,by omega⟩,if_pos ⟨ay4 _,hb⟩]
  exact h _ _ (by omega) (by omega)
 refine bE.bind (R:=fun r=>m<=r/\r<=m+(n - m)/\dO c (kas_rev p 0 m) r/\_) (fun r q=>?_) _ (pS O (hp.rev 0 m) (n - m) m h1 (by omega) ha)
 exact⟨hp.rev _ _,by have:=q.1; omega,by have:=q.2.1; omega,q.2.2.1⟩
theorem uZ {n m:Nat}{p:Array Nat} (hp:PP n p) (h1:1<=m) (hm:m+1<=n) (h:gK c p (m+1)):bE n c (CI c n) (kas_descPart m n p):=by
 refine bE.bind (R:=fun r=>DI c n r.1 r.2.1 r.2.2) (fun r q=>?_) _ (lX O (n - (m+1)) p (m+1) 0 (by omega) ⟨hp,by omega,hm,h,by omega,fun a h1 h2=>?_⟩)
 ·by_cases hq:r.2.2 > 0
  ·rw [if_pos hq]
   obtain ⟨pr,er⟩:=uX O q
   exact uY O pr q.2.1 q.2.2.1 (pT O q.2.2.2.1 fun k _=>er k)
  ·rw [if_neg hq]
   exact uY O q.1 q.2.1 q.2.2.1 q.2.2.2.1
 ·have e:a=m+1 - 1:=by omega
  rw [e]; exact⟨le_refl O _,le_refl O _⟩
theorem R8 {n:Nat}{p:Array Nat} (hp:PP n p) (hn:1<=n):bE n c (CI c n) (kas_count n p):=by
 have a1:dO c p 1:=fun a b hab hb=>by
  have e1:a=0:=by omega
  have e2:b=0:=by omega
  rw [e1,e2]; exact le_refl O _
 refine bE.bind (R:=fun r=>1<=r/\r<=1+(n - 1)/\dO c p r/\(r < 1+(n - 1)->c (G p r) (G p (r - 1))=true)) (fun m q=>?_) _ (pS O hp (n - 1) 1 (au7 _) (by omega) a1)
 obtain ⟨q1,q2,q3,q4⟩:=q
 by_cases hm:(m == n)=true
 ·rw [if_pos hm]
  exact⟨hp,q1,by omega,q3⟩
 ·rw [if_neg hm]
  have hne:m ≠ n:=by simpa using hm
  have hc:=q4 (by omega)
  by_cases h1:m > 1
  ·rw [if_pos h1]
   refine⟨hp.lt (by omega),hp.lt (by omega),?_⟩
   by_cases hd:c (p.getD 0 0) (p.getD (m - 1) 0)=true
   ·simp only [hd,if_true]
    exact⟨hp,q1,by omega,q3⟩
   ·have hd':c (p.getD 0 0) (p.getD (m - 1) 0)=false:=aF0.mpr hd
    simp only [hd',aw9,aA3]
    have eq:∀ a,0<=a->a < m->i5 c (G p a) (G p (m - 1)):=fun a _ ha=>⟨q3 a (m - 1) (by omega) (by omega),le_trans O hd' (q3 0 a (ay4 _) ha)⟩
    have er:=uW O hp (by omega:m<=n) eq
    refine uZ O (hp.rev 0 m) q1 (by omega) (pT O (p:=p) ?_ fun k _=>er k)
    refine lW O (fun a b hab hb=>?_) q1 (lV O hc)
    exact le_trans O (eq b (ay4 _) hb).1 (eq a (ay4 _) (by omega)).2
  ·rw [if_neg h1]
   have e:m=1:=by omega
   subst e
   refine uZ O hp (au7 _) (by omega) (lW O (fun a b hab hb=>?_) (au7 _) (lV O hc))
   have e1:a=0:=by omega
   have e2:b=0:=by omega
   rw [e1,e2]; exact le_refl O _
theorem pU {n k:Nat}{p:Array Nat} (hp:PP n p) (hk:k < n) (ha:dO c p k):∀ (f l r:Nat),l<=r->r<=k->r - l<=f->(∀ a,a < l->Le c (G p a) (G p k))->(∀ a,r<=a->a < k->Le c (G p k) (G p a))->
  bE n c (fun l=>l<=k/\(∀ a,a < l->Le c (G p a) (G p k))/\∀ a,l<=a->a < k->Le c (G p k) (G p a)) (kas_place p k f l r)
 | 0,l,r,h1,h2,h3,hl,hr=>⟨by omega,hl,fun a h4 h5=>hr a (by omega) h5⟩
 | f+1,l,r,h1,h2,h3,hl,hr=>by
  unfold kas_place
  by_cases hlr:l >= r
  ·rw [if_pos hlr]
   exact⟨by omega,hl,fun a h4 h5=>hr a (by omega) h5⟩
  ·rw [if_neg hlr]
   refine⟨hp.lt hk,hp.lt (by omega),?_⟩
   by_cases hc:c (p.getD k 0) (p.getD ((l+r) / 2) 0)=true
   ·simp only [hc,if_true]
    exact pU hp hk ha f l ((l+r) / 2) (by omega) (by omega) (by omega) hl fun a h4 h5=>le_trans O (lV O hc) (ha _ _ h4 h5)
   ·have hc':c (p.getD k 0) (p.getD ((l+r) / 2) 0)=false:=aF0.mpr hc
    simp only [hc',aw9,aA3]
    exact pU hp hk ha f ((l+r) / 2+1) r (by omega) h2 (by omega) (fun a h4=>le_trans O (ha a ((l+r) / 2) (by omega) (by omega)) hc') hr
theorem v3 {n:Nat}:∀ (f:Nat) (p:Array Nat) (k:Nat),PP n p->k+f<=n->dO c p k->bE n c (fun q=>PP n q/\dO c q (k+f)) (kas_bin f p k)
 | 0,p,k,hp,_,h=>⟨hp,h⟩
 | f+1,p,k,hp,hk,h=>by
  refine bE.bind (R:=fun l=>l<=k/\(∀ a,a < l->Le c (G p a) (G p k))/\∀ a,l<=a->a < k->Le c (G p k) (G p a)) (fun l q=>?_) _ (pU O hp (by omega) h k 0 k (ay4 _) (au7 _) (by omega) (fun a z=>absurd z (Nat.not_lt_zero _)) fun a h1 h2=>absurd h2 (by omega))
  obtain ⟨q1,q2,q3⟩:=q
  have e:∀ a,G (bubble p k (k - l)) a=if a=l then G p k else if l < a/\a<=k then G p (a - 1) else G p a:=fun a=>by
   rw [R6 (by rw [hp.size]; omega) (by omega),show k - (k - l)=l by omega]
  refine bE.mono (fun r z=>⟨z.1,by rw [show k+(f+1)=k+1+f by omega]; exact z.2⟩) _ (v3 f _ (k+1) (hp.bub _ _) (by omega) fun a b hab hb=>?_)
  rw [e,e]
  by_cases ha:a=l
  ·rw [if_pos ha]
   by_cases hb':b=l
   ·rw [if_pos hb']; exact le_refl O _
   ·rw [if_neg hb',if_pos (by omega)]; exact q3 _ (by omega) (by omega)
  ·rw [if_neg ha]
   by_cases ha2:l < a/\a<=k
   ·rw [if_pos ha2,if_neg (by omega),if_pos (by omega)]
    exact h _ _ (by omega) (by omega)
   ·rw [if_neg ha2]
    by_cases hb':b=l
    ·rw [if_pos hb']; exact q2 a (by omega)
    ·rw [if_neg hb']
     by_cases hb2:l < b/\b<=k
     ·rw [if_pos hb2]; exact h _ _ (by omega) (by omega)
     ·rw [if_neg hb2]; exact h _ _ hab (by omega)
theorem R9 {n:Nat} (hn:1<=n):bE n c (fun q=>PP n q/\dO c q n) (kas_sort n):=by
 have hp:PP n (List.toArray (List.range n)):=by unfold PP; simp
 refine bE.bind (R:=CI c n) (fun r q=>?_) _ (R8 O hp hn)
 obtain ⟨q1,q2,q3,q4⟩:=q
 by_cases h:r.1 < n
 ·rw [if_pos h]
  have e:max r.1 1=r.1:=by omega
  rw [e]
  exact bE.mono (fun p z=>⟨z.1,by rw [show r.1+(n - r.1)=n by omega] at z; exact z.2⟩) _ (v3 O (n - r.1) r.2 r.1 q1 (by omega) q4)
 ·rw [if_neg h]
  have e:r.1=n:=by omega
  exact⟨q1,by rw [e] at q4; exact q4⟩
end
end Srt
namespace L2
open PySem PySem.Spec PyProof.Rows
theorem b6.there {P:Program}{w:World}{H:Hp}{h:Heap}{a:Addr}{o:HO} (x:b6 P w H h a o):∃ u,h.get? a=some u:=by
 cases o with
 | lst xs=>obtain ⟨_,_,_,_,e⟩:=x; exact⟨_,e⟩
 | tup xs=>obtain ⟨_,_,_,o,e,_⟩:=x; exact⟨_,e⟩
 | dK kvs=>obtain ⟨_,_,_,_,o,_,_,e,_⟩:=x; exact⟨_,e⟩
 | dT kvs=>obtain ⟨_,_,_,_,o,_,_,e,_⟩:=x; exact⟨_,e⟩
 | set S n=>obtain ⟨o,_,_,_,e,_⟩:=x; exact⟨_,e⟩
 | ins C dx fs=>obtain ⟨_,_,_,e,_⟩:=x; exact⟨_,e⟩
 | own y=>exact x
 | xd fs=>obtain ⟨_,⟨_,_,_,e,_⟩,_⟩:=x; exact⟨_,e⟩
 | rng lo hi=>obtain ⟨_,_,_,e⟩:=x; exact⟨_,e⟩
 | frz ob u=>obtain ⟨e,_⟩:=x; exact⟨_,e⟩
 | tbl ps=>exact⟨_,(show h.get? a=some _ from x)⟩
 | met f y=>exact⟨_,(show h.get? a=some _ from x)⟩
 | ext φ=>obtain ⟨_,z,_⟩:=x; exact z
section
variable {X : Cx} {pins : List (Addr × Obj)} {σ : St} {H : Hp} {s : Shared} {h' : Heap} {a : Addr} {o : HO} {t' : Nat}
theorem a5.laidF (I:a5 X pins σ H s) (hn:s.heap.get? a=none) (k:∀ b u,b ≠ X.env.locals->s.heap.get? b=some u->h'.get? b=some u) (ns:∀ m,s.heap.Ns X.env.locals m->h'.Ns X.env.locals m)
  (new:b6 X.prog X.w (upd H a o) h' a o):H a=none/\a5 X pins σ (upd H a o) { s with heap:=h',toks:=t' }:=by
 have hHn:H a=none:=by
  cases q:H a with
  | none=>rfl
  | some u=>obtain ⟨z,e⟩:=(I.hok a u q).there; rw [hn] at e; cases e
 have ne:∀ b u,s.heap.get? b=some u->b ≠ a:=fun b u e z=>by rw [z,hn] at e; cases e
 have hL:=I.free
 refine⟨hHn,I.step (g':=s.gens) (d':=s.drawn) (ch:=[]) (fun _ z=>nomatch z) (fun b o' h1 _ _ e _=>k b o' h1 e) (fun b o' h1 _ _ e _=>⟨o'.slots,k b o' h1 e⟩) (fun b o' _ e n=>by rw [aN (ne b o' e)]; exact n) (fun b o' _ e=>?_)
  (fun b xs q=>by rw [aN (cE q hHn)]; exact q) (fun b u xs q=>by rw [aN (cE q hHn)]; exact q) (fun b ps q=>⟨#[],by rw [aN (cE q hHn),q]; simp⟩) ns (fun b u q=>?_) I.bare⟩
 ·by_cases hb:b=X.env.locals
  ·obtain ⟨m,hm,_⟩:=I.loc
   obtain ⟨o2,_,_,e2,_⟩:=ns m hm
   exact⟨o2,by rw [hb]; exact e2⟩
  ·exact⟨o',k b o' hb e⟩
 ·by_cases hb:b=a
  ·subst hb; rw [aZ] at q; cases q; exact new
  ·rw [aN hb] at q
   refine (I.hok b u q).stay (fun c v hc e=>k c v ?_ e) (fun c e=>by rw [aN (cE e hHn)]; exact e) fun c xs e=>by rw [aN (cE e hHn)]; exact e
   rcases hc with z | z
   ·rw [z]; intro y; rw [y,hL] at q; cases q
   ·intro y; rw [y,hL] at z; cases z
theorem a5.newsAll (I:a5 X pins σ H s) {news:List (Addr × Obj)}{m:Str->Option Value} (hs:∀ p ∈ jJ X.base s.heap X.env.locals,p ∈ news) (F:Fr X.base X.env.locals h' m) (N:News X.base X.env.locals h' news) :
  ∀ b o,b ≠ X.env.locals->s.heap.get? b=some o->h'.get? b=some o:=fun b o h1 e=>by
 cases q:X.base.get? b with
 | some u=>
  have:=I.bk b u q
  rw [e] at this; cases this
  exact F.keep b _ q
 | none=>exact (N (b,o) (hs _ (sL h1 q e))).1
end
theorem S0 {α:Type}{d:α} (l:List α) {p:List Nat} (h:p.Perm (List.range l.length)):(p.map fun i=>l.getD i d).Perm l:=by
 have e:(List.range l.length).map (fun i=>l.getD i d)=l:=by
  apply List.ext_getElem
  ·simp
  ·intro i h1 h2
   simp at h1
   simp [h1]
 have:=h.map fun i=>l.getD i d
 rw [e] at this
 exact this
theorem jY:∀ {xs:List V}{us:List Value} (i:Nat),i < xs.length->aG xs us->aO (xs.getD i .non) (us.getD i Value.none)
 | _,_,_,h,.nil=>by simp at h
 | _,_,0,_,.cons r _=>by simpa using r
 | _,_,i+1,h,.cons _ t=>by
  have:=jY i (by simpa using h) t
  simpa using this
theorem v4 {xs:List V}{us:List Value} (r:aG xs us):∀ {p:List Nat},(∀ i ∈ p,i < xs.length)->aG (p.map fun i=>xs.getD i .non) (p.map fun i=>us.getD i Value.none)
 | [],_=>.nil
 | i :: p,h=>.cons (jY i (h i av5) r) (v4 r fun j hj=>h j (av1 _ hj))
theorem lY {α:Type}:∀ l:List α,(l.zip l).map (·.2)=l
 | []=>rfl
 | a :: l=>by
  show a :: ((l.zip l).map (·.2))=a :: l
  rw [lY l]
theorem S6 {prog:Program}{w:World}{A:Around}{E:Value->Shared->Prop}{s:Shared}{a:Addr}{vs:List Value}{n:Nat}{P:PySem.Fin->Shared->Prop} (e:s.heap.get? a=some (seqObj "list" vs.toArray n)) (few:vs.length < 2)
  (q:P (.done (.ret .none)) { s with heap:=sortedHeap s.heap a vs vs.toArray }):wpAny (model prog w) A (Builtin.«list.sort» ⟨[.ref a],[]⟩) P E s:=by
 have big:vs.length<=sizeLine:=ay6 (aB7 few) (by decide)
 have la:=aw2 e
 have c:vs.toArray.size < 2:=by simpa using few
 have same:(arrOf (SortSt.mk' general' (vs.toArray.zip vs.toArray) #[] 7 none)).map (·.2)=vs.toArray:=by
  change (vs.toArray.zip vs.toArray).map (·.2)=vs.toArray
  apply Array.ext'
  simpa using lY vs
 obtain ⟨k,ek⟩:∃ k,(s.heap.update a (Obj.mapSeq fun _=>#[])).get? a=some (seqObj "list" #[] k):=⟨_,get?_update_seq e fun _=>#[]⟩
 have there:(((s.heap.update a (Obj.mapSeq fun _=>#[])).push (seqObj "tuple" vs.toArray 0)).push (seqObj "list" #[] 0)).get? a=some (seqObj "list" #[] k):=
  au6 _ (au6 _ ek)
 rw [list_sort_plain]
 apply au5
 apply listItems_at e rfl
 apply au5
 refine listUpdate_at e rfl ?_ (by simpa using big) (ay4 _)
 apply au5
 apply seqEpoch_at ek rfl
 apply au5
 refine wpAny_newTuple ?_ big
 apply au5
 refine wpAny_newList ?_ (ay4 _)
 apply aG8
 simp only [c,if_true,StateT.run_pure]
 apply au5
 apply au9
 apply au5
 apply au9
 apply au5
 apply seqEpoch_at there rfl
 apply au5
 refine listUpdate_at there rfl ?_ (ay4 _) (by rw [same,aw1]; exact Nat.le_succ_of_le big)
 rw [same]
 simp only [bne_self_eq_false,aw9,aA3]
 exact au9 q
theorem v5 {prog:Program}{w:World}{A:Around}{E:Value->Shared->Prop}{s:Shared}{l:Addr}{vs:List Value}{Q:Value->Shared->Prop} (hl:s.heap.IsList l vs.toArray) (few:vs.length < 2)
  (q:Q (.ref (s.heap.objs.size+1)) { s with heap:=sortedAll s.heap vs vs.toArray }):wpAny (model prog w) A (call (.builtin "sorted") [.ref l]) Q E s:=by
 have big:vs.length<=sizeLine:=ay6 (aB7 few) (by decide)
 apply Calls.call_function_entry kind_sorted plain_sorted entry_sorted (args_sorted1 _)
 simp only [Builtin.«sorted»]
 apply au5 (m:=checkCount "sorted" 1 1 _)
 apply au9
 apply au5
 refine collect_list hl ?_ big
 apply au5
 refine wpAny_newList ?_ big
 have one:((s.heap.push (seqObj "list" #[] 0)).update s.heap.objs.size (Obj.mapSeq (· ++ vs.toArray))).objs.size=s.heap.objs.size+1:=(Heap.size_update _ _ _).trans (size_push' _ _)
 have at1:(((s.heap.push (seqObj "list" #[] 0)).update s.heap.objs.size (Obj.mapSeq (· ++ vs.toArray))).push (seqObj "list" vs.toArray 0)).get? (s.heap.objs.size+1)=some (seqObj "list" vs.toArray 0):=one ▸ aw8 _ rfl
 change wpAny _ _ _ _ _ { s with heap:=((s.heap.push (seqObj "list" #[] 0)).update s.heap.objs.size (Obj.mapSeq (· ++ vs.toArray))).push (seqObj "list" vs.toArray 0) }
 rw [one]
 apply au5
 apply aG8
 refine aB9 slot_list_sort ⟨_,at1,rfl⟩ entry_list_sort ?_ (args_list_sort _)
 refine S6 at1 few ⟨_,rfl,?_⟩
 exact au9 ⟨_,rfl,q⟩
def v6 (K:PySem.W.Frag):List V->Hp->VK->Prop:=fun xs H Q=>∃ a ns,xs = [.ref a]/\aI K H a (ns.map V.int)/\ns.length < 64/\∀ l (ms:List Int),H l=none->ms.Perm ns->ms.Pairwise (· <= ·)->Q (.ref l) (upd H l (.lst (ms.map V.int)))
theorem S7 {X:Cx}:bS X (.builtin "sorted") (v6 X.K):=by
 intro pins s σ H xs us Q I r h
 obtain ⟨a,ns,rfl,hs,h64,q⟩:=h
 obtain ⟨u,rfl,ru⟩:=eB r
 cases ru
 obtain ⟨its,rv,p,hz⟩:=I.list hs
 have hl:=rv.length
 rw [au8] at hl
 refine sorted_ints p.isList (iQ rv) (by omega) fun out ns' a1 a2 a3=>?_
 obtain ⟨e,he⟩:=sortedAll_at s.heap its out
 have hn:s.heap.objs.size<=s.heap.objs.size+1:=Nat.le_succ _
 have hlen:ns'.length=ns.length:=a2.length_eq
 refine⟨.ref (s.heap.objs.size+1),upd H (s.heap.objs.size+1) (.lst (ns'.map V.int)),I.laid (t':=s.toks) (fun _ _=>sortedAll_old) hn ⟨?_,out.toList,e,pC a1,by simpa using he⟩,rfl,q _ ns' (I.hok.fresh hn) a2 a3⟩
 rw [au8,hlen]
 exact aB7 (pD (by omega))
theorem i6:∀ {a b:List Int},HT.aY a b=true->HT.aY b a=false
 | [],[],h=>by cases h
 | [],_ :: _,_=>rfl
 | _ :: _,[],h=>by cases h
 | x :: xs,y :: ys,h=>by
  rw [HT.eR] at h ⊢
  by_cases e:x=y
  ·rw [if_pos e] at h; rw [if_pos e.symm]; exact i6 h
  ·rw [if_neg e] at h; rw [if_neg (Ne.symm e)]
   have:=of_decide_eq_true h
   exact av7 (by omega)
theorem lZ:∀ {a b c:List Int},HT.aY a b=false->HT.aY b c=false->HT.aY a c=false
 | [],[],c,_,h=>h
 | [],_ :: _,_,h,_=>by cases h
 | _ :: _,[],[],_,_=>rfl
 | _ :: _,[],_ :: _,_,h=>by cases h
 | _ :: _,_ :: _,[],_,_=>rfl
 | x :: xs,y :: ys,z :: zs,h1,h2=>by
  rw [HT.eR] at h1 h2 ⊢
  by_cases e1:x=y
  ·rw [if_pos e1] at h1
   by_cases e2:y=z
   ·rw [if_pos e2] at h2; rw [if_pos (e1.trans e2)]; exact lZ h1 h2
   ·rw [if_neg e2] at h2; rw [if_neg (by rw [e1]; exact e2)]; rw [e1]; exact h2
  ·rw [if_neg e1] at h1
   have k1:=aF7 h1
   by_cases e2:y=z
   ·rw [<- e2,if_neg e1]; exact h1
   ·rw [if_neg e2] at h2
    have k2:=aF7 h2
    rw [if_neg (by omega)]
    exact av7 (by omega)
theorem pV:∀ {a b:List Int},HT.aY a b=false->HT.aY b a=false->a=b
 | [],[],_,_=>rfl
 | [],_ :: _,h,_=>by cases h
 | _ :: _,[],_,h=>by cases h
 | x :: xs,y :: ys,h1,h2=>by
  rw [HT.eR] at h1 h2
  by_cases e:x=y
  ·rw [if_pos e] at h1; rw [if_pos e.symm] at h2; rw [e,pV h1 h2]
  ·rw [if_neg e] at h1; rw [if_neg (Ne.symm e)] at h2
   have:=aF7 h1
   have:=aF7 h2
   omega
def v7 (H:Hp):V->List Int
 | .ref b=>match H b with
  | some (.tup xs)=>xs.map fun x=>match x with
   | .int i=>i
   | _=>0
  | _=>[]
 | _=>[]
section
variable {prog : Program} {w : World} {A : Around} {s : Shared} {Q : Bool → Shared → Prop}
theorem v8:∀ {us ws:List Value}{xs ys:List Int} (i:Nat),IntsAre us xs->IntsAre ws ys->Q (HT.aY xs ys) s->PySem.W.KatLex prog w A true (decide (us.length < ws.length)) Q (us.zip ws) i s
 | _,_,_,_,_,.nil,.nil,h=>h
 | _,_,_,_,_,.nil,.cons _ _ _,h=>h
 | _,_,_,_,_,.cons _ _ _,.nil,h=>h
 | _,_,_,_,i,.cons (vs:=us) x t hx,.cons (vs:=ws) y u hy,h=>by
  refine PySem.W.kat_cons (wpAny_eqBool_int ?_)
  rw [HT.eR] at h
  by_cases e:x=y
  ·rw [if_pos e] at h
   have eb:(x == y)=true:=by simpa using e
   rw [eb]
   refine PySem.W.kat_yes ?_
   have e2:decide ((Value.int x t :: us).length < (Value.int y u :: ws).length)=decide (us.length < ws.length):=by simp
   rw [e2]
   exact v8 (i+1) hx hy h
  ·rw [if_neg e] at h
   have eb:(x == y)=false:=by simpa using e
   rw [eb]
   refine PySem.W.kat_no ?_
   cases hi:(true && i == 0) with
   | true=>exact PySem.W.kat_lt_int h
   | false=>exact PySem.W.kat_one _ _ (lt_int h)
end
def v9 (K:PySem.W.Frag):List V->Hp->VK->Prop:=fun xs H Q=>∃ (a:Addr) (ys:List V) (key:V->List Int),xs = [.ref a]/\aI K H a ys/\ys.length < 64/\(∀ y ∈ ys,∃ b,y = .ref b/\aC K H b ((key y).map V.int)/\key y ≠ [])/\
 ∀ l (zs:List V),H l=none->zs.Perm ys->zs.Pairwise (fun u v=>HT.aY (key v) (key u)=false)->Q (.ref l) (upd H l (.lst zs))
theorem S8 {c:Nat->Nat->Bool}{R:V->V->Prop}{ys:List V}{p:Array Nat}{n:Nat} (hp:Srt.PP n p) (ha:Srt.dO c p n) (hR:∀ i j,Srt.Le c i j->R (ys.getD i .non) (ys.getD j .non)) :
  (p.toList.map fun i=>ys.getD i .non).Pairwise R:=by
 rw [aA5,az3]
 intro i j hi hj hij
 have hs:=hp.size
 have h1:i < n:=by rw [<- hs]; simpa using hi
 have h2:j < n:=by rw [<- hs]; simpa using hj
 have q:=ha i j (aB7 hij) h2
 have e:∀ k (hk:k < p.toList.length),Srt.G p k=p.toList[k]:=fun k hk=>by
  have hk':k < p.size:=by simpa using hk
  unfold Srt.G; rw [aD6]; simp [hk']
 rw [e i hi,e j hj] at q
 exact hR _ _ q
theorem S9 {X:Cx}:bS X (.builtin "sorted") (v9 X.K):=by
 intro pins s σ H xs us Q I r h
 obtain ⟨a,ys,key,rfl,hs,h64,hk,q⟩:=h
 obtain ⟨u,rfl,ru⟩:=eB r
 cases ru
 obtain ⟨its,rv,p,hz⟩:=I.list hs
 have hl:=rv.length
 by_cases h2:its.length < 2
 ·
  refine v5 p.isList h2 ?_
  obtain ⟨e,he⟩:=sortedAll_at s.heap its its.toArray
  have hn:s.heap.objs.size<=s.heap.objs.size+1:=Nat.le_succ _
  refine⟨.ref (s.heap.objs.size+1),upd H (s.heap.objs.size+1) (.lst ys),I.laid (t':=s.toks) (fun _ _=>sortedAll_old) hn ⟨hz,its,e,rv,he⟩,rfl,q _ ys (I.hok.fresh hn) (List.Perm.refl _) ?_⟩
  match ys,hl with
  | [],_=>exact List.Pairwise.nil
  | [_],_=>exact aA4 _ _
  | _ :: _ :: _,hl=>simp at hl; omega
 ·obtain ⟨m,F⟩:=I.fr
  have hL:∀ {b:Addr}{k:List Int},aC X.K H b (k.map V.int)->b ≠ X.env.locals:=fun {b k} z e=>by
   obtain ⟨its',_,⟨ob,e1,c1,_⟩,_⟩:=I.tuple z
   obtain ⟨m',⟨o',es',ep',e2,d2,_⟩,_⟩:=I.loc
   rcases z with (z | ⟨_,z⟩) | ⟨o3,its3,n3,z3,zc,zd,_⟩
   ·rw [e,I.free] at z; cases z
   ·rw [e,I.free] at z; cases z
   ·have:=I.kIn b o3 z3
    rw [e,e2] at this
    cases this
    rw [d2] at zd; cases zd
  refine PySem.W.kat_sorted F (B6 (g:=X.base) (h:=s.heap) (L:=X.env.locals)) p.isList (by omega) (by omega) fun D e1 h' F' N' hD=>?_
  have keep:=I.newsAll (fun p hp=>av1 _ hp) F' N'
  have look:∀ i,i < ys.length->∃ (b:Addr) (ob:Obj) (us:List Value) (n:Nat),its.getD i Value.none = .ref b/\h'.get? b=some ob/\ob.cls = .type "tuple"/\ob.data = .seq us.toArray n/\IntsAre us (key (ys.getD i .non))/\key (ys.getD i .non) ≠ []:=fun i hi=>by
   have hy:ys.getD i .non ∈ ys:=by
    rw [aw6,av0 hi]; exact aC1 hi
   obtain ⟨b,eb,sq,ne⟩:=hk _ hy
   have rr:=jY i hi rv
   rw [eb] at rr
   have rr:its.getD i Value.none = .ref b:=rr
   obtain ⟨us,ru,⟨ob,e1,c1,n1,d1⟩,_⟩:=I.tuple sq
   exact⟨b,ob,us,n1,rr,keep b ob (hL sq) e1,c1,d1,iQ ru,ne⟩
  have firsts:∀ {xs:List V}{vs:List Value},aG xs vs->(∀ y ∈ xs,∃ b,y = .ref b/\aC X.K H b ((key y).map V.int)/\key y ≠ [])->∃ fs:List Value,PySem.W.KatTups h' vs fs/\fs.length=vs.length/\∀ v ∈ fs,∃ i t,v=Value.int i t:=by
   intro xs vs r
   induction r with
   | nil=>intro _; exact⟨[],PySem.W.KatTups.nil,rfl,fun _ z=>nomatch z⟩
   | @cons x v xs vs rx rt ih=>
    intro hh
    obtain ⟨fs,t1,t2,t3⟩:=ih fun y hy=>hh y (av1 _ hy)
    obtain ⟨b,eb,sq,ne⟩:=hh x av5
    subst eb
    cases rx
    obtain ⟨us,ru,⟨ob,e1,c1,n1,d1⟩,_⟩:=I.tuple sq
    have ia:=iQ ru
    generalize key (V.ref b)=kk at ia ne
    cases ia with
    | nil=>exact absurd rfl ne
    | @cons n t vs0 ns0 ht=>
     exact⟨Value.int n t :: fs,PySem.W.KatTups.cons (keep b ob (hL sq) e1) c1 d1 (by simp) t1,by simp [t2],fun v hv=>(av8.mp hv).elim (fun z=>⟨n,t,z⟩) (t3 v)⟩
  obtain ⟨fs,t1,t2,t3⟩:=firsts rv hk
  refine PySem.W.kat_kind (T:=.type "int") t1 (by omega) (fun v hv=>?_) (by decide) ?_
  ·obtain ⟨i,t,rfl⟩:=t3 v hv
   exact PySem.W.Looks.now
  let c:Nat->Nat->Bool:=fun i j=>HT.aY (key (ys.getD i .non)) (key (ys.getD j .non))
  have O:Srt.pR c:=⟨fun h=>i6 h,fun h1 h2=>lZ h1 h2⟩
  have ok:=Srt.R9 (n:=its.length) O (by omega)
  refine Srt.bE.run (I:=fun s'=>s'={ s with heap:=h' }) (fun i j C s' hi hj hI hC=>?_) (fun pa s' hR hI=>?_) _ _ rfl ok
  ·subst hI
   obtain ⟨b1,o1,u1,n1,g1,g2,_,g4,g5,_⟩:=look i (by omega)
   obtain ⟨b2,o2,u2,n2,k1,k2,_,k4,k5,_⟩:=look j (by omega)
   show wpAny _ _ (keyLt' (tuples' (Value.type "int" != Value.type "tuple")) (its.getD i Value.none) (its.getD j Value.none)) _ _ _
   rw [g1,k1]
   have eT:(Value.type "int" != Value.type "tuple")=true:=by decide
   rw [eT]
   refine PySem.W.kat_lt g2 g4 k2 k4 ?_
   have:=v8 (prog:=X.prog) (w:=X.w) (A:=X.A.in1.in1) (s:={ s with heap:=h' }) (Q:=C) 0 g5 k5 (hC _ rfl)
   simpa using this
  ·subst hI
   obtain ⟨hp,hasc⟩:=hR
   refine PySem.W.KasFin.intro F' N' (PySem.W.UpdF.head fun p hp=>ay1 (hD p hp)) fun h2 cc F2 N2=>?_
   have keep2:=I.newsAll (fun p hp=>av1 _ hp) F2 N2
   have hDn:s.heap.get? D=none:=by
    cases z:s.heap.get? D with
    | none=>rfl
    | some o=>
     obtain ⟨_,n1,n2⟩:=N2 (D,_) av5
     exact absurd (hD _ (sL n1 n2 z)) (az5 _)
   have hpl:∀ i ∈ pa.toList,i < ys.length:=fun i hi=>by
    have:=List.mem_range.mp (hp.mem_iff.mp hi); omega
   have hp':pa.toList.Perm (List.range ys.length):=by rw [hl]; exact hp
   have pm:=S0 (d:=V.non) ys hp'
   obtain ⟨hDo,hDL,hDb⟩:=N2 (D,_) av5
   obtain ⟨hHD,I2⟩:=I.laidF (t':=s.toks) (a:=D) (o:=.lst (pa.toList.map fun i=>ys.getD i .non)) hDn keep2 (fun m' hm'=>by
     have e:m'=m:=funext fun nm=>Heap.Ns.agree hm' F.ns nm
     rw [e]; exact F2.ns) ⟨by rw [pm.length_eq]; exact hz,_,cc,v4 rv hpl,hDo⟩
   exact⟨.ref D,_,I2,rfl,q D _ hHD pm (S8 hp hasc fun i j hle=>hle)⟩
end L2
namespace Raw
open PySem PySem.W PySem.Calls PyProof.Rows
def eF (h:Heap) (d:Addr) (es:Array DictEntry) (ep:Nat):Prop:=∃ o,h.get? d=some o/\o.ExactDict/\o.data = .dict es ep
theorem eF.ty {s:Shared}{d:Addr}{es:Array DictEntry}{ep:Nat} (x:eF s.heap d es ep):s.TypeIs (.ref d) "dict":=x.elim fun o y=>⟨o,y.1,y.2.1.1⟩
theorem eF.lt {h:Heap}{d:Addr}{es:Array DictEntry}{ep:Nat} (x:eF h d es ep):d < h.objs.size:=x.elim fun _ y=>aw2 y.1
theorem eF.keep {h h':Heap}{d:Addr}{es:Array DictEntry}{ep:Nat} (x:eF h d es ep) (k:∀ o,h.get? d=some o->h'.get? d=some o):eF h' d es ep:=x.elim fun o y=>⟨o,k o y.1,y.2⟩
section
variable {prog : Program} {w : World} {A : Around} {E : Value → Shared → Prop} {s : Shared} {d it : Addr} {es : Array DictEntry} {ep i : Nat}
theorem T0 (far:(d == sysModules)=false) (x:eF s.heap d es ep) {Q:Value->Shared->Prop}
  (q:Q (.ref s.heap.objs.size) { s with heap:=s.heap.push { cls:=.type "dict_keyiterator",data:=.fields #[.ref d,.int 0 0,.int es.size 0,.int ep 0] } }):wpAny (model prog w) A (pyIter (.ref d)) Q E s:=by
 have T:=x.ty
 obtain ⟨o,e1,e2,e3⟩:=x
 apply wpAny_pyIter_slot T PySem.F.slot_dict_iter
 apply aB9 PySem.F.slot_dict_iter T PySem.F.entry_dict_iter _ (PySem.F.args_dict_iter_1 _)
 simp only [Builtin.«dict.__iter__»,Builtin.Dict.dictSlotNone]
 apply au5
 apply au5
 apply wpAny_notOrdered_dict T
 apply au9
 change wpAny _ _ (Builtin.Dict.showsAll d >>= _) _ _ s
 have far':Builtin.Dict.showsAll d=pure ():=by
  unfold Builtin.Dict.showsAll
  simp only [far,aw9,aA3]
 rw [far',pure_bind]
 apply au5
 apply wpAny_dictEntries e1 e3
 apply au5
 apply wpAny_dictEpoch e1 e3
 apply au5
 refine aB0 (au9 ?_)
 refine⟨.ref s.heap.objs.size,rfl,"dict_keyiterator",_,⟨_,aw8 _ rfl,rfl⟩,PySem.F.slot_dict_keyiterator_next.lookup,?_⟩
 simpa only [rawInt] using q
theorem turn (hh:A.handled=none) (hi:s.heap.IsKeyIter it d i es.size ep) (x:eF s.heap d es ep) {Q:Option Value->Shared->Prop}
  (yes:∀ (lt:i < es.size) h',h'.IsKeyIter it d (i+1) es.size ep->Heap.SameBut it s.heap h'->Q (some es[i].key) { s with heap:=h' })
  (no:es.size<=i->∀ h',Heap.ExtBut it s.heap h'->Q none { s with heap:=h' }):wpAny (model prog w) A (pyNext (.ref it)) Q E s:=by
 have T:=hi.typeIs
 obtain ⟨oi,f1,f2,f3⟩:=hi
 obtain ⟨o,e1,e2,e3⟩:=x
 have slot:=PySem.F.slot_dict_keyiterator_next
 have plain:Builtin.Dict_items.ownsTuple "dict_keyiterator" = false:=by decide
 have isref:(Value.ref d == Value.none)=false:=rfl
 have nn : ¬ (i:Int) < 0:=by omega
 unfold pyNext
 apply au5
 apply wpAny_attempt
 apply aB2 (name:=Str.ofString "__next__") T slot
 apply aB9 slot T PySem.F.entry_dict_keyiterator_next _ (PySem.F.args_dict_keyiterator_next_1 _)
 apply au5
 apply au9
 apply au5
 apply au5
 apply au5
 first
  | apply wpAny_typeNameOfWhole_keyiter T
  | apply wpAny_typeNameOf_keyiter T
 apply au9
 apply au5
 apply wpAny_fieldsOf f1 f3
 simp only [plain,aw9,aA3]
 change wpAny _ _ (if (Value.ref d == Value.none)=true then _ else _) _ _ s
 have adr:Builtin.Dict_items.addrOf (Value.ref d)=pure d:=rfl
 simp only [isref,aw9,aA3,adr,pure_bind]
 apply au5
 apply wpAny_dictEntries e1 e3
 simp only [bne_self_eq_false,aw9,aA3]
 apply au5
 apply wpAny_dictEpoch e1 e3
 simp only [bne_self_eq_false,aw9,aA3]
 apply au9
 simp only [nn,aA3,aE9]
 by_cases lt:i < es.size
 ·simp only [Array.getElem?_eq_getElem lt]
  apply au5
  apply au5
  first
   | apply wpAny_typeNameOfWhole_keyiter T
   | apply wpAny_typeNameOf_keyiter T
  apply au9
  apply au5
  apply wpAny_isOneOf_keyiter T
  change wpAny _ _ (setField (.ref it) 1 (rawInt ((i:Int)+1)) >>= _) _ _ s
  apply au5
  refine wpAny_setField f1 f3 (by simp) ?_
  have again:(s.heap.update it (Obj.mapFields (·.setIfInBounds 1 (rawInt ((i:Int)+1))))).IsKeyIter it d (i+1) es.size ep:=by
   refine⟨_,Heap.get?_update_self _ f1 (Obj.isFreed_of_fields (Obj.data_mapFields f3 _)),?_,?_⟩
   ·rw [Obj.cls_mapFields]; exact f2
   ·rw [Obj.data_mapFields f3]; simp [rawInt]
  apply au5
  apply aG8
  apply au5
  refine wpAny_isOneOf_keyiter (s:={ s with heap:=s.heap.update it (Obj.mapFields (·.setIfInBounds 1 (rawInt ((i:Int)+1)))) }) again.typeIs ?_
  change wpAny _ _ (pure es[i].key) _ _ _
  apply au9
  apply au9
  exact⟨es[i].key,rfl,au9 (yes lt _ again (aF2 ..))⟩
 ·have ge:es.size<=i:=aF4 lt
  simp only [Array.getElem?_eq_none ge]
  apply au5
  apply au5
  first
   | apply wpAny_typeNameOfWhole_keyiter T
   | apply wpAny_typeNameOf_keyiter T
  apply au9
  change wpAny _ _ (setField (.ref it) 0 .none >>= _) _ _ s
  apply au5
  refine wpAny_setField f1 f3 (by simp) ?_
  apply au5
  simp only [newExc,newTuple]
  apply au5
  refine aB0 ?_ (by size_fits)
  apply au5
  refine wpAny_of_eq (a:=Value.none) (by first | rfl | (simp only [firstArgMember]; rfl)) ?_
  refine aB0 ?_ (by size_fits)
  unfold raiseNew
  apply au5
  apply wpAny_handled
  have quiet:A.in1.handled=none:=hh
  rw [quiet]
  refine wpAny_throw ?_
  apply au5
  refine wpAny_isInstance (T:="StopIteration") (b:=true) ⟨_,aw8 _ rfl,rfl⟩ isSubtype_stop ?_
  exact au9 (no ge _ (((aF2 ..).extBut.push _).push _))
theorem T3 (hh:A.handled=none) (ne:d ≠ it):Walks prog w A it [it,d] [it] es.size (fun i v=>∃ lt:i < es.size,es[i].key=v) (fun i h=>h.IsKeyIter it d i es.size ep/\eF h d es ep) where
 sub:=by intro b hb; rw [av2.mp hb]; exact av5
 frame:=by
  intro i h h' st hk
  exact⟨st.1.at (hk it av5),st.2.keep (hk d (av1 _ av5))⟩
 item:=by
  intro i s Q E lt st hQ
  refine turn hh st.1 st.2 (fun lt' h' again sb=>?_) fun ge=>absurd lt (Nat.not_lt.mpr ge)
  exact hQ _ h' s.toks ⟨lt',rfl⟩ ⟨again,st.2.keep fun o e=>sb.extBut d o ne e⟩ fun b o hb e=>sb.extBut b o (fun z=>hb (av2.mpr z)) e
 done:=by
  intro s Q E st hQ
  refine turn hh st.1 st.2 (fun lt=>absurd lt (az5 _)) fun _ h' eb=>?_
  exact hQ h' s.toks fun b o hb e=>eb b o (fun z=>hb (av2.mpr z)) e
 self:=by intro i s Q E st hQ; exact wpAny_pyIter_keyiter st.1 hQ
theorem T4 (far:(d == sysModules)=false):KdlSrc prog w "dict" d d es.size (fun i v=>∃ lt:i < es.size,es[i].key=v) (fun h=>eF h d es ep) where
 type:=fun _ x=>x.ty
 there:=fun _ x=>⟨x.lt,x.lt⟩
 keep:=fun _ _ x k=>x.keep (k d (.inl rfl))
 notList:=by decide
 notTuple:=by decide
 hint:=fun _ _ _ _ x q=>kdl_hint_dict x.ty q
 iter:=fun _ _ hh x=>⟨_,_,fun _ _ q=>T0 far x q,T3 hh (ay1 x.lt),⟨_,aw8 _ rfl,rfl,rfl⟩,x.keep fun o e=>au6 _ e⟩
end
end Raw
namespace L2
open PySem PySem.Spec PyProof.Rows
section
variable {X : Cx} {pins : List (Addr × Obj)} {σ : St} {H : Hp} {s : Shared} {a : Addr}
def m3 (H:Hp) (y:V) (k:List aH):Prop:=∃ q,y = .ref q/\H q=some (.tup (k.map kV))
theorem T5 {kvs:List (List aH × V)} (I:a5 X pins σ H s) (h:H a=some (.dT kvs)):∃ es ep ys,Raw.eF s.heap a es ep/\(a == sysModules)=false/\Paired (m3 H) ys (kvs.map (·.1))/\aG ys (es.toList.map (·.key))/\kvs.length<=sizeLine:=by
 obtain ⟨z,far,xs,rel,o,es,ep,e1,e2,e3,e4,nd⟩:=(show b6 X.prog X.w H s.heap a (.dT kvs) from I.hok a _ h)
 refine⟨es,ep,xs.map fun q=>V.ref q.2.1,⟨o,e1,e2,e3⟩,far,?_,?_,z⟩
 ·clear e4 nd h z
  induction rel with
  | nil=>exact .nil
  | cons r rs ih=>exact .cons ⟨_,rfl,r.2.1⟩ ih
 ·rw [e4]
  clear rel e4 nd
  induction xs with
  | nil=>exact .nil
  | cons q qs ih=>exact .cons rfl ih
theorem T6 {es:Array DictEntry}{acc:Array Value} (h:ItemsOf (fun i v=>∃ lt:i < es.size,es[i].key=v) acc es.size):acc.toList=es.toList.map (·.key):=by
 apply List.ext_getElem?
 intro j
 have h1:=h.1
 by_cases hj:j < es.size
 ·have hj':j < acc.size:=by rw [h1]; exact hj
  obtain ⟨_,e⟩:=h.2 j acc[j] (by simp [hj'])
  rw [aw3]
  simp [hj,hj',e]
 ·have hj' : ¬ j < acc.size:=by rw [h1]; exact hj
  rw [aw3]
  simp [aF4 hj,aF4 hj']
theorem T7 (hc:X.calm=true):bS X (.type "list") (fun xs H Q=>∃ a kvs,xs = [.ref a]/\H a=some (.dT kvs)/\∀ l ys,H l=none->Paired (m3 H) ys (kvs.map (·.1))->Q (.ref l) (upd H l (.lst ys))):=by
 intro pins s σ H xs us Q I r h
 obtain ⟨a,kvs,rfl,ha,q⟩:=h
 obtain ⟨u,rfl,ru⟩:=eB r
 cases ru
 obtain ⟨es,ep,ys,rd,far,pk,vk,z⟩:=T5 I ha
 have hl:=vk.length
 have hl2:=pk.length
 rw [au8] at hl hl2
 have hsz:es.toList.length=es.size:=az6
 refine PySem.W.kdl_call (Raw.T4 far) (I.ok.hd hc) rd (by omega) fun h' tk acc c kp e it=>?_
 refine⟨.ref s.heap.objs.size,_,I.laid (t':=tk) kp (au7 _) (show b6 X.prog X.w _ h' _ (.lst ys) from ⟨by omega,acc.toList,c,by rw [T6 it]; exact vk,by simpa using e⟩),rfl,q _ ys (I.hok.fresh (au7 _)) pk⟩
end
section
variable {X : Cx}
theorem T8:bS X (.builtin "isinstance") (fun xs H Q=>∃ x t n b,xs = [x,.ty n]/\dL X.K H x t/\PySem.W.kitOne X.K t (.type n)=some b/\Q (.bl b) H):=by
 intro pins s σ H xs us Q I r h
 obtain ⟨x,t,n,b,rfl,ty,e,q⟩:=h
 obtain ⟨u,u',rfl,ru,ru'⟩:=lI r
 cases ru'
 exact J9 I ru ty e fun tk=>⟨.bl b,H,I.tok tk,rfl,q⟩
end
def vA (outer:List (Str × NameKind)) (XN:List Str) (names:List (Str × NameKind)) (N:List Str) (fr:List (Option Nat)):Bool:=
 names.all (fun y=>!(y.2 == .cell) || names.lookup y.1 == some .cell) && names.all (fun y=>!(y.2 == .local) || names.lookup y.1 == some .local) &&
 names.all (fun y=>!(y.2 == .free) || (outer.lookup y.1 == some .cell || outer.lookup y.1 == some .free)) && fr.length == N.length &&
 (fr.zip N).all (fun p=>match p.1 with
  | none=>true
  | some j=>XN[j]? == some p.2 && names.lookup p.2 == some .free)
theorem cH.of {X:Cx}{scope:Scope}{N:List Str}{fr:List (Option Nat)} (hk:scope.kind = .function) (h:vA X.env.scope.names X.N scope.names N fr=true):cH X scope N fr:=by
 unfold vA at h
 simp only [aE3] at h
 obtain ⟨⟨⟨⟨h1,h2⟩,h3⟩,h4⟩,h5⟩:=h
 refine⟨hk,fun y hy e=>?_,fun y hy e=>?_,fun y hy e=>?_,by simpa using h4,fun i j e=>?_⟩
 ·have:=List.all_eq_true.mp h1 y hy
  rw [e] at this; simpa using this
 ·have:=List.all_eq_true.mp h2 y hy
  rw [e] at this; simpa using this
 ·have:=List.all_eq_true.mp h3 y hy
  rw [e] at this; simpa using this
 ·have hl:fr.length=N.length:=by simpa using h4
  have hi:i < fr.length:=(av4.mp e).1
  have m:(some j,N[i]'(by omega)) ∈ fr.zip N:=by
   have:(fr.zip N)[i]? = some (some j,N[i]'(by omega)):=by
    rw [List.getElem?_zip_eq_some]
    exact⟨e,by simp⟩
   exact ax0 this
  have:=List.all_eq_true.mp h5 _ m
  simp only [aE3,beq_iff_eq] at this
  exact⟨N[i]'(by omega),by simp,this.1,this.2⟩
theorem T9 {n:Option V}{r:St}{v:V}:Wk (none :: r) (some v :: r):=(Wk.refl (none :: r)).set (i:=0) rfl
def c9 (H:Hp) (ys:List V) (ls:List (Int × Int)):Prop:=Paired (fun y l=>∃ b,y = .ref b/\H b=some (.tup [.int l.1,.int l.2])) ys ls
structure vB (H:Hp) (v:V) (ws:List Int) (ls:List (Int × Int)):Prop where
 at_:∃ a p q ys,v = .ref a/\H a=some (.tup [.ref p,.ref q])/\H p=some (.tup (ws.map V.int))/\H q=some (.tup ys)/\c9 H ys ls
theorem c9.mono {H H':Hp} (e:a8 H H'):∀ {ys:List V}{ls:List (Int × Int)},c9 H ys ls->c9 H' ys ls
 | _,_,.nil=>.nil
 | _,_,.cons ⟨b,h1,h2⟩ t=>.cons ⟨b,h1,e _ _ h2⟩ (c9.mono e t)
theorem c9.get {H:Hp}:∀ {ys:List V}{ls:List (Int × Int)}{i:Nat}{y:V},c9 H ys ls->ys[i]? = some y->∃ l b,ls[i]? = some l/\y = .ref b/\H b=some (.tup [.int l.1,.int l.2])
 | _,_,_,_,.nil,e=>by simp at e
 | _,_,0,_,.cons (b:=l) ⟨b,h1,h2⟩ _,e=>by simp at e; subst e; exact⟨l,b,rfl,h1,h2⟩
 | _,_,i+1,_,.cons _ t,e=>by
  obtain ⟨l,b,h1,h2⟩:=c9.get (i:=i) t (by simpa using e)
  exact⟨l,b,by simpa using h1,h2⟩
def vC (ls:List (Int × Int)) (k:Int):List Int:=ls.flatMap fun l=>(if l.1=k then [l.2] else []) ++ (if l.2=k then [l.1] else [])
theorem pW {α:Type}{xs:List α}{i:Int}{v:α} (h0:0<=i) (h:xs[i.toNat]? = some v):atI xs i=some v:=by
 have:=jS h
 rwa [show ((i.toNat:Nat):Int)=i by omega] at this
theorem gL {n:Nat} (h:n<=16000000):n < sizeLine:=by rw [sizeLine_eq]; omega
theorem U0 {σ:St}{H:Hp}{A B:Hp->Prop} (h:A H):pJ σ H fun b H4=>if b=true then A H4 else B H4:=by
 show if true=true then A H else B H
 rw [if_pos rfl]; exact h
theorem jZ {K:PySem.W.Frag}{H:Hp}{p:Addr}{xs:List V} (h:aI K H p xs):lN K "list" (.ref p) H:=.inl ⟨rfl,xs,h⟩
def k6 (H:Hp) (y:V):Int × Int:=match v7 H y with
 | [a,b]=>(a,b)
 | _=>(0,0)
theorem m5 {H:Hp}:∀ {zs:List V},(∀ y ∈ zs,∃ b,y = .ref b/\H b=some (.tup [.int (k6 H y).1,.int (k6 H y).2])/\v7 H y = [(k6 H y).1,(k6 H y).2])->c9 H zs (zs.map (k6 H))
 | [],_=>.nil
 | y :: zs,h=>by
  obtain ⟨b,e,hb,_⟩:=h y av5
  exact .cons ⟨b,e,hb⟩ (m5 fun z hz=>h z (av1 _ hz))
end L2
namespace Zp
open PySem PyProof.Rows
section
variable {prog : Program} {w : World} {A : Around} {E : Value → Shared → Prop} {s : Shared}
theorem U1 {it t:Addr}{i:Nat}{items:Array Value}{x:Value}{Q:Value->Shared->Prop} (hi:s.heap.IsTupleIter it t i) (ht:s.heap.IsTuple t items) (hx:items[i]? = some x)
  (q:∀ h',h'.IsTupleIter it t (i+1)->Heap.SameBut it s.heap h'->Q x { s with heap:=h' }):wpAny (model prog w) A (Builtin.SmallTypes.nextOf (.ref it)) Q E s:=by
 have T:=hi.typeIs
 obtain ⟨o,e1,e2,e3⟩:=hi
 obtain ⟨u,f1,_,k,f3⟩:=ht
 have slot:=PySem.F.slot_tuple_iterator_next
 have isref:(Value.ref t == Value.none)=false:=rfl
 unfold Builtin.SmallTypes.nextOf
 apply au5
 apply aB2 (name:=Str.ofString "__next__") T slot
 apply aB9 slot T PySem.F.entry_tuple_iterator_next _ (PySem.F.args_tuple_iterator_next_1 _)
 change wpAny _ _ (field (.ref it) 0 >>= _) _ _ s
 apply au5
 refine aC8 e1 e3 (x:=.ref t) rfl ?_
 change wpAny _ _ (if (Value.ref t == Value.none)=true then _ else _) _ _ s
 simp only [isref,aw9,aA3]
 change wpAny _ _ (field (.ref it) 1 >>= _) _ _ s
 apply au5
 refine aC8 e1 e3 (x:=.int i 0) rfl ?_
 change wpAny _ _ (seqItems? (.ref t) >>= _) _ _ s
 apply au5
 apply aF8 f1 f3
 simp only [aE9,hx]
 apply au5
 refine wpAny_setField e1 e3 (by simp) ?_
 apply au9
 refine⟨x,rfl,au9 (q _ ⟨_,Heap.get?_update_self _ e1 (Obj.isFreed_of_fields (Obj.data_mapFields e3 _)),?_,?_⟩ (aF2 ..))⟩
 ·rw [Obj.cls_mapFields]; exact e2
 ·rw [Obj.data_mapFields e3]; simp [rawInt]
theorem U2 {it t:Addr}{i:Nat}{items:Array Value}{Q:Value->Shared->Prop} (hh:A.handled=none) (hi:s.heap.IsTupleIter it t i) (ht:s.heap.IsTuple t items) (hx:items[i]? = none)
  (q:∀ h' e,Heap.ExtBut it s.heap h'->(∃ o,h'.get? e=some o/\o.cls = .type "StopIteration")->E (.ref e) { s with heap:=h' }):wpAny (model prog w) A (Builtin.SmallTypes.nextOf (.ref it)) Q E s:=by
 have T:=hi.typeIs
 obtain ⟨o,e1,e2,e3⟩:=hi
 obtain ⟨u,f1,_,k,f3⟩:=ht
 have slot:=PySem.F.slot_tuple_iterator_next
 have isref:(Value.ref t == Value.none)=false:=rfl
 unfold Builtin.SmallTypes.nextOf
 apply au5
 apply aB2 (name:=Str.ofString "__next__") T slot
 apply aB9 slot T PySem.F.entry_tuple_iterator_next _ (PySem.F.args_tuple_iterator_next_1 _)
 change wpAny _ _ (field (.ref it) 0 >>= _) _ _ s
 apply au5
 refine aC8 e1 e3 (x:=.ref t) rfl ?_
 change wpAny _ _ (if (Value.ref t == Value.none)=true then _ else _) _ _ s
 simp only [isref,aw9,aA3]
 change wpAny _ _ (field (.ref it) 1 >>= _) _ _ s
 apply au5
 refine aC8 e1 e3 (x:=.int i 0) rfl ?_
 change wpAny _ _ (seqItems? (.ref t) >>= _) _ _ s
 apply au5
 apply aF8 f1 f3
 simp only [aE9,hx]
 apply au5
 apply aF9
 apply au5
 refine wpAny_setField e1 e3 (by simp) ?_
 apply au5
 simp only [newExc,newTuple]
 apply au5
 refine aB0 ?_ (by size_fits)
 apply au5
 refine wpAny_of_eq (a:=Value.none) (by first | rfl | (simp only [firstArgMember]; rfl)) ?_
 refine aB0 ?_ (by size_fits)
 unfold raiseNew
 apply au5
 apply wpAny_handled
 have quiet:A.in1.handled=none:=hh
 rw [quiet]
 refine wpAny_throw ?_
 exact q _ _ (((aF2 ..).extBut.push _).push _) ⟨_,aw8 _ rfl,rfl⟩
theorem U3 (hh:A.handled=none) (it t:Addr) (ne:t ≠ it) (items:Array Value):Draws prog w A it [it,t] items.size (fun i v=>items[i]? = some v) (fun i h=>h.IsTupleIter it t i/\h.IsTuple t items) where
 live:=fun _ _ st=>st.1.elim fun o y=>⟨o,y.1⟩
 frame:=fun _ _ _ st k=>⟨st.1.at fun o e=>k it av5 o e,st.2.elim fun o y=>⟨o,k t (av1 _ av5) o y.1,y.2⟩⟩
 item:=fun i s Q E lt st q=>U1 st.1 st.2 (Array.getElem?_eq_getElem lt) fun h' again sb=>q _ h' s.toks (Array.getElem?_eq_getElem lt) ⟨again,st.2.elim fun o y=>⟨o,sb.extBut t o ne y.1,y.2⟩⟩ sb
 done:=fun s Q E st q=>U2 hh st.1 st.2 (Array.getElem?_eq_none (au7 _)) q
end
structure Ap (z TI TO i1 i2:Addr) (fp1 fp2:List Addr):Prop where
 TIz:TI ≠ z
 TOz:TO ≠ z
 TITO:TI ≠ TO
 z1:z ∉ fp1
 z2:z ∉ fp2
 o1:TO ∉ fp1
 o2:TO ∉ fp2
 t1:TI ∉ fp1
 t2:TI ∉ fp2
 m1:i1 ∈ fp1
 m2:i2 ∈ fp2
 n1:i1 ∉ fp2
 n2:i2 ∉ fp1
structure pX (z TI TO i1 i2:Addr) (St1 St2:Nat->Heap->Prop) (f0:Value) (i j:Nat) (h:Heap):Prop where
 zz:IsZip h z TI TO f0
 ti:IsPair h TI (.ref i1) (.ref i2)
 to_:∃ a b,IsPair h TO a b
 s1:St1 i h
 s2:St2 j h
section
variable {prog : Program} {w : World} {A : Around} {E : Value → Shared → Prop} {s : Shared} {z TI TO i1 i2 : Addr} {fp1 fp2 : List Addr} {n1 n2 : Nat} {P1 P2 : Nat → Value → Prop} {St1 St2 : Nat → Heap → Prop}
theorem iS (ap:Ap z TI TO i1 i2 fp1 fp2) {b:Addr} (h:b ∉ fp1):b ≠ i1:=fun e=>h (e ▸ ap.m1)
theorem m6 (ap:Ap z TI TO i1 i2 fp1 fp2) {b:Addr} (h:b ∉ fp2):b ≠ i2:=fun e=>h (e ▸ ap.m2)
theorem item (D1:Draws prog w A.in1 i1 fp1 n1 P1 St1) (D2:Draws prog w A.in1 i2 fp2 n2 P2 St2) (ap:Ap z TI TO i1 i2 fp1 fp2) {i:Nat} (l1:i < n1) (l2:i < n2) (st:pX z TI TO i1 i2 St1 St2 .none i i s.heap) {Q:Option Value->Shared->Prop}
  (q:∀ x y h' tk,P1 i x->P2 i y->pX z TI TO i1 i2 St1 St2 (rawInt s.heap.objs.size) (i+1) (i+1) h'->IsPair h' s.heap.objs.size x y->(∀ c o,c ≠ z->c ≠ TO->c ≠ i1->c ≠ i2->s.heap.get? c=some o->h'.get? c=some o)->
   h'.objs.size=s.heap.objs.size+1->Q (some (.ref s.heap.objs.size)) { s with heap:=h',toks:=tk }):wpAny (model prog w) A (pyNext (.ref z)) Q E s:=by
 obtain ⟨hz,hti,⟨a,b,hto⟩,h1,h2⟩:=st
 have T:s.TypeIs (.ref z) "zip":=⟨_,hz,rfl⟩
 have slot:=PySem.F.slot_zip_next
 unfold pyNext
 apply au5
 apply wpAny_attempt
 apply aB2 (name:=Str.ofString "__next__") T slot
 apply aB9 slot T PySem.F.entry_zip_next _ (PySem.F.args_zip_next_1 _)
 change wpAny _ _ (field (.ref z) 2 >>= _) _ _ _
 apply au5
 refine aC8 hz rfl (x:=.bool false) rfl ?_
 change wpAny _ _ (field (.ref z) 3 >>= _) _ _ _
 apply au5
 refine aC8 hz rfl (x:=.ref TI) rfl ?_
 apply au5
 apply aF8 hti rfl
 change wpAny _ _ (Builtin.SmallTypes.ownedTupleIsFree (.ref z) >>= _) _ _ _
 apply au5
 unfold Builtin.SmallTypes.ownedTupleIsFree
 apply au5
 refine aC8 hz rfl (x:=.none) rfl (au9 ?_)
 simp only [if_true]
 apply au5
 apply aF9
 apply au5
 refine aC8 hz rfl (x:=.ref TO) rfl ?_
 apply au5
 refine aG0 hz (by simp) fun g1 hz1 sb1=>?_
 have k1:∀ c o,c ≠ z->s.heap.get? c=some o->g1.get? c=some o:=fun c o c1 e=>sb1.extBut c o c1 e
 apply au5
 simp only [List.zipIdx_cons,List.zipIdx_nil,List.forIn_cons,List.forIn_nil]
 apply au5
 apply au5
 apply wpAny_onRaise
 change wpAny _ _ (Builtin.SmallTypes.nextOf (.ref i1) >>= _) _ _ _
 apply au5
 refine D1.item i { s with heap:=g1 } _ _ l1 (D1.frame _ _ _ h1 fun c hc o e=>k1 c o (fun y=>ap.z1 (y ▸ hc)) e) fun x g2 tk2 px st1 sb2=>au9 ?_
 have k2:∀ c o,c ≠ z->c ≠ i1->s.heap.get? c=some o->g2.get? c=some o:=fun c o c1 c2 e=>sb2.extBut c o c2 (k1 c o c1 e)
 have to2:IsPair g2 TO a b:=k2 _ _ ap.TOz (iS ap ap.o1) hto
 apply au5
 apply aF8 to2 rfl
 apply au5
 refine wpAny_updateSeq_pair to2 fun g3 to3 sb3=>?_
 have to3:IsPair g3 TO x b:=to3
 apply au5
 apply wpAny_letGo
 apply au9
 apply au5
 apply au5
 apply wpAny_onRaise
 change wpAny _ _ (Builtin.SmallTypes.nextOf (.ref i2) >>= _) _ _ _
 apply au5
 have k3:∀ c o,c ≠ z->c ≠ i1->c ≠ TO->s.heap.get? c=some o->g3.get? c=some o:=fun c o c1 c2 c3 e=>sb3.extBut c o c3 (k2 c o c1 c2 e)
 refine D2.item i { s with heap:=g3,toks:=tk2 } _ _ l2 (D2.frame _ _ _ h2 fun c hc o e=>k3 c o (fun y=>ap.z2 (y ▸ hc)) (fun y=>ap.n1 (y ▸ hc)) (fun y=>ap.o2 (y ▸ hc)) e) fun y g4 tk4 py st2 sb4=>au9 ?_
 have to4:IsPair g4 TO x b:=sb4.extBut _ _ (m6 ap ap.o2) to3
 apply au5
 apply aF8 to4 rfl
 apply au5
 refine wpAny_updateSeq_pair to4 fun g5 to5 sb5=>?_
 have to5:IsPair g5 TO x y:=to5
 apply au5
 apply wpAny_letGo
 apply au9
 apply au9
 apply au5
 apply aF8 to5 rfl
 apply au5
 refine wpAny_newTuple ?_ (by show 2<=sizeLine; decide)
 have size:g5.objs.size=s.heap.objs.size:=by rw [sb5.1,sb4.1,sb3.1,sb2.1,sb1.1]
 have k5:∀ c o,c ≠ z->c ≠ TO->c ≠ i1->c ≠ i2->s.heap.get? c=some o->g5.get? c=some o:=fun c o c1 c2 c3 c4 e=>sb5.extBut c o c2 (sb4.extBut c o c4 (k3 c o c1 c3 c2 e))
 have z5:IsZip g5 z TI TO .ellipsis:=sb5.extBut _ _ (Ne.symm ap.TOz) (sb4.extBut _ _ (m6 ap ap.z2) (sb3.extBut _ _ (Ne.symm ap.TOz) (sb2.extBut _ _ (iS ap ap.z1) hz1)))
 change wpAny _ _ (Builtin.SmallTypes.ownedTupleHandOut (.ref z) (.ref g5.objs.size) >>= _) _ _ _
 apply au5
 unfold Builtin.SmallTypes.ownedTupleHandOut
 apply au5
 have z6:IsZip (g5.push { cls:=.type "tuple",data:=.seq #[x,y] }) z TI TO .ellipsis:=au6 _ z5
 refine aG0 z6 (by simp) fun g7 z7 sb7=>?_
 have z7:IsZip g7 z TI TO (rawInt g5.objs.size):=z7
 refine aG0 z7 (by simp) fun g8 z8 sb8=>?_
 have z8:IsZip g8 z TI TO (rawInt g5.objs.size):=z8
 have zlt:z < g5.objs.size:=aw2 z5
 have up:∀ c o,c ≠ z->g5.get? c=some o->g8.get? c=some o:=fun c o c1 e=>sb8.extBut c o c1 (sb7.extBut c o c1 (au6 _ e))
 have p8:IsPair g8 g5.objs.size x y:=sb8.extBut _ _ (aD7 zlt) (sb7.extBut _ _ (aD7 zlt) (aw8 _ rfl))
 have s8:g8.objs.size=g5.objs.size+1:=by rw [sb8.1,sb7.1,aE5]
 have f1:St1 (i+1) g8:=D1.frame _ _ _ st1 fun c hc o e=>up c o (fun y=>ap.z1 (y ▸ hc)) (sb5.extBut c o (fun y=>ap.o1 (y ▸ hc)) (sb4.extBut c o (fun y=>ap.n2 (y ▸ hc)) (sb3.extBut c o (fun y=>ap.o1 (y ▸ hc)) e)))
 have f2:St2 (i+1) g8:=D2.frame _ _ _ st2 fun c hc o e=>up c o (fun y=>ap.z2 (y ▸ hc)) (sb5.extBut c o (fun y=>ap.o2 (y ▸ hc)) e)
 have ti8:IsPair g8 TI (.ref i1) (.ref i2):=up _ _ ap.TIz (k5 _ _ ap.TIz ap.TITO (iS ap ap.t1) (m6 ap ap.t2) hti)
 rw [size] at z8 p8 s8
 apply au9
 refine⟨_,rfl,au9 ?_⟩
 change Q (some (.ref g5.objs.size)) _
 rw [size]
 exact q x y g8 tk4 px py ⟨z8,ti8,⟨x,y,up _ _ ap.TOz to5⟩,f1,f2⟩ p8 (fun c o c1 c2 c3 c4 e=>up c o c1 (k5 c o c1 c2 c3 c4 e)) s8
theorem fin (D1:Draws prog w A.in1 i1 fp1 n1 P1 St1) (D2:Draws prog w A.in1 i2 fp2 n2 P2 St2) (ap:Ap z TI TO i1 i2 fp1 fp2) {i:Nat} (le:i=n1 ∨ (i < n1/\i=n2)) (st:pX z TI TO i1 i2 St1 St2 .none i i s.heap) {Q:Option Value->Shared->Prop}
  (q:∀ h' tk,(∀ c o,c ≠ z->c ≠ TO->c ≠ i1->c ≠ i2->s.heap.get? c=some o->h'.get? c=some o)->Q none { s with heap:=h',toks:=tk }):wpAny (model prog w) A (pyNext (.ref z)) Q E s:=by
 obtain ⟨hz,hti,⟨a,b,hto⟩,h1,h2⟩:=st
 have T:s.TypeIs (.ref z) "zip":=⟨_,hz,rfl⟩
 have slot:=PySem.F.slot_zip_next
 unfold pyNext
 apply au5
 apply wpAny_attempt
 apply aB2 (name:=Str.ofString "__next__") T slot
 apply aB9 slot T PySem.F.entry_zip_next _ (PySem.F.args_zip_next_1 _)
 change wpAny _ _ (field (.ref z) 2 >>= _) _ _ _
 apply au5
 refine aC8 hz rfl (x:=.bool false) rfl ?_
 change wpAny _ _ (field (.ref z) 3 >>= _) _ _ _
 apply au5
 refine aC8 hz rfl (x:=.ref TI) rfl ?_
 apply au5
 apply aF8 hti rfl
 change wpAny _ _ (Builtin.SmallTypes.ownedTupleIsFree (.ref z) >>= _) _ _ _
 apply au5
 unfold Builtin.SmallTypes.ownedTupleIsFree
 apply au5
 refine aC8 hz rfl (x:=.none) rfl (au9 ?_)
 simp only [if_true]
 apply au5
 apply aF9
 apply au5
 refine aC8 hz rfl (x:=.ref TO) rfl ?_
 apply au5
 refine aG0 hz (by simp) fun g1 hz1 sb1=>?_
 have k1:∀ c o,c ≠ z->s.heap.get? c=some o->g1.get? c=some o:=fun c o c1 e=>sb1.extBut c o c1 e
 apply au5
 simp only [List.zipIdx_cons,List.zipIdx_nil,List.forIn_cons,List.forIn_nil]
 apply au5
 apply au5
 apply wpAny_onRaise
 change wpAny _ _ (Builtin.SmallTypes.nextOf (.ref i1) >>= _) _ _ _
 apply au5
 have z1:IsZip g1 z TI TO .ellipsis:=hz1
 rcases le with rfl | ⟨lt,rfl⟩
 ·refine D1.done { s with heap:=g1 } _ _ (D1.frame _ _ _ h1 fun c hc o e=>k1 c o (fun y=>ap.z1 (y ▸ hc)) e) fun g2 e eb ex=>?_
  have z2:IsZip g2 z TI TO .ellipsis:=eb _ _ (iS ap ap.z1) z1
  refine aG0 z2 (by simp) fun g3 z3 sb3=>?_
  obtain ⟨oe,eo,co⟩:=ex
  have ne:e ≠ z:=fun y=>by
   rw [y,z2] at eo
   have:=ax4 eo
   rw [<- this] at co; exact absurd (show Value.type "zip" = Value.type "StopIteration" from co) (by decide)
  apply au5
  refine wpAny_isInstance (T:="StopIteration") (b:=true) ⟨oe,sb3.extBut _ _ ne eo,co⟩ isSubtype_stop ?_
  exact au9 (q g3 s.toks fun c o c1 _ c3 _ e=>sb3.extBut c o c1 (eb c o c3 (k1 c o c1 e)))
 ·refine D1.item i { s with heap:=g1 } _ _ lt (D1.frame _ _ _ h1 fun c hc o e=>k1 c o (fun y=>ap.z1 (y ▸ hc)) e) fun x g2 tk2 px st1 sb2=>au9 ?_
  have k2:∀ c o,c ≠ z->c ≠ i1->s.heap.get? c=some o->g2.get? c=some o:=fun c o c1 c2 e=>sb2.extBut c o c2 (k1 c o c1 e)
  have to2:IsPair g2 TO a b:=k2 _ _ ap.TOz (iS ap ap.o1) hto
  apply au5
  apply aF8 to2 rfl
  apply au5
  refine wpAny_updateSeq_pair to2 fun g3 to3 sb3=>?_
  apply au5
  apply wpAny_letGo
  apply au9
  apply au5
  apply au5
  apply wpAny_onRaise
  change wpAny _ _ (Builtin.SmallTypes.nextOf (.ref i2) >>= _) _ _ _
  apply au5
  have k3:∀ c o,c ≠ z->c ≠ i1->c ≠ TO->s.heap.get? c=some o->g3.get? c=some o:=fun c o c1 c2 c3 e=>sb3.extBut c o c3 (k2 c o c1 c2 e)
  refine D2.done { s with heap:=g3,toks:=tk2 } _ _ (D2.frame _ _ _ h2 fun c hc o e=>k3 c o (fun y=>ap.z2 (y ▸ hc)) (fun y=>ap.n1 (y ▸ hc)) (fun y=>ap.o2 (y ▸ hc)) e) fun g4 e eb ex=>?_
  have z4:IsZip g4 z TI TO .ellipsis:=eb _ _ (m6 ap ap.z2) (sb3.extBut _ _ (Ne.symm ap.TOz) (sb2.extBut _ _ (iS ap ap.z1) z1))
  refine aG0 z4 (by simp) fun g5 z5 sb5=>?_
  obtain ⟨oe,eo,co⟩:=ex
  have ne:e ≠ z:=fun y=>by
   rw [y,z4] at eo
   have:=ax4 eo
   rw [<- this] at co; exact absurd (show Value.type "zip" = Value.type "StopIteration" from co) (by decide)
  apply au5
  refine wpAny_isInstance (T:="StopIteration") (b:=true) ⟨oe,sb5.extBut _ _ ne eo,co⟩ isSubtype_stop ?_
  exact au9 (q g5 tk2 fun c o c1 c2 c3 c4 e=>sb5.extBut c o c1 (eb c o c4 (k3 c o c1 c3 c2 e)))
end
def dX (h:Heap) (t u:Addr):Heap:=
 ((((h.push { cls:=.type "tuple_iterator",data:=.fields #[.ref t,.int 0 0] }).push { cls:=.type "tuple_iterator",data:=.fields #[.ref u,.int 0 0] }).push { cls:=.type "tuple",data:=.seq #[.ref h.objs.size,.ref (h.objs.size+1)] }).push
  { cls:=.type "tuple",data:=.seq #[.none,.none] }).push { cls:=.type "zip",data:=.fields #[.none,.bool false,.bool false,.ref (h.objs.size+2),.ref (h.objs.size+3)] }
theorem U4 (t u:Addr) (xs ys:Array Value):Meets (Builtin.«zip.__new__» ⟨[.type "zip",.ref t,.ref u],[]⟩) (fun _ R s=>s.heap.IsTuple t xs/\s.heap.IsTuple u ys/\R (.ok (.ret (.ref (s.heap.objs.size+4)))) { s with heap:=dX s.heap t u }):=
 .of_wp fun prog w A R s h=>by
  obtain ⟨hp,g,d,tk,os⟩:=s
  obtain ⟨ht,hu,h⟩:=h
  have sub:=sub_zip
  have a1:Heap.IsTuple (Shared.heap ⟨hp,g,d,tk,os⟩) t xs:=ht
  have a2:Heap.IsTuple (Shared.heap ⟨hp.push { cls:=.type "tuple_iterator",data:=.fields #[.ref t,.int 0 0] },g,d,tk,os⟩) u ys:=hu.elim fun o y=>⟨o,au6 _ y.1,y.2⟩
  wp_walk using aF5 a1,aF5 a2
  have e:∀ (o:Obj) (k:Heap),(k.push o).objs.size=k.objs.size+1:=fun o k=>aE5 ..
  refine⟨_,rfl,?_⟩
  simp only [dX,e] at h ⊢
  exact h
section
variable {prog : Program} {w : World} {A : Around} {E : Value → Shared → Prop} {s : Shared}
theorem vD {t u:Addr}{xs ys:Array Value}{Q:Value->Shared->Prop} (ht:s.heap.IsTuple t xs) (hu:s.heap.IsTuple u ys)
  (q:∀ h',IsZip h' (s.heap.objs.size+4) (s.heap.objs.size+2) (s.heap.objs.size+3) .none->IsPair h' (s.heap.objs.size+2) (.ref s.heap.objs.size) (.ref (s.heap.objs.size+1))->
   IsPair h' (s.heap.objs.size+3) .none .none->h'.IsTupleIter s.heap.objs.size t 0->h'.IsTupleIter (s.heap.objs.size+1) u 0->(∀ c o,s.heap.get? c=some o->h'.get? c=some o)->Q (.ref (s.heap.objs.size+4)) { s with heap:=h' }) :
  wpAny (model prog w) A (call (.type "zip") [.ref t,.ref u]) Q E s:=by
 refine callType_new PySem.F.called_zip (by decide) (PySem.F.typeCall_zip_2 _ _) (PySem.F.newCall_zip_2 _ _) (fun obj=>PySem.F.args_object_init_3 obj _ _) PySem.F.entry_zip_new (U4 t u xs ys) ⟨ht,hu,?_⟩
 have e:∀ (o:Obj) (k:Heap),(k.push o).objs.size=k.objs.size+1:=fun o k=>aE5 ..
 have p0:∀ (k:Heap) (o:Obj) (m:Nat),o.isFreed=false->m=k.objs.size->(k.push o).get? m=some o:=fun k o m f z=>by rw [z]; exact aw8 _ f
 have g0:(dX s.heap t u).get? s.heap.objs.size=some { cls:=.type "tuple_iterator",data:=.fields #[.ref t,.int 0 0] }:=by
  unfold dX
  exact au6 _ (au6 _ (au6 _ (au6 _ (p0 _ _ _ rfl rfl))))
 have g1:(dX s.heap t u).get? (s.heap.objs.size+1)=some { cls:=.type "tuple_iterator",data:=.fields #[.ref u,.int 0 0] }:=by
  unfold dX
  exact au6 _ (au6 _ (au6 _ (p0 _ _ _ rfl (by simp only [e]))))
 have g2:(dX s.heap t u).get? (s.heap.objs.size+2)=some { cls:=.type "tuple",data:=.seq #[.ref s.heap.objs.size,.ref (s.heap.objs.size+1)] }:=by
  unfold dX
  exact au6 _ (au6 _ (p0 _ _ _ rfl (by simp only [e])))
 have g3:(dX s.heap t u).get? (s.heap.objs.size+3)=some { cls:=.type "tuple",data:=.seq #[.none,.none] }:=by
  unfold dX
  exact au6 _ (p0 _ _ _ rfl (by simp only [e]))
 have g4:(dX s.heap t u).get? (s.heap.objs.size+4)=some { cls:=.type "zip",data:=.fields #[.none,.bool false,.bool false,.ref (s.heap.objs.size+2),.ref (s.heap.objs.size+3)] }:=by
  unfold dX
  exact p0 _ _ _ rfl (by simp only [e])
 refine⟨⟨_,g4,rfl⟩,q _ g4 g2 g3 ⟨_,g0,rfl,rfl⟩ ⟨_,g1,rfl,rfl⟩ fun c o z=>?_⟩
 unfold dX
 exact au6 _ (au6 _ (au6 _ (au6 _ (au6 _ z))))
end
end Zp
namespace L2
open PySem PySem.Spec PyProof.Rows
def i7 (K:PySem.W.Frag) (a b:Addr):It:=
  ⟨fun i H=>∃ xs ys x y,aC K H a xs/\aC K H b ys/\xs[i]? = some x/\ys[i]? = some y,
   fun i H v H'=>∃ T x y,H T=none/\v = .ref T/\H'=upd H T (.tup [x,y])/\∀ xs ys,aC K H a xs->aC K H b ys->xs[i]? = some x/\ys[i]? = some y,
   fun i H=>∃ xs ys,aC K H a xs/\aC K H b ys/\(i=xs.length ∨ (i < xs.length/\i=ys.length))⟩
def Sq (t:Bool) (K:PySem.W.Frag) (H:Hp) (a:Addr) (xs:List V):Prop:=match t with
 | true=>aC K H a xs
 | false=>aI K H a xs
def dY (t:Bool) (h:Heap) (i a:Addr) (n:Nat):Prop:=match t with
 | true=>h.IsTupleIter i a n
 | false=>h.IsListIter i a n
def vE (t:Bool) (h:Heap) (a:Addr) (xs:Array Value):Prop:=match t with
 | true=>h.IsTuple a xs
 | false=>h.IsList a xs
theorem dY.at {h h':Heap}{i a:Addr}{n:Nat}:∀ {t:Bool},dY t h i a n->(∀ o,h.get? i=some o->h'.get? i=some o)->dY t h' i a n
 | true,x,k=>Heap.IsTupleIter.at x k
 | false,x,k=>Heap.IsListIter.at x k
theorem dY.ob {h:Heap}{i a:Addr}{n:Nat}:∀ {t:Bool},dY t h i a n->∃ o,h.get? i=some o/\∀ v,o.data ≠ .cell v
 | true,⟨o,f,_,d⟩=>⟨o,f,fun v q=>by rw [d] at q; cases q⟩
 | false,⟨o,f,_,d⟩=>⟨o,f,fun v q=>by rw [d] at q; cases q⟩
theorem dY.draws {prog:Program}{w:World}{A:Around}:∀ (t:Bool) (hh:A.handled=none) (it a:Addr) (ne:a ≠ it) (items:Array Value),Draws prog w A it [it,a] items.size (fun i v=>items[i]? = some v) (fun i h=>dY t h it a i/\vE t h a items)
 | true,hh,it,a,ne,items=>Zp.U3 hh it a ne items
 | false,hh,it,a,ne,items=>Draws.list hh it a ne items
section
variable {X : Cx} {pins : List (Addr × Obj)} {σ : St} {H : Hp} {s : Shared} {a : Addr} {xs ys : List V}
theorem Sq.get (I:a5 X pins σ H s):∀ {t:Bool},Sq t X.K H a xs->∃ us,aG xs us/\vE t s.heap a us.toArray
 | true,h=>by obtain ⟨us,r,p,_⟩:=I.tuple h; exact⟨us,r,p⟩
 | false,h=>by obtain ⟨us,r,p,_⟩:=I.list h; exact⟨us,r,p.isList⟩
theorem Sq.inj (I:a5 X pins σ H s):∀ {t:Bool},Sq t X.K H a xs->Sq t X.K H a ys->xs=ys
 | true,h,g=>I.tuple_inj h g
 | false,h,g=>I.list_inj h g
theorem Sq.off (I:a5 X pins σ H s) (he:H a=none) (hb:X.base.get? a=none):∀ {t:Bool},Sq t X.K H a xs->False
 | true,h=>by
  rcases h with (h | ⟨_,h⟩) | ⟨o,_,_,h,_⟩
  ·rw [he] at h; cases h
  ·rw [he] at h; cases h
  ·have:=I.ok.mod.kin a o h
   rw [hb] at this; cases this
 | false,h=>by
  rcases h with (h | ⟨_,h⟩) | ⟨o,_,_,h,_⟩
  ·rw [he] at h; cases h
  ·rw [he] at h; cases h
  ·have:=I.ok.mod.kin a o h
   rw [hb] at this; cases this
end
def U5 (t1 t2:Bool) (K:PySem.W.Frag) (a b:Addr):It:=
  ⟨fun i H=>∃ xs ys x y,Sq t1 K H a xs/\Sq t2 K H b ys/\xs[i]? = some x/\ys[i]? = some y,
   fun i H v H'=>∃ T x y,H T=none/\v = .ref T/\H'=upd H T (.tup [x,y])/\∀ xs ys,Sq t1 K H a xs->Sq t2 K H b ys->xs[i]? = some x/\ys[i]? = some y,
   fun i H=>∃ xs ys,Sq t1 K H a xs/\Sq t2 K H b ys/\(i=xs.length ∨ (i < xs.length/\i=ys.length))⟩
structure pY (t1 t2:Bool) (z TI TO i1 i2 a b:Addr) (i:Nat) (h:Heap):Prop where
 zz:IsZip h z TI TO .none
 ti:IsPair h TI (.ref i1) (.ref i2)
 to_:∃ x y,IsPair h TO x y
 s1:dY t1 h i1 a i
 s2:dY t2 h i2 b i
theorem vF (t1 t2:Bool) {P:Program}{w:World}{K:PySem.W.Frag}{elts:List Expr}{k:Nat}{pos:Pos} (a b z TI TO i1 i2:Addr) (d : [z,TI,TO,i1,i2].Nodup) :
  gD P w K (.Tuple elts k pos) (U5 t1 t2 K a b) [z,TI,TO,i1,i2] z (pY t1 t2 z TI TO i1 i2 a b):=by
 have nd:z ≠ TI/\z ≠ TO/\z ≠ i1/\z ≠ i2/\TI ≠ TO/\TI ≠ i1/\TI ≠ i2/\TO ≠ i1/\TO ≠ i2/\i1 ≠ i2:=by
  simp only [List.nodup_cons,av8,ax6,aE2,not_or] at d
  obtain ⟨⟨a1,a2,a3,a4⟩,⟨b1,b2,b3⟩,⟨c1,c2⟩,e1,_⟩:=d
  exact⟨a1,a2,a3,a4,b1,b2,b3,c1,c2,e1⟩
 obtain ⟨n1,n2,n3,n4,n5,n6,n7,n8,n9,n10⟩:=nd
 have offBase:∀ {X:Cx}{pins:List (Addr × Obj)}{σ:St}{H:Hp}{s:Shared},a5 X pins σ H s->(∀ c ∈ [z,TI,TO,i1,i2],e9 X pins H c)->∀ c ∈ [z,TI,TO,i1,i2],X.base.get? c=none:=by
  intro X pins σ H s I hf c hc
  cases q:X.base.get? c with
  | none=>rfl
  | some o=>
   rcases (hf c hc).2.2.2.1 with h | h
   ·exact absurd h (I.ok.noex c o q)
   ·exact absurd (av6 (aw2 q) (ay6 I.ok.bsz h)) (az5 _)
 have off:∀ {t:Bool}{X:Cx}{pins:List (Addr × Obj)}{σ:St}{H:Hp}{s:Shared}{c:Addr}{zs:List V},a5 X pins σ H s->(∀ c ∈ [z,TI,TO,i1,i2],e9 X pins H c)->Sq t X.K H c zs->c ∉ [z,TI,TO,i1,i2]:=by
  intro t X pins σ H s c zs I hf hc hm
  exact Sq.off I (hf c hm).1 (offBase I hf c hm) hc
 have ap:∀ {c e:Addr},c ∉ [z,TI,TO,i1,i2]->e ∉ [z,TI,TO,i1,i2]->Zp.Ap z TI TO i1 i2 [i1,c] [i2,e]:=fun {c e} hc he=>by
  simp only [av8,ax6,aE2,not_or] at hc he
  obtain ⟨c1,c2,c3,c4,c5⟩:=hc
  obtain ⟨e1,e2,e3,e4,e5⟩:=he
  have two:∀ {q u v:Addr},q ≠ u->q ≠ v->q ∉ [u,v]:=fun {q u v} h1 h2 hm=>by
   simp only [av8,ax6,aE2] at hm
   exact hm.elim h1 h2
  exact⟨n1.symm,n2.symm,n5,two n3 (Ne.symm c1),two n4 (Ne.symm e1),two n8 (Ne.symm c3),two n9 (Ne.symm e3),two n6 (Ne.symm c2),two n7 (Ne.symm e2),av5,av5,two n10 (Ne.symm e4),two n10.symm (Ne.symm c5)⟩
 refine⟨by simp,fun i h st c hc=>?_,fun i h h' st kp=>?_,?_,?_,fun A i s Q E st q=>wpAny_pyIter_zip st.zz q⟩
 ·simp only [av8,ax6,aE2] at hc
  obtain ⟨x,y,to⟩:=st.to_
  rcases hc with rfl | rfl | rfl | rfl | rfl
  ·exact⟨_,st.zz,fun v q=>by cases q⟩
  ·exact⟨_,st.ti,fun v q=>by cases q⟩
  ·exact⟨_,to,fun v q=>by cases q⟩
  ·exact st.s1.ob
  ·exact st.s2.ob
 ·obtain ⟨x,y,to⟩:=st.to_
  exact⟨kp z (by simp) _ st.zz,kp TI (by simp) _ st.ti,⟨x,y,kp TO (by simp) _ to⟩,st.s1.at fun o e=>kp i1 (by simp) o e,st.s2.at fun o e=>kp i2 (by simp) o e⟩
 ·
  intro X hP hw hK hc i pins s σ H E I hf st hg
  subst hP hw hK
  obtain ⟨xs,ys,x,y,ha,hb,hx,hy⟩:=hg
  obtain ⟨us,ru,pu⟩:=Sq.get I ha
  obtain ⟨vs,rv,pv'⟩:=Sq.get I hb
  obtain ⟨ux,eux,rux⟩:=ru.get hx
  obtain ⟨vy,evy,rvy⟩:=rv.get hy
  have fa:=off I hf ha
  have fb:=off I hf hb
  have hh:X.A.in1.handled=none:=I.ok.hd hc
  have l1:i < us.toArray.size:=by simpa using (av4.mp eux).1
  have l2:i < vs.toArray.size:=by simpa using (av4.mp evy).1
  have fa':a ≠ i1:=fun q=>fa (by rw [q]; simp)
  have fb':b ≠ i2:=fun q=>fb (by rw [q]; simp)
  have D1:=dY.draws t1 (prog:=X.prog) (w:=X.w) hh i1 a fa' us.toArray
  have D2:=dY.draws t2 (prog:=X.prog) (w:=X.w) hh i2 b fb' vs.toArray
  refine Zp.item D1 D2 (ap fa fb) l1 l2 ⟨st.zz,st.ti,st.to_,⟨st.s1,pu⟩,⟨st.s2,pv'⟩⟩ fun p q h' tk hp hq st' pr kp sz=>⟨_,rfl,?_⟩
  obtain rfl:p=ux:=by
   have:us.toArray[i]? = some ux:=by simpa using eux
   rw [this] at hp; exact (ax4 hp).symm
  obtain rfl:q=vy:=by
   have:vs.toArray[i]? = some vy:=by simpa using evy
   rw [this] at hq; exact (ax4 hq).symm
  refine wpAny_letOwnedTupleGo_zip (s:={ s with heap:=h',toks:=tk }) st'.zz fun g zz sb=>?_
  have hzl:z < s.heap.objs.size:=aw2 st.zz
  have up:∀ c o,c ≠ z->c ≠ TO->c ≠ i1->c ≠ i2->s.heap.get? c=some o->g.get? c=some o:=fun c o c1 c2 c3 c4 e=>sb.extBut c o c1 (kp c o c1 c2 c3 c4 e)
  have hT:H s.heap.objs.size=none:=I.hok.fresh (au7 _)
  have prG:IsPair g s.heap.objs.size p q:=sb.extBut _ _ (aD7 hzl) pr
  have fpn:∀ c u,H c=some u->c ∉ [z,TI,TO,i1,i2]:=fun c u e hm=>by rw [(hf c hm).1] at e; cases e
  have upH:∀ c o u,H c=some u->s.heap.get? c=some o->g.get? c=some o:=fun c o u e z=>by
   have:=fpn c u e
   simp only [av8,ax6,aE2,not_or] at this
   exact up c o this.1 this.2.2.1 this.2.2.2.1 this.2.2.2.2 z
  have ns:∀ m,s.heap.Ns X.env.locals m->g.Ns X.env.locals m:=fun m hm=>by
   obtain ⟨o,es,ep,e1,e2⟩:=hm
   exact⟨o,es,ep,up _ o (Ne.symm (hf z (by simp)).2.1) (Ne.symm (hf TO (by simp)).2.1) (Ne.symm (hf i1 (by simp)).2.1) (Ne.symm (hf i2 (by simp)).2.1) e1,e2⟩
  have I2:a5 X pins σ (upd H s.heap.objs.size (.tup [x,y])) { s with heap:=g,toks:=tk }:=by
   refine I.step (g':=s.gens) (d':=s.drawn) (ch:=[z,TO,i1,i2]) (fun c hc'=>?_) (fun c o _ _ hc' e _=>?_) (fun c o _ _ hc' e _=>⟨o.slots,?_⟩) (fun c o _ e n=>?_) (fun c o hc' e=>⟨o,?_⟩)
    (fun c zs e=>by rw [aN (cE e hT)]; exact e) (fun c u zs e=>by rw [aN (cE e hT)]; exact e) (fun c ps e=>⟨#[],by rw [aN (cE e hT),e]; simp⟩) ns (fun c u e=>?_) I.bare
   ·have hm:c ∈ [z,TI,TO,i1,i2]:=by
     simp only [av8,ax6,aE2] at hc' ⊢
     rcases hc' with h | h | h | h <;> simp [h]
    exact⟨(hf c hm).2.2.2.1,(hf c hm).2.1,(hf c hm).2.2.2.2.1,(hf c hm).2.2.2.2.2⟩
   ·simp only [av8,ax6,aE2,not_or] at hc'
    exact up c o hc'.1 hc'.2.1 hc'.2.2.1 hc'.2.2.2 e
   ·simp only [av8,ax6,aE2,not_or] at hc'
    exact up c o hc'.1 hc'.2.1 hc'.2.2.1 hc'.2.2.2 e
   ·rw [aN (ay1 (aw2 e))]; exact n
   ·simp only [av8,ax6,aE2,not_or] at hc'
    exact up c o hc'.1 hc'.2.1 hc'.2.2.1 hc'.2.2.2 e
   ·by_cases hcT:c=s.heap.objs.size
    ·subst hcT
     rw [aZ] at e; cases e
     exact⟨by show 2<=sizeLine; decide,[p,q],.cons rux (.cons rvy .nil),⟨_,prG,rfl,_,rfl⟩⟩
    ·rw [aN hcT] at e
     refine (I.hok c u e).stay (fun c' o' hc2 q'=>?_) (fun c' q'=>by rw [aN (cE q' hT)]; exact q') fun c' zs q'=>by rw [aN (cE q' hT)]; exact q'
     rcases hc2 with rfl | hc2
     ·exact upH _ _ _ e q'
     ·exact upH _ _ _ hc2 q'
  obtain ⟨x',y',to'⟩:=st'.to_
  refine⟨.ref s.heap.objs.size,_,I2,rfl,⟨_,x,y,hT,rfl,rfl,fun xs' ys' ha' hb'=>?_⟩,⟨zz,sb.extBut _ _ n1.symm st'.ti,⟨x',y',sb.extBut _ _ n2.symm to'⟩,st'.s1.1.at fun o e=>sb.extBut _ o n3.symm e,st'.s2.1.at fun o e=>sb.extBut _ o n4.symm e⟩,fun c hc'=>?_⟩
  ·rw [Sq.inj I ha' ha,Sq.inj I hb' hb]; exact⟨hx,hy⟩
  ·obtain ⟨o,e,_⟩:∃ o,s.heap.get? c=some o/\True:=by
    simp only [av8,ax6,aE2] at hc'
    obtain ⟨x2,y2,to2⟩:=st.to_
    obtain ⟨o1,f1,_⟩:=st.s1.ob
    obtain ⟨o2,f2,_⟩:=st.s2.ob
    rcases hc' with rfl | rfl | rfl | rfl | rfl
    ·exact⟨_,st.zz,trivial⟩
    ·exact⟨_,st.ti,trivial⟩
    ·exact⟨_,to2,trivial⟩
    ·exact⟨_,f1,trivial⟩
    ·exact⟨_,f2,trivial⟩
   rw [aN (ay1 (aw2 e))]; exact (hf c hc').1
 ·
  intro X hP hw hK hc i pins s σ H E I hf st hg
  subst hP hw hK
  obtain ⟨xs,ys,ha,hb,hi⟩:=hg
  obtain ⟨us,ru,pu⟩:=Sq.get I ha
  obtain ⟨vs,rv,pv'⟩:=Sq.get I hb
  have fa:=off I hf ha
  have fb:=off I hf hb
  have hh:X.A.in1.handled=none:=I.ok.hd hc
  have fa':a ≠ i1:=fun q=>fa (by rw [q]; simp)
  have fb':b ≠ i2:=fun q=>fb (by rw [q]; simp)
  have D1:=dY.draws t1 (prog:=X.prog) (w:=X.w) hh i1 a fa' us.toArray
  have D2:=dY.draws t2 (prog:=X.prog) (w:=X.w) hh i2 b fb' vs.toArray
  have e1:=ru.length
  have e2:=rv.length
  refine Zp.fin D1 D2 (ap fa fb) (by simp only [aw1]; omega) ⟨st.zz,st.ti,st.to_,⟨st.s1,pu⟩,⟨st.s2,pv'⟩⟩ fun g tk kp=>⟨rfl,?_⟩
  have fpn:∀ c u,H c=some u->c ∉ [z,TI,TO,i1,i2]:=fun c u e hm=>by rw [(hf c hm).1] at e; cases e
  have upH:∀ c o u,H c=some u->s.heap.get? c=some o->g.get? c=some o:=fun c o u e z=>by
   have:=fpn c u e
   simp only [av8,ax6,aE2,not_or] at this
   exact kp c o this.1 this.2.2.1 this.2.2.2.1 this.2.2.2.2 z
  have ns:∀ m,s.heap.Ns X.env.locals m->g.Ns X.env.locals m:=fun m hm=>by
   obtain ⟨o,es,ep,e1,e2⟩:=hm
   exact⟨o,es,ep,kp _ o (Ne.symm (hf z (by simp)).2.1) (Ne.symm (hf TO (by simp)).2.1) (Ne.symm (hf i1 (by simp)).2.1) (Ne.symm (hf i2 (by simp)).2.1) e1,e2⟩
  refine I.step (g':=s.gens) (d':=s.drawn) (ch:=[z,TO,i1,i2]) (fun c hc'=>?_) (fun c o _ _ hc' e _=>?_) (fun c o _ _ hc' e _=>⟨o.slots,?_⟩) (fun c o _ e n=>n) (fun c o hc' e=>⟨o,?_⟩)
   (fun c zs e=>e) (fun c u zs e=>e) (fun c ps e=>⟨#[],by rw [e]; simp⟩) ns (fun c u e=>?_) I.bare
  ·have hm:c ∈ [z,TI,TO,i1,i2]:=by
    simp only [av8,ax6,aE2] at hc' ⊢
    rcases hc' with h | h | h | h <;> simp [h]
   exact⟨(hf c hm).2.2.2.1,(hf c hm).2.1,(hf c hm).2.2.2.2.1,(hf c hm).2.2.2.2.2⟩
  ·simp only [av8,ax6,aE2,not_or] at hc'
   exact kp c o hc'.1 hc'.2.1 hc'.2.2.1 hc'.2.2.2 e
  ·simp only [av8,ax6,aE2,not_or] at hc'
   exact kp c o hc'.1 hc'.2.1 hc'.2.2.1 hc'.2.2.2 e
  ·simp only [av8,ax6,aE2,not_or] at hc'
   exact kp c o hc'.1 hc'.2.1 hc'.2.2.1 hc'.2.2.2 e
  ·refine (I.hok c u e).stay (fun c' o' hc2 q'=>?_) (fun _ q'=>q') fun _ _ q'=>q'
   rcases hc2 with rfl | hc2
   ·exact upH _ _ _ e q'
   ·exact upH _ _ _ hc2 q'
abbrev U6:=pY true true
theorem vG {P:Program}{w:World}{K:PySem.W.Frag}{elts:List Expr}{k:Nat}{pos:Pos} (a b z TI TO i1 i2:Addr) (d : [z,TI,TO,i1,i2].Nodup) :
  gD P w K (.Tuple elts k pos) (i7 K a b) [z,TI,TO,i1,i2] z (U6 z TI TO i1 i2 a b):=vF true true a b z TI TO i1 i2 d
section
variable {X : Cx}
def U7 (K:PySem.W.Frag) (ta:TA):TI:=fun σ H R=>ta σ H fun vs H1=>∃ a b xs ys,vs = [.ref a,.ref b]/\aC K H1 a xs/\aC K H1 b ys/\R (i7 K a b) H1
theorem U8 {elts:List Expr}{kt:Nat}{pt:Pos}{a b:Expr}{ta:TA}{p pos:Pos} (hg:Gl X "zip") (hm:X.mg "zip" = none) (ha:PA X [a,b] ta) (hs:starEach [a,b] X.env = [(false,eval a X.env),(false,eval b X.env)]:=by rfl) (hs2:starEach [b] X.env = [(false,eval b X.env)]:=by rfl) :
  PI X (.Tuple elts kt pt) (.Call (.Name "zip" p) [a,b] [] pos) (U7 X.K ta):=by
 intro pins s σ H R I h
 refine Call_ (gC I hg hm PyProof.Rows.boot_zip (aA9 (aJ (ha pos pins s σ H _ I h) fun us s1 ⟨vs,H1,I1,r1,q1⟩=>?_) (by rw [hs,hs2]) (by rw [hs2]; rfl)))
 obtain ⟨a',b',xs,ys,e,h1,h2,q⟩:=q1
 subst e
 cases r1 with
 | cons r rr=>
  cases rr with
  | cons r' rr=>
   cases rr
   cases r
   cases r'
   obtain ⟨us,_,p1,_⟩:=I1.tuple h1
   obtain ⟨ws,_,p2,_⟩:=I1.tuple h2
   refine Zp.vD p1 p2 fun h' z ti to s1' s2' kp=>wpAny_pyIter_zip z ?_
   have fresh:∀ k,H1 (s1.heap.objs.size+k)=none:=fun k=>I1.hok.fresh (ax2 _ _)
   refine⟨s1.heap.objs.size+4,[s1.heap.objs.size+4,s1.heap.objs.size+2,s1.heap.objs.size+3,s1.heap.objs.size,s1.heap.objs.size+1],_,_,H1,rfl,I1.kept (t':=s1.toks) kp,
    vG a' b' _ _ _ _ _ (by simp),⟨z,ti,⟨_,_,to⟩,s1',s2'⟩,fun c hc=>?_,q⟩
   simp only [av8,ax6,aE2] at hc
   rcases hc with rfl | rfl | rfl | rfl | rfl
   ·exact I1.fpOk (ax2 _ _) (fresh 4)
   ·exact I1.fpOk (ax2 _ _) (fresh 2)
   ·exact I1.fpOk (ax2 _ _) (fresh 3)
   ·exact I1.fpOk (au7 _) (fresh 0)
   ·exact I1.fpOk (ax2 _ _) (fresh 1)
end
end L2
namespace HT
open PySem PyProof.Rows
section
variable {prog : Program} {w : World} {A : Around} {E : Value → Shared → Prop} {s : Shared}
theorem U9 {t sl:Addr}{items:Array Value}{vl vu:Value}{lo hi:Option Int}{Q:Value->Shared->Prop} (ht:IsTup s.heap t items) (hs:s.heap.IsSliceOf sl vl vu .none) (pl:IsPart vl lo) (pu:IsPart vu hi)
  (h1:aL items.size 0 lo=0) (h2:aL items.size items.size hi=items.size) (h:Q (.ref t) s):wpAny (model prog w) A (getItem (.ref t) (.ref sl)) Q E s:=by
 obtain ⟨o,e1,e2,e3⟩:=id hs
 have T:s.TypeIs (.ref sl) "slice":=⟨o,e1,e2⟩
 unfold getItem
 try with_reducible refine aG8 ?_
 first | refine au5 (au9 ?_) | skip
 apply au5
 apply wpAny_sequenceKey ht.typeIs (by decide)
 apply au5
 apply aB2 (name:=Str.ofString "__getitem__") ht.typeIs aE0
 apply aB9 aE0 ht.typeIs entry_tuple_getitem _ (args_tuple_getitem _ _)
 change wpAny _ _ (Builtin.Tuple.tupleItemsOf (.ref t) >>= _) _ _ s
 apply au5
 apply tupleItemsOf_ ht
 apply au5
 apply wpAny_typeOf T
 rw [if_pos (by decide)]
 apply au5
 apply tY hs pl pu
 rw [h1,h2]
 have yes:((((0:Nat):Int) == 0 && (1:Int) == 1 && (items.size - 0) == items.size)=true):=by simp
 change wpAny _ _ (if ((((0:Nat):Int) == 0 && (1:Int) == 1 && (items.size - 0) == items.size)=true) then _ else _) _ _ s
 rw [if_pos yes]
 apply au5
 unfold Builtin.Tuple.tupleIsExact
 apply au5
 apply wpAny_typeOf ht.typeIs
 apply au9
 change wpAny _ _ (rule "tuple.getitem.whole" >>= fun _=>ret (Value.ref t)) _ _ s
 apply au5
 apply aF9
 exact au9 ⟨_,rfl,au9 h⟩
end
end HT
namespace L2
open PySem PySem.Spec PyProof.Rows
section
variable {X : Cx}
def V0 (K:PySem.W.Frag):V->Option Int->Option Int->Hp->VK->Prop:=fun x lo hi H Q=>∃ a xs,x = .ref a/\aC K H a xs/\(∀ p,H p=none->Q (.ref p) (upd H p (.tup (eS xs lo hi))))/\(eS xs lo hi=xs->Q (.ref a) H)
theorem V1:gG X (V0 X.K):=by
 intro pins s σ H x v vl vu lo hi sl Q I rx hs pl pu h
 obtain ⟨a,xs,ex,hx,q1,q2⟩:=h
 by_cases hw:HT.aL xs.length 0 lo=0/\HT.aL xs.length xs.length hi=xs.length
 ·subst ex
  cases rx
  obtain ⟨its,r,ht,hz⟩:=I.tuple hx
  have hlen:its.toArray.size=xs.length:=by rw [aw1]; exact r.length.symm
  refine⟨"tuple",_,PyProof.Rows.slot_tuple_getitem.lookup,ht.typeIs,?_⟩
  refine HT.U9 ht hs pl pu (by rw [hlen]; exact hw.1) (by rw [hlen]; exact hw.2) ⟨.ref a,H,I,rfl,q2 ?_⟩
  unfold eS
  rw [hw.1,hw.2]
  simp
 ·exact M2 pins s σ H x v vl vu lo hi sl Q I rx hs pl pu ⟨a,xs,ex,hx,hw,q1⟩
end
end L2
namespace PP
open PySem L2
inductive PV where
 | non | bl (b:Bool) | int (i:Int) | str (x:Str) | tup (xs:List PV) | lst (xs:List PV)
 | dK (kvs:List (aH × PV)) | dT (kvs:List (List aH × PV)) | scr (ns:List Int) | kt (xs:List PV) | exc (c:Str)
mutual
def flat:PV->Bool
 | .tup xs=>flats xs
 | .lst _=>false
 | .dK _=>false
 | .dT _=>false
 | .non=>true
 | .bl _=>true
 | .int _=>true
 | .str _=>true
 | .scr _=>true
 | .kt xs=>flats xs
 | .exc _=>true
def flats:List PV->Bool
 | []=>true
 | x :: r=>flat x && flats r
end
def fV (K:PySem.W.Frag) (H:Hp) (a:Addr) (ns:List Int):Prop:=(∃ o,H a=some (.frz o (.lst (ns.map V.int)))) ∨
  ∃ (o:Obj) (its:Array Value) (n:Nat),K.lookup a=some o/\o.cls = .type "list"/\o.dict=none/\o.data = .seq its n/\its.size<=sizeLine/\aG (ns.map V.int) its.toList
def V2 (K:PySem.W.Frag) (a:Addr) (us:List V):Prop:=∃ (o:Obj) (its:Array Value) (n:Nat),K.lookup a=some o/\o.cls = .type "tuple"/\o.data = .seq its n/\its.size<=sizeLine/\aG us its.toList
mutual
inductive aE (K:PySem.W.Frag) (M:Addr->Prop) (H:Hp):V->PV->Prop
 | non:aE K M H .non .non
 | bl (b:Bool):aE K M H (.bl b) (.bl b)
 | int (i:Int):aE K M H (.int i) (.int i)
 | str (x:Str):aE K M H (.str x) (.str x)
 | tup {a:Addr}{us:List V}{xs:List PV}:H a=some (.tup us)->Reps K M H us xs->aE K M H (.ref a) (.tup xs)
 | lst {a:Addr}{us:List V}{xs:List PV}:M a->H a=some (.lst us)->Reps K M H us xs->aE K M H (.ref a) (.lst xs)
 | dK {a:Addr}{kvs:List (aH × V)}{ps:List (aH × PV)}:M a->H a=some (.dK kvs)->kvs.map (·.1)=ps.map (·.1)->Reps K M H (kvs.map (·.2)) (ps.map (·.2))->aE K M H (.ref a) (.dK ps)
 | dT {a:Addr}{kvs:List (List aH × V)}{ps:List (List aH × PV)}:M a->H a=some (.dT kvs)->kvs.map (·.1)=ps.map (·.1)->Reps K M H (kvs.map (·.2)) (ps.map (·.2))->aE K M H (.ref a) (.dT ps)
 | scr {a:Addr}{ns:List Int}:fV K H a ns->aE K M H (.ref a) (.scr ns)
 | kt {a:Addr}{us:List V}{xs:List PV}:V2 K a us->Reps K M H us xs->aE K M H (.ref a) (.kt xs)
 | exc {a C:Addr}{o:Obj}{c:Str}:H a=some (.frz o (.own a))->PySem.W.nsIn K mainGlobals c=some (some (.ref C))->o.cls = .ref C->aE K M H (.ref a) (.exc c)
inductive Reps (K:PySem.W.Frag) (M:Addr->Prop) (H:Hp):List V->List PV->Prop
 | nil:Reps K M H [] []
 | cons {v:V}{x:PV}{vs:List V}{xs:List PV}:aE K M H v x->Reps K M H vs xs->Reps K M H (v :: vs) (x :: xs)
end
structure fF (M M':Addr->Prop) (H H':Hp):Prop where
 lst:∀ a us,M a->H a=some (.lst us)->M' a/\H' a=some (.lst us)
 dK:∀ a kvs,M a->H a=some (.dK kvs)->M' a/\H' a=some (.dK kvs)
 dT:∀ a kvs,M a->H a=some (.dT kvs)->M' a/\H' a=some (.dT kvs)
 tup:∀ a us,H a=some (.tup us)->H' a=some (.tup us)
 frz:∀ a o u,H a=some (.frz o u)->H' a=some (.frz o u)
theorem fV.keep {K:PySem.W.Frag}{H H':Hp}{a:Addr}{ns:List Int} (k:∀ a o u,H a=some (.frz o u)->H' a=some (.frz o u)) (h:fV K H a ns):fV K H' a ns:=
 h.elim (fun ⟨o,e⟩=>.inl ⟨o,k _ _ _ e⟩) .inr
mutual
theorem aE.keep {K:PySem.W.Frag}{M M':Addr->Prop}{H H':Hp} (k:fF M M' H H'):∀ {v:V}{x:PV},aE K M H v x->aE K M' H' v x
 | _,_,.non=>.non
 | _,_,.bl b=>.bl b
 | _,_,.int i=>.int i
 | _,_,.str x=>.str x
 | _,_,.tup h r=>.tup (k.tup _ _ h) (Reps.keep k r)
 | _,_,.lst m h r=>.lst (k.lst _ _ m h).1 (k.lst _ _ m h).2 (Reps.keep k r)
 | _,_,.dK m h e r=>.dK (k.dK _ _ m h).1 (k.dK _ _ m h).2 e (Reps.keep k r)
 | _,_,.dT m h e r=>.dT (k.dT _ _ m h).1 (k.dT _ _ m h).2 e (Reps.keep k r)
 | _,_,.scr h=>.scr (h.keep k.frz)
 | _,_,.kt h r=>.kt h (Reps.keep k r)
 | _,_,.exc h e c=>.exc (k.frz _ _ _ h) e c
theorem Reps.keep {K:PySem.W.Frag}{M M':Addr->Prop}{H H':Hp} (k:fF M M' H H'):∀ {vs:List V}{xs:List PV},Reps K M H vs xs->Reps K M' H' vs xs
 | _,_,.nil=>.nil
 | _,_,.cons r t=>.cons (aE.keep k r) (Reps.keep k t)
end
mutual
theorem aE.flat {K:PySem.W.Frag}{M M':Addr->Prop}{H:Hp}{v:V}{x:PV} (f:flat x=true) (r:aE K M H v x):aE K M' H v x:=by
 cases r with
 | non=>exact .non
 | bl b=>exact .bl b
 | int i=>exact .int i
 | str x=>exact .str x
 | tup h r=>exact .tup h (Reps.flat (by unfold PP.flat at f; exact f) r)
 | lst m h r=>unfold PP.flat at f; cases f
 | dK m h e r=>unfold PP.flat at f; cases f
 | dT m h e r=>unfold PP.flat at f; cases f
 | scr h=>exact .scr h
 | kt h r=>exact .kt h (Reps.flat (by unfold PP.flat at f; exact f) r)
 | exc h e c=>exact .exc h e c
theorem Reps.flat {K:PySem.W.Frag}{M M':Addr->Prop}{H:Hp}{vs:List V}{xs:List PV} (f:flats xs=true) (r:Reps K M H vs xs):Reps K M' H vs xs:=by
 cases r with
 | nil=>exact .nil
 | cons r t=>
  unfold PP.flats at f
  rw [aE3] at f
  exact .cons (aE.flat f.1 r) (Reps.flat f.2 t)
end
theorem fF.same {M M':Addr->Prop}{H H':Hp} (s:a8 H H') (m:∀ a,M a->M' a):fF M M' H H':=
 ⟨fun a _ h e=>⟨m a h,s _ _ e⟩,fun a _ h e=>⟨m a h,s _ _ e⟩,fun a _ h e=>⟨m a h,s _ _ e⟩,fun _ _ e=>s _ _ e,fun _ _ _ e=>s _ _ e⟩
theorem aE.same {K:PySem.W.Frag}{M M':Addr->Prop}{H H':Hp}{v:V}{x:PV} (r:aE K M H v x) (s:a8 H H') (m:∀ a,M a->M' a):aE K M' H' v x:=r.keep (.same s m)
theorem Reps.same {K:PySem.W.Frag}{M M':Addr->Prop}{H H':Hp}{v:List V}{x:List PV} (r:Reps K M H v x) (s:a8 H H') (m:∀ a,M a->M' a):Reps K M' H' v x:=r.keep (.same s m)
def eW:HO->Bool
 | .lst _=>true
 | .dK _=>true
 | .dT _=>true
 | _=>false
theorem fF.upd {M M':Addr->Prop}{H:Hp}{a:Addr}{o o':HO} (h:H a=some o') (mu:eW o'=true) (m:∀ b,M b->b ≠ a/\M' b):fF M M' H (upd H a o):=
 ⟨fun b _ hb e=>⟨(m b hb).2,by rw [aN (m b hb).1]; exact e⟩,fun b _ hb e=>⟨(m b hb).2,by rw [aN (m b hb).1]; exact e⟩,fun b _ hb e=>⟨(m b hb).2,by rw [aN (m b hb).1]; exact e⟩,
  fun b _ e=>by rw [aN (fun z=>by rw [z,h] at e; cases e; cases mu)]; exact e,
  fun b _ _ e=>by rw [aN (fun z=>by rw [z,h] at e; cases e; cases mu)]; exact e⟩
theorem Reps.length {K:PySem.W.Frag}{M:Addr->Prop}{H:Hp}:∀ {vs:List V}{xs:List PV},Reps K M H vs xs->vs.length=xs.length
 | _,_,.nil=>rfl
 | _,_,.cons _ t=>congrArg (· + 1) t.length
theorem Reps.get {K:PySem.W.Frag}{M:Addr->Prop}{H:Hp}:∀ {vs:List V}{xs:List PV}{i:Nat}{v:V},Reps K M H vs xs->vs[i]? = some v->∃ x,xs[i]? = some x/\aE K M H v x
 | _,_,_,_,.nil,e=>by simp at e
 | _,_,0,_,.cons r _,e=>by simp at e; subst e; exact⟨_,rfl,r⟩
 | _,_,i+1,v,.cons _ t,e=>by
  rw [aD4] at e
  obtain ⟨x,h1,h2⟩:=t.get e
  exact⟨x,by rw [aD4]; exact h1,h2⟩
theorem Reps.at {K:PySem.W.Frag}{M:Addr->Prop}{H:Hp}:∀ {vs:List V}{xs:List PV}{i:Nat}{x:PV},Reps K M H vs xs->xs[i]? = some x->∃ v,vs[i]? = some v/\aE K M H v x
 | _,_,_,_,.nil,e=>by simp at e
 | _,_,0,_,.cons r _,e=>by simp at e; subst e; exact⟨_,rfl,r⟩
 | _,_,i+1,v,.cons _ t,e=>by
  rw [aD4] at e
  obtain ⟨x,h1,h2⟩:=t.at e
  exact⟨x,by rw [aD4]; exact h1,h2⟩
theorem Reps.append {K:PySem.W.Frag}{M:Addr->Prop}{H:Hp}:∀ {vs:List V}{xs:List PV}{us:List V}{ys:List PV},Reps K M H vs xs->Reps K M H us ys->Reps K M H (vs ++ us) (xs ++ ys)
 | _,_,_,_,.nil,s=>s
 | _,_,_,_,.cons r t,s=>.cons r (t.append s)
theorem Reps.take {K:PySem.W.Frag}{M:Addr->Prop}{H:Hp}:∀ (n:Nat) {vs:List V}{xs:List PV},Reps K M H vs xs->Reps K M H (vs.take n) (xs.take n)
 | 0,_,_,_=>by simp; exact .nil
 | _+1,_,_,.nil=>.nil
 | n+1,_,_,.cons r t=>.cons r (Reps.take n t)
theorem Reps.drop {K:PySem.W.Frag}{M:Addr->Prop}{H:Hp}:∀ (n:Nat) {vs:List V}{xs:List PV},Reps K M H vs xs->Reps K M H (vs.drop n) (xs.drop n)
 | 0,_,_,r=>r
 | _+1,_,_,.nil=>.nil
 | n+1,_,_,.cons _ t=>Reps.drop n t
theorem Reps.eraseIdx {K:PySem.W.Frag}{M:Addr->Prop}{H:Hp}:∀ (n:Nat) {vs:List V}{xs:List PV},Reps K M H vs xs->Reps K M H (vs.eraseIdx n) (xs.eraseIdx n)
 | _,_,_,.nil=>.nil
 | 0,_,_,.cons _ t=>t
 | n+1,_,_,.cons r t=>.cons r (Reps.eraseIdx n t)
abbrev intz (ns:List Int):List PV:=ns.map PV.int
theorem Reps.intz {K:PySem.W.Frag}{M:Addr->Prop}{H:Hp}:∀ (ns:List Int),Reps K M H (ns.map V.int) (intz ns)
 | []=>.nil
 | n :: r=>.cons (.int n) (Reps.intz r)
theorem Reps.ofInts {K:PySem.W.Frag}{M:Addr->Prop}{H:Hp}:∀ {ns:List Int}{us:List V},Reps K M H us (PP.intz ns)->us=ns.map V.int
 | [],_,.nil=>rfl
 | n :: r,_,.cons q t=>by
  cases q
  rw [Reps.ofInts t]; rfl
theorem cQ:∀ (ns:List Int),flats (intz ns)=true
 | []=>rfl
 | n :: r=>by show (flat (.int n) && flats (intz r))=true; rw [cQ r]; rfl
inductive Tg | rd | sh | nw | fr
inductive Slot | sh (g:Bool) (x:PV) | own (x:PV)
def Slot.val:Slot->PV
 | .sh _ x=>x
 | .own x=>x
def Slot.tag:Slot->Tg
 | .sh true _=>.nw
 | .sh false _=>.sh
 | .own _=>.rd
abbrev aV:=List (Option Slot)
def Ms (H0:Hp) (W:Addr->Prop):Bool->Addr->Prop
 | false,a=>¬ W a
 | true,a=>¬ W a/\H0 a=none
def Mg (H0:Hp) (W:Addr->Prop) (Hs:Hp):Tg->Addr->Prop
 | .rd,_=>True
 | .sh,a=>¬ W a
 | .nw,a=>¬ W a/\H0 a=none
 | .fr,a=>Hs a=none
def eY (K:PySem.W.Frag) (M:Addr->Prop) (H:Hp) (a:Addr):PV->Prop
 | .lst xs=>∃ us,H a=some (.lst us)/\Reps K M H us xs
 | .dK ps=>∃ kvs,H a=some (.dK kvs)/\kvs.map (·.1)=ps.map (·.1)/\Reps K M H (kvs.map (·.2)) (ps.map (·.2))
 | .dT ps=>∃ kvs,H a=some (.dT kvs)/\kvs.map (·.1)=ps.map (·.1)/\Reps K M H (kvs.map (·.2)) (ps.map (·.2))
 | _=>False
def vH (K:PySem.W.Frag) (H0:Hp) (W:Addr->Prop) (H:Hp) (v:V):Slot->Prop
 | .sh g x=>aE K (Ms H0 W g) H v x
 | .own x=>∃ a,v = .ref a/\W a/\eY K (Ms H0 W true) H a x
structure PX (K:PySem.W.Frag) (H0:Hp) (W:Addr->Prop) (σ:St) (ρ:aV) (H:Hp):Prop where
 len:ρ.length=σ.length
 same:a8 H0 H
 wm:∀ a,W a->H0 a=none/\∃ o,H a=some o/\eW o=true
 sl:∀ (i:Nat) (m:Slot),ρ[i]? = some (some m)->∃ v,σ[i]? = some (some v)/\vH K H0 W H v m
 dis:∀ (i j:Nat) (x y:PV) (a:Addr),ρ[i]? = some (some (.own x))->ρ[j]? = some (some (.own y))->σ[i]? = some (some (.ref a))->σ[j]? = some (some (.ref a))->i=j
theorem eY.keep {K:PySem.W.Frag}{M M':Addr->Prop}{H H':Hp}{a:Addr} (k:fF M M' H H') (ha:∀ o,H a=some o->H' a=some o):∀ {x:PV},eY K M H a x->eY K M' H' a x
 | .lst _,⟨us,e,r⟩=>⟨us,ha _ e,r.keep k⟩
 | .dK _,⟨us,e,q,r⟩=>⟨us,ha _ e,q,r.keep k⟩
 | .dT _,⟨us,e,q,r⟩=>⟨us,ha _ e,q,r.keep k⟩
theorem eY.at {K:PySem.W.Frag}{M:Addr->Prop}{H:Hp}{a:Addr}:∀ {x:PV},eY K M H a x->∃ o,H a=some o/\eW o=true
 | .lst _,⟨us,e,r⟩=>⟨_,e,rfl⟩
 | .dK _,⟨us,e,q,r⟩=>⟨_,e,rfl⟩
 | .dT _,⟨us,e,q,r⟩=>⟨_,e,rfl⟩
theorem eY.rep {K:PySem.W.Frag}{M M':Addr->Prop}{H:Hp}{a:Addr} (m:∀ b,M b->M' b) (ha:M' a):∀ {x:PV},eY K M H a x->aE K M' H (.ref a) x
 | .lst _,⟨us,e,r⟩=>.lst ha e (r.same (a8.refl _) m)
 | .dK _,⟨us,e,q,r⟩=>.dK ha e q (r.same (a8.refl _) m)
 | .dT _,⟨us,e,q,r⟩=>.dT ha e q (r.same (a8.refl _) m)
section
variable {K : PySem.W.Frag} {H0 : Hp} {W W' : Addr → Prop} {σ : St} {ρ : aV} {H H' : Hp}
theorem PX.mono (p:PX K H0 W σ ρ H) (s:a8 H H'):PX K H0 W σ ρ H':=by
 refine⟨p.len,p.same.trans s,fun a h=>⟨(p.wm a h).1,let ⟨o,e,m⟩:=(p.wm a h).2; ⟨o,s _ _ e,m⟩⟩,fun i m h=>?_,p.dis⟩
 obtain ⟨v,e,r⟩:=p.sl i m h
 refine⟨v,e,?_⟩
 cases m with
 | sh g x=>exact aE.same r s fun _ z=>z
 | own x=>
  obtain ⟨a,e1,e2,r⟩:=r
  exact⟨a,e1,e2,r.keep (.same s fun _ z=>z) fun _ z=>s _ _ z⟩
theorem PX.new (p:PX K H0 W σ ρ H) {a:Addr} (h:H a=none) : ¬ W a/\H0 a=none:=
 ⟨fun z=>(by obtain ⟨_,o,e,_⟩:=p.wm a z; rw [h] at e; cases e),p.same.free h⟩
theorem Mg.back {g:Tg}{H1:Hp} (s:a8 H H1) {a:Addr} (h:Mg H0 W H1 g a):Mg H0 W H g a:=by
 cases g with
 | fr=>exact s.free h
 | rd=>exact h
 | sh=>exact h
 | nw=>exact h
end
abbrev PK:=PV->Tg->Prop
abbrev aB:=aV->PK->Prop
abbrev bO:=aV->(Bool->Prop)->Prop
abbrev bU:=aV->(List (PV × Tg)->Prop)->Prop
inductive eG (K:PySem.W.Frag) (H0:Hp) (W:Addr->Prop) (Hs H:Hp):List V->List (PV × Tg)->Prop
 | nil:eG K H0 W Hs H [] []
 | cons {v:V}{x:PV}{g:Tg}{vs:List V}{xs:List (PV × Tg)}:aE K (Mg H0 W Hs g) H v x->eG K H0 W Hs H vs xs->eG K H0 W Hs H (v :: vs) ((x,g) :: xs)
def m7 (K:PySem.W.Frag) (H0:Hp) (W:Addr->Prop) (H:Hp) (Q:PK) (Q':VK):Prop:=∀ v H' x g,a8 H H'->aE K (Mg H0 W H g) H' v x->Q x g->Q' v H'
def LE (X:Cx) (t:aB):TE:=fun σ H Q'=>∃ (W:Addr->Prop) (ρ:aV) (Q:PK),PX X.K X.H₀ W σ ρ H/\t ρ Q/\m7 X.K X.H₀ W H Q Q'
def LT (X:Cx) (t:bO):TT:=fun σ H Q'=>∃ (W:Addr->Prop) (ρ:aV) (Q:Bool->Prop),PX X.K X.H₀ W σ ρ H/\t ρ Q/\∀ b H',a8 H H'->Q b->Q' b H'
def LA (X:Cx) (t:bU):TA:=fun σ H Q'=>∃ (W:Addr->Prop) (ρ:aV) (Q:List (PV × Tg)->Prop),PX X.K X.H₀ W σ ρ H/\t ρ Q/\∀ vs H' xs,a8 H H'->eG X.K X.H₀ W H H' vs xs->Q xs->Q' vs H'
theorem eG.same {K:PySem.W.Frag}{H0:Hp}{W:Addr->Prop}{Hs Hs' H H':Hp} (s:a8 H H') (b:a8 Hs' Hs):∀ {vs:List V}{xs:List (PV × Tg)},eG K H0 W Hs H vs xs->eG K H0 W Hs' H' vs xs
 | _,_,.nil=>.nil
 | _,_,.cons r t=>.cons (r.same s fun _ z=>Mg.back b z) (t.same s b)
theorem eG.any {K:PySem.W.Frag}{H0:Hp}{W:Addr->Prop}{Hs H:Hp}:∀ {vs:List V}{xs:List (PV × Tg)},eG K H0 W Hs H vs xs->Reps K (fun _=>True) H vs (xs.map (·.1))
 | _,_,.nil=>.nil
 | _,_,.cons r t=>.cons (r.same (a8.refl _) fun _ _=>trivial) t.any
def Nw:Tg->PV->Prop
 | .fr,_=>True
 | .nw,_=>True
 | _,x=>flat x=true
def k7 (xs:List (PV × Tg)):Prop:=∀ p ∈ xs,Nw p.2 p.1
section
variable {K : PySem.W.Frag} {H0 Hs H : Hp} {W : Addr → Prop} {σ : St} {ρ : aV}
theorem Nw.rep {g:Tg}{x:PV}{v:V} (px:PX K H0 W σ ρ Hs) (n:Nw g x) (r:aE K (Mg H0 W Hs g) H v x):aE K (Ms H0 W true) H v x:=by
 cases g with
 | fr=>exact r.same (a8.refl _) fun a z=>px.new z
 | nw=>exact r.same (a8.refl _) fun a z=>z
 | sh=>exact r.flat n
 | rd=>exact r.flat n
theorem k7.reps {vs:List V}:∀ {xs:List (PV × Tg)}{vs:List V},PX K H0 W σ ρ Hs->k7 xs->eG K H0 W Hs H vs xs->Reps K (Ms H0 W true) H vs (xs.map (·.1))
 | _,_,px,n,.nil=>.nil
 | _,_,px,n,.cons r t=>.cons (Nw.rep px (n _ av5) r) (k7.reps (vs:=vs) px (fun p hp=>n p (av1 _ hp)) t)
theorem vI {v:V}{m:Slot} (r:vH K H0 W H v m):aE K (Mg H0 W Hs m.tag) H v m.val:=by
 cases m with
 | sh g x=>
  cases g with
  | true=>exact aE.same r (a8.refl _) fun _ z=>z
  | false=>exact aE.same r (a8.refl _) fun _ z=>z
 | own x=>
  obtain ⟨a,rfl,_,r⟩:=r
  exact r.rep (fun _ _=>trivial) trivial
end
section
variable {X : Cx} {σ : St} {H : Hp} {Q' : VK} {ta tb : aB}
def a6 (i:Nat):aB:=fun ρ Q=>∃ m,ρ[i]? = some (some m)/\Q m.val m.tag
def qC (x:PV):aB:=fun _ Q=>Q x .fr
theorem V3 {i:Nat} (h:LE X (a6 i) σ H Q'):iP i σ H Q':=by
 obtain ⟨W,ρ,Q,px,⟨m,e,q⟩,k⟩:=h
 obtain ⟨v,ev,r⟩:=px.sl i m e
 exact⟨v,ev,k v H _ _ (a8.refl _) (vI r) q⟩
theorem m8 {x:PV}{v:V} (hr:∀ M,aE X.K M H v x) (h:LE X (qC x) σ H Q'):tC v σ H Q':=by
 obtain ⟨W,ρ,Q,px,q,k⟩:=h
 exact k v H _ _ (a8.refl _) (hr _) q
def dB (X:Cx) (R:PV->Tg->PV->Tg->PK->Prop) (r:R2):Prop:=∀ (W:Addr->Prop) (Hs H:Hp) (u v:V) (x y:PV) (g g':Tg) (Q:PK) (Q':VK),a8 Hs H->
 (∀ a,Hs a=none->¬ W a/\X.H₀ a=none)->aE X.K (Mg X.H₀ W Hs g) H u x->aE X.K (Mg X.H₀ W Hs g') H v y->R x g y g' Q->(∀ w H' z gz,a8 H H'->aE X.K (Mg X.H₀ W Hs gz) H' w z->Q z gz->Q' w H')->r u v H Q'
def q2 (R:PV->Tg->PV->Tg->PK->Prop) (ta tb:aB):aB:=fun ρ Q=>ta ρ fun x g=>tb ρ fun y g'=>R x g y g' Q
theorem m9 {R:PV->Tg->PV->Tg->PK->Prop}{r:R2} (c:dB X R r) (h:LE X (q2 R ta tb) σ H Q'):jQ r (LE X ta) (LE X tb) σ H Q':=by
 obtain ⟨W,ρ,Q,px,q,k⟩:=h
 refine⟨W,ρ,_,px,q,fun u H1 x g s1 r1 q1=>⟨W,ρ,_,px.mono s1,q1,fun v H2 y g' s2 r2 q2=>?_⟩⟩
 exact c W H H2 u v x y g g' Q Q' (s1.trans s2) (fun a z=>px.new z) (r1.same s2 fun _ z=>z) (r2.same (a8.refl _) fun _ z=>Mg.back s1 z) q2 fun w H' z gz s3 r3 q3=>k w H' z gz ((s1.trans s2).trans s3) r3 q3
def RI (C:Int->Int->Prop) (f:Int->Int->PV):PV->Tg->PV->Tg->PK->Prop:=fun x _ y _ Q=>∃ i j,x = .int i/\y = .int j/\C i j/\Q (f i j) .fr
def dC (f:Int->Int->PV):PV->Tg->PV->Tg->PK->Prop:=fun x _ y _ Q=>∃ i j,x = .int i/\y = .int j/\Q (f i j) .fr
theorem pZ {C:Int->Int->Prop}{f:Int->Int->Int}:dB X (RI C fun i j=>.int (f i j)) (rI C fun i j=>.int (f i j)):=by
 rintro W Hs H u v x y g g' Q Q' s n r1 r2 ⟨i,j,rfl,rfl,c,q⟩ k
 cases r1; cases r2
 exact⟨i,j,rfl,rfl,c,k _ _ _ _ (a8.refl _) (.int _) q⟩
theorem vJ {f:Int->Int->Int}:dB X (dC fun i j=>.int (f i j)) (fB fun i j=>.int (f i j)):=by
 rintro W Hs H u v x y g g' Q Q' s n r1 r2 ⟨i,j,rfl,rfl,q⟩ k
 cases r1; cases r2
 exact⟨i,j,rfl,rfl,k _ _ _ _ (a8.refl _) (.int _) q⟩
theorem k9 {f:Int->Int->Bool}:dB X (dC fun i j=>.bl (f i j)) (fB fun i j=>.bl (f i j)):=by
 rintro W Hs H u v x y g g' Q Q' s n r1 r2 ⟨i,j,rfl,rfl,q⟩ k
 cases r1; cases r2
 exact⟨i,j,rfl,rfl,k _ _ _ _ (a8.refl _) (.bl _) q⟩
def iT (neg:Bool):PV->Tg->PV->Tg->PK->Prop:=fun x _ y _ Q=>(∃ i j,x = .int i/\y = .int j/\Q (.bl (if neg=true then !decide (i=j) else decide (i=j))) .fr) ∨ (∃ i j,x = .bl i/\y = .bl j/\Q (.bl (if neg=true then !decide (i=j) else decide (i=j))) .fr)
theorem vK (i j:Int):decide (V.int i=V.int j)=decide (i=j):=by
 rw [aG3,az9,az9]; exact⟨fun z=>V.int.inj z,fun z=>congrArg V.int z⟩
theorem vL (i j:Bool):decide (V.bl i=V.bl j)=decide (i=j):=by
 rw [aG3,az9,az9]; exact⟨fun z=>V.bl.inj z,fun z=>congrArg V.bl z⟩
theorem V4:dB X (iT false) tH:=by
 rintro W Hs H u v x y g g' Q Q' s n r1 r2 (⟨i,j,rfl,rfl,q⟩ | ⟨i,j,rfl,rfl,q⟩) k
 ·cases r1; cases r2
  exact⟨rfl,by rw [vK]; exact k _ _ _ _ (a8.refl _) (.bl _) q⟩
 ·cases r1; cases r2
  exact⟨rfl,by rw [vL]; exact k _ _ _ _ (a8.refl _) (.bl _) q⟩
theorem V5:dB X (iT true) tI:=by
 rintro W Hs H u v x y g g' Q Q' s n r1 r2 (⟨i,j,rfl,rfl,q⟩ | ⟨i,j,rfl,rfl,q⟩) k
 ·cases r1; cases r2
  exact⟨rfl,by rw [vK]; exact k _ _ _ _ (a8.refl _) (.bl _) q⟩
 ·cases r1; cases r2
  exact⟨rfl,by rw [vL]; exact k _ _ _ _ (a8.refl _) (.bl _) q⟩
def aW (t:aB):bO:=fun ρ Q=>t ρ fun x _=>∃ b,x = .bl b/\Q b
theorem vM {t:aB}{Q':Bool->Hp->Prop} (h:LT X (aW t) σ H Q'):LE X t σ H fun x H'=>∃ k,x = .bl k/\Q' k H':=by
 obtain ⟨W,ρ,Q,px,q,k⟩:=h
 refine⟨W,ρ,_,px,q,?_⟩
 rintro v H1 x g s r ⟨b,rfl,q⟩
 cases r
 exact⟨b,rfl,k _ _ s q⟩
def mB (t u:bO):bO:=fun ρ Q=>t ρ fun c=>if c=true then u ρ Q else Q false
def mC (t u:bO):bO:=fun ρ Q=>t ρ fun c=>if c=true then Q true else u ρ Q
def mD (t:bO):bO:=fun ρ Q=>t ρ fun c=>Q (!c)
variable {t u : bO} {Qb : Bool → Hp → Prop}
theorem V6 (h:LT X (mB t u) σ H Qb):sP (LT X t) (LT X u) σ H Qb:=by
 obtain ⟨W,ρ,Q,px,q,k⟩:=h
 refine⟨W,ρ,_,px,q,fun b H1 s1 q1=>?_⟩
 cases b with
 | true=>exact bX ⟨W,ρ,Q,px.mono s1,by simpa using q1,fun b H2 s2 q2=>k _ _ (s1.trans s2) q2⟩
 | false=>exact bH (k _ _ s1 (by simpa using q1))
theorem V7 (h:LT X (mC t u) σ H Qb):sQ (LT X t) (LT X u) σ H Qb:=by
 obtain ⟨W,ρ,Q,px,q,k⟩:=h
 refine⟨W,ρ,_,px,q,fun b H1 s1 q1=>?_⟩
 cases b with
 | false=>exact bH ⟨W,ρ,Q,px.mono s1,by simpa using q1,fun b H2 s2 q2=>k _ _ (s1.trans s2) q2⟩
 | true=>exact bX (k _ _ s1 (by simpa using q1))
theorem V8 (h:LT X (mD t) σ H Qb):sR (LT X t) σ H Qb:=by
 obtain ⟨W,ρ,Q,px,q,k⟩:=h
 exact⟨W,ρ,_,px,q,fun b H1 s1 q1=>k _ _ s1 q1⟩
def qA (ta tb:aB):aB:=fun ρ Q=>ta ρ fun x _=>∃ c,x = .bl c/\if c=true then tb ρ Q else Q (.bl false) .fr
def qB (ta:aB):aB:=fun ρ Q=>ta ρ fun x _=>∃ c,x = .bl c/\Q (.bl (!c)) .fr
theorem m7.back {K:PySem.W.Frag}{H0:Hp}{W:Addr->Prop}{H H1:Hp}{Q:PK} (k:m7 K H0 W H Q Q') (s:a8 H H1):m7 K H0 W H1 Q Q':=fun v H' x g s' r q=>k v H' x g (s.trans s') (r.same (a8.refl _) fun _ z=>Mg.back s z) q
theorem V9 (h:LE X (qA ta tb) σ H Q'):sS (LE X ta) (LE X tb) σ H Q':=by
 obtain ⟨W,ρ,Q,px,q,k⟩:=h
 refine⟨W,ρ,_,px,q,?_⟩
 rintro v H1 x g s1 r ⟨c,rfl,q⟩
 cases r
 refine⟨c,rfl,?_⟩
 cases c with
 | true=>exact bX ⟨W,ρ,Q,px.mono s1,by simpa using q,k.back s1⟩
 | false=>exact bH (k _ _ _ _ s1 (.bl _) (by simpa using q))
theorem W0 (h:LE X (qB ta) σ H Q'):sU (LE X ta) σ H Q':=by
 obtain ⟨W,ρ,Q,px,q,k⟩:=h
 refine⟨W,ρ,_,px,q,?_⟩
 rintro v H1 x g s1 r ⟨c,rfl,q⟩
 cases r
 exact⟨c,rfl,k _ _ _ _ s1 (.bl _) q⟩
def aA:bU:=fun _ Q=>Q []
def a7 (te:aB) (tr:bU):bU:=fun ρ Q=>te ρ fun x g=>tr ρ fun xs=>Q ((x,g) :: xs)
variable {Qa : List V → Hp → Prop} {tr : bU}
theorem W5 (h:LA X aA σ H Qa):gF σ H Qa:=by
 obtain ⟨W,ρ,Q,px,q,k⟩:=h
 exact k _ _ _ (a8.refl _) .nil q
theorem W6 (h:LA X (a7 ta tr) σ H Qa):fC (LE X ta) (LA X tr) σ H Qa:=by
 obtain ⟨W,ρ,Q,px,q,k⟩:=h
 refine⟨W,ρ,_,px,q,fun v H1 x g s1 r1 q1=>⟨W,ρ,_,px.mono s1,q1,fun vs H2 xs s2 r2 q2=>?_⟩⟩
 exact k _ _ _ (s1.trans s2) (.cons (r1.same s2 fun _ z=>z) (r2.same (a8.refl _) s1)) q2
def dZ (t:bU):aB:=fun ρ Q=>t ρ fun xs=>xs.length<=1000/\flats (xs.map (·.1))=true/\Q (.tup (xs.map (·.1))) .fr
def cW (t:bU):aB:=fun ρ Q=>t ρ fun xs=>xs.length<=1000/\flats (xs.map (·.1))=true/\Q (.lst (xs.map (·.1))) .fr
theorem eG.length {K:PySem.W.Frag}{H0:Hp}{W:Addr->Prop}{Hs H:Hp}:∀ {vs:List V}{xs:List (PV × Tg)},eG K H0 W Hs H vs xs->vs.length=xs.length
 | _,_,.nil=>rfl
 | _,_,.cons _ t=>congrArg (· + 1) t.length
theorem qD {n:Nat} (h:n<=1000):n<=sizeLine:=aB7 (pD h)
theorem W7 (h:LE X (dZ tr) σ H Q'):tO (LA X tr) σ H Q':=by
 obtain ⟨W,ρ,Q,px,q,k⟩:=h
 refine⟨W,ρ,_,px,q,?_⟩
 rintro vs H1 xs s1 r ⟨hl,n,q⟩
 refine⟨by rw [r.length]; exact qD hl,fun p hp=>k _ _ _ .fr (s1.trans (aT hp _)) (.tup aZ ?_) q⟩
 exact (r.any.flat n).same (aT hp _) fun _ z=>z
theorem W8 (h:LE X (cW tr) σ H Q'):oV (LA X tr) σ H Q':=by
 obtain ⟨W,ρ,Q,px,q,k⟩:=h
 refine⟨W,ρ,_,px,q,?_⟩
 rintro vs H1 xs s1 r ⟨hl,n,q⟩
 refine⟨by rw [r.length]; exact qD hl,fun p hp=>k _ _ _ .fr (s1.trans (aT hp _)) (.lst (s1.free hp) aZ ?_) q⟩
 exact (r.any.flat n).same (aT hp _) fun _ z=>z
def dP (X:Cx) (R:List PV->(PV->Prop)->Prop) (r:List V->Hp->VK->Prop):Prop:=∀ (H:Hp) (vs:List V) (xs:List PV) (Q:PV->Prop) (Q':VK),Reps X.K (fun _=>True) H vs xs->R xs Q->
 (∀ w H' z,a8 H H'->aE X.K (fun a=>H a=none) H' w z->Q z->Q' w H')->r vs H Q'
def aD (R:List PV->(PV->Prop)->Prop) (t:bU):aB:=fun ρ Q=>t ρ fun xs=>R (xs.map (·.1)) fun z=>Q z .fr
theorem vN {R:List PV->(PV->Prop)->Prop}{r:List V->Hp->VK->Prop} (c:dP X R r) (h:LE X (aD R tr) σ H Q'):lK r (LA X tr) σ H Q':=by
 obtain ⟨W,ρ,Q,px,q,k⟩:=h
 refine⟨W,ρ,_,px,q,fun vs H1 xs s1 r1 q1=>c H1 vs _ _ Q' r1.any q1 fun w H' z s2 r2 q2=>k w H' z .fr (s1.trans s2) (r2.same (a8.refl _) fun _ z=>s1.free z) q2⟩
end
structure mE where
 nx:aV->Prop
 rt:PV->Prop
 bk:aV->Prop:=fun _=>False
 ct:aV->Prop:=fun _=>False
abbrev aQ:=mE->aV->Prop
def Ev (W:Addr->Prop) (H:Hp) (W':Addr->Prop) (H':Hp):Prop:=∀ b o,H b=some o->¬ W b->H' b=some o/\¬ W' b
theorem Ev.trans {W W1 W2:Addr->Prop}{H H1 H2:Hp} (a:Ev W H W1 H1) (b:Ev W1 H1 W2 H2):Ev W H W2 H2:=fun c o h n=>let ⟨h1,n1⟩:=a c o h n; b c o h1 n1
theorem Ev.same {W:Addr->Prop}{H H':Hp} (s:a8 H H'):Ev W H W H':=fun c o h n=>⟨s _ _ h,n⟩
theorem Ev.refl (W:Addr->Prop) (H:Hp):Ev W H W H:=Ev.same (a8.refl _)
structure mF (X:Cx) (W:Addr->Prop) (H:Hp) (D':mE) (D:dA):Prop where
 nx:∀ W' σ' H' ρ',Ev W H W' H'->PX X.K X.H₀ W' σ' ρ' H'->D'.nx ρ'->D.nx σ' H'
 rt:∀ v H' x,a8 X.H₀ H'->aE X.K (fun a=>X.H₀ a=none) H' v x->D'.rt x->D.rt v H'
 bk:∀ W' σ' H' ρ',Ev W H W' H'->PX X.K X.H₀ W' σ' ρ' H'->D'.bk ρ'->D.bk σ' H'
 ct:∀ W' σ' H' ρ',Ev W H W' H'->PX X.K X.H₀ W' σ' ρ' H'->D'.ct ρ'->D.ct σ' H'
theorem mF.step {X:Cx}{W W1:Addr->Prop}{H H1:Hp}{D':mE}{D:dA} (k:mF X W H D' D) (e:Ev W H W1 H1):mF X W1 H1 D' D:=
 ⟨fun W' σ' H' ρ' e'=>k.nx W' σ' H' ρ' (e.trans e'),k.rt,fun W' σ' H' ρ' e'=>k.bk W' σ' H' ρ' (e.trans e'),fun W' σ' H' ρ' e'=>k.ct W' σ' H' ρ' (e.trans e')⟩
def LS (X:Cx) (t:aQ):TS:=fun D σ H=>∃ (W:Addr->Prop) (ρ:aV) (D':mE),PX X.K X.H₀ W σ ρ H/\t D' ρ/\mF X W H D' D
theorem fG {α:Type}{l:List α}{i j:Nat}{a b:α} (h:(l.set i a)[j]? = some b):(j=i/\i < l.length/\b=a) ∨ (j ≠ i/\l[j]? = some b):=by
 by_cases e:j=i
 ·subst e
  have hl:j < (l.set j a).length:=(av4.mp h).1
  rw [aD3] at hl
  rw [aB8 hl] at h
  exact .inl ⟨rfl,hl,(ax4 h).symm⟩
 ·rw [ax7 (Ne.symm e)] at h
  exact .inr ⟨e,h⟩
section
variable {K : PySem.W.Frag} {H0 : Hp} {W W' : Addr → Prop} {σ : St} {ρ : aV} {H H' Hs : Hp}
theorem PX.setSh {i:Nat}{v:V}{g:Bool}{x:PV} (p:PX K H0 W σ ρ H) (r:aE K (Ms H0 W g) H v x):PX K H0 W (σ.set i (some v)) (ρ.set i (some (.sh g x))) H:=by
 refine⟨by rw [aD3,aD3]; exact p.len,p.same,p.wm,fun j m h=>?_,fun j k y z a h1 h2 h3 h4=>?_⟩
 ·rcases fG h with ⟨rfl,hl,e⟩ | ⟨hne,h⟩
  ·cases e
   rw [p.len] at hl
   exact⟨v,aB8 hl,r⟩
  ·obtain ⟨u,e,q⟩:=p.sl j m h
   exact⟨u,by rw [ax7 (Ne.symm hne)]; exact e,q⟩
 ·rcases fG h1 with ⟨_,_,e⟩ | ⟨n1,h1⟩
  ·cases e
  ·rcases fG h2 with ⟨_,_,e⟩ | ⟨n2,h2⟩
   ·cases e
   ·rw [ax7 (Ne.symm n1)] at h3
    rw [ax7 (Ne.symm n2)] at h4
    exact p.dis j k y z a h1 h2 h3 h4
def iU (W:Addr->Prop) (a:Addr):Addr->Prop:=fun b=>W b ∨ b=a
theorem qE {g:Bool}{a b:Addr} (n:b ≠ a) (h:Ms H0 W g b):Ms H0 (iU W a) g b:=by
 cases g with
 | true=>exact⟨fun z=>z.elim h.1 n,h.2⟩
 | false=>exact fun z=>z.elim h n
theorem PX.setOwn {i:Nat}{a:Addr}{x:PV} (p:PX K H0 W σ ρ Hs) (s:a8 Hs H) (ha:Hs a=none) (r:eY K (Ms H0 (iU W a) true) H a x):PX K H0 (iU W a) (σ.set i (some (.ref a))) (ρ.set i (some (.own x))) H:=by
 have old:∀ b o,Hs b=some o->b ≠ a:=fun b o e z=>by rw [z,ha] at e; cases e
 have kp:∀ g,fF (Ms H0 W g) (Ms H0 (iU W a) g) Hs H:=fun g=>⟨fun b _ m e=>⟨qE (old _ _ e) m,s _ _ e⟩,fun b _ m e=>⟨qE (old _ _ e) m,s _ _ e⟩,fun b _ m e=>⟨qE (old _ _ e) m,s _ _ e⟩,fun _ _ e=>s _ _ e,fun _ _ _ e=>s _ _ e⟩
 have wa : ¬ W a:=(p.new ha).1
 refine⟨by rw [aD3,aD3]; exact p.len,p.same.trans s,fun b z=>?_,fun j m h=>?_,fun j k y z b h1 h2 h3 h4=>?_⟩
 ·rcases z with z | rfl
  ·obtain ⟨h1,o,h2,h3⟩:=p.wm b z
   exact⟨h1,o,s _ _ h2,h3⟩
  ·exact⟨(p.new ha).2,r.at⟩
 ·rcases fG h with ⟨rfl,hl,e⟩ | ⟨hne,h⟩
  ·cases e
   rw [p.len] at hl
   exact⟨_,aB8 hl,a,rfl,.inr rfl,r⟩
  ·obtain ⟨u,e,q⟩:=p.sl j m h
   refine⟨u,by rw [ax7 (Ne.symm hne)]; exact e,?_⟩
   cases m with
   | sh g y=>exact aE.keep (kp g) q
   | own y=>
    obtain ⟨b,e1,e2,q⟩:=q
    exact⟨b,e1,.inl e2,q.keep (kp true) fun o z=>s _ _ z⟩
 ·have ne:∀ {j:Nat}{y:PV},ρ[j]? = some (some (.own y))->σ[j]? ≠ some (some (.ref a)):=fun {j y} h1 h2=>by
   obtain ⟨u,e,c,e1,e2,_⟩:=p.sl j _ h1
   rw [h2] at e
   cases e
   cases e1
   exact wa e2
  rcases fG h1 with ⟨e1,l1,_⟩ | ⟨n1,h1⟩
  ·rcases fG h2 with ⟨e2,_,_⟩ | ⟨n2,h2⟩
   ·rw [e1,e2]
   ·rw [e1,aB8 (by rw [<- p.len]; exact l1)] at h3
    rw [ax7 (Ne.symm n2)] at h4
    cases h3
    exact absurd h4 (ne h2)
  ·rw [ax7 (Ne.symm n1)] at h3
   rcases fG h2 with ⟨e2,l2,_⟩ | ⟨n2,h2⟩
   ·rw [e2,aB8 (by rw [<- p.len]; exact l2)] at h4
    cases h4
    exact absurd h3 (ne h1)
   ·rw [ax7 (Ne.symm n2)] at h4
    exact p.dis j k y z b h1 h2 h3 h4
theorem Ev.own {a:Addr} (s:a8 Hs H) (ha:Hs a=none):Ev W Hs (iU W a) H:=fun b o e n=>⟨s _ _ e,fun z=>z.elim n fun z=>by rw [z,ha] at e; cases e⟩
theorem qF {g:Bool}{a b:Addr} (wa:W a) (h:Ms H0 W g b):b ≠ a:=by
 cases g with
 | true=>exact fun z=>h.1 (by rw [z]; exact wa)
 | false=>exact fun z=>h (by rw [z]; exact wa)
theorem PX.updOwn {i:Nat}{a:Addr}{x y:PV}{o:HO} (p:PX K H0 W σ ρ H) (hi:ρ[i]? = some (some (.own x))) (ha:σ[i]? = some (some (.ref a))) (wa:W a) (mu:eW o=true) (r:eY K (Ms H0 W true) (upd H a o) a y) :
  PX K H0 W σ (ρ.set i (some (.own y))) (upd H a o):=by
 obtain ⟨w0,o',e',mu'⟩:=p.wm a wa
 have kp:∀ g,fF (Ms H0 W g) (Ms H0 W g) H (upd H a o):=fun g=>.upd e' mu' fun b m=>⟨qF wa m,m⟩
 refine⟨by rw [aD3]; exact p.len,fun b u e=>by rw [aN (fun z=>by rw [z,w0] at e; cases e)]; exact p.same _ _ e,fun b z=>?_,fun j m h=>?_,fun j k y' z b h1 h2 h3 h4=>?_⟩
 ·by_cases e:b=a
  ·subst e; exact⟨w0,o,aZ,mu⟩
  ·obtain ⟨h1,o2,h2,h3⟩:=p.wm b z
   exact⟨h1,o2,by rw [aN e]; exact h2,h3⟩
 ·rcases fG h with ⟨rfl,hl,e⟩ | ⟨hne,h⟩
  ·cases e
   exact⟨_,ha,a,rfl,wa,r⟩
  ·obtain ⟨u,e,q⟩:=p.sl j m h
   refine⟨u,e,?_⟩
   cases m with
   | sh g y=>exact aE.keep (kp g) q
   | own y=>
    obtain ⟨b,e1,e2,q⟩:=q
    have hb:b ≠ a:=fun z=>by
     subst e1
     rw [z] at e
     exact hne (p.dis j i _ _ a h hi e ha)
    exact⟨b,e1,e2,q.keep (kp true) fun o z=>by rw [aN hb]; exact z⟩
 ·have g1:∃ y,ρ[j]? = some (some (.own y)):=by
   rcases fG h1 with ⟨e,_,_⟩ | ⟨_,h⟩
   ·exact⟨x,by rw [e]; exact hi⟩
   ·exact⟨_,h⟩
  have g2:∃ y,ρ[k]? = some (some (.own y)):=by
   rcases fG h2 with ⟨e,_,_⟩ | ⟨_,h⟩
   ·exact⟨x,by rw [e]; exact hi⟩
   ·exact⟨_,h⟩
  obtain ⟨y1,g1⟩:=g1
  obtain ⟨y2,g2⟩:=g2
  exact p.dis j k y1 y2 b g1 g2 h3 h4
theorem Ev.upd {a:Addr}{o:HO} (wa:W a):Ev W H W (upd H a o):=fun b u e n=>⟨by rw [aN (fun z=>n (by rw [z]; exact wa))]; exact e,n⟩
end
section
variable {X : Cx} {σ : St} {H : Hp} {D : dA} {te : aB} {t u : aQ}
def cA:aQ:=fun D ρ=>D.nx ρ
def aM (t u:aQ):aQ:=fun D ρ=>t { D with nx:=u D } ρ
theorem W9 (h:LS X cA D σ H):sV D σ H:=by
 obtain ⟨W,ρ,D',px,q,k⟩:=h
 exact k.nx W σ H ρ (Ev.refl _ _) px q
theorem X0 (h:LS X (aM t u) D σ H):sW (LS X t) (LS X u) D σ H:=by
 obtain ⟨W,ρ,D',px,q,k⟩:=h
 exact⟨W,ρ,_,px,q,fun W' σ' H' ρ' e px' q'=>⟨W',ρ',D',px',q',k.step e⟩,k.rt,k.bk,k.ct⟩
def vO:Tg->PV->Bool
 | .fr,_=>true
 | .nw,_=>true
 | _,x=>flat x
def vP:Tg->PV->Prop
 | .rd,x=>flat x=true
 | _,_=>True
theorem X1 {K:PySem.W.Frag}{H0 Hs H:Hp}{W:Addr->Prop}{σ:St}{ρ:aV}{g:Tg}{x:PV}{v:V} (px:PX K H0 W σ ρ Hs) (n:vP g x) (r:aE K (Mg H0 W Hs g) H v x):aE K (Ms H0 W (vO g x)) H v x:=by
 cases g with
 | fr=>exact Nw.rep (g:=.fr) px trivial r
 | nw=>exact Nw.rep (g:=.nw) px trivial r
 | sh=>
  show aE K (Ms H0 W (flat x)) H v x
  cases e:flat x with
  | true=>exact r.flat e
  | false=>exact r.same (a8.refl _) fun _ z=>z
 | rd=>exact r.flat n
def aR (i:Nat) (te:aB):aQ:=fun D ρ=>te ρ fun x g=>vP g x/\D.nx (ρ.set i (some (.sh (vO g x) x)))
theorem vQ {i:Nat} (h:LS X (aR i te) D σ H):jM (LE X te) (cO i) D σ H:=by
 obtain ⟨W,ρ,D',px,q,k⟩:=h
 refine⟨W,ρ,_,px,q,?_⟩
 rintro v H1 x g s r ⟨n,q⟩
 exact k.nx W _ H1 _ (Ev.same s) ((px.mono s).setSh (X1 px n r)) q
def vR:PV->Bool
 | .lst xs=>flats xs
 | .dK ps=>flats (ps.map (·.2))
 | .dT ps=>flats (ps.map (·.2))
 | _=>false
theorem X2 {K:PySem.W.Frag}{M:Addr->Prop}{H:Hp}{v:V}{x:PV} (r:aE K M H v x) (o:vR x=true):∃ a,v = .ref a/\M a/\∀ M',eY K M' H a x:=by
 cases r with
 | lst m e r=>exact⟨_,rfl,m,fun _=>⟨_,e,r.flat o⟩⟩
 | dK m e q r=>exact⟨_,rfl,m,fun _=>⟨_,e,q,r.flat o⟩⟩
 | dT m e q r=>exact⟨_,rfl,m,fun _=>⟨_,e,q,r.flat o⟩⟩
 | _=>cases o
def fW (i:Nat) (te:aB):aQ:=fun D ρ=>te ρ fun x g=>g = .fr/\vR x=true/\D.nx (ρ.set i (some (.own x)))
theorem X3 {i:Nat} (h:LS X (fW i te) D σ H):jM (LE X te) (cO i) D σ H:=by
 obtain ⟨W,ρ,D',px,q,k⟩:=h
 refine⟨W,ρ,_,px,q,?_⟩
 rintro v H1 x g s r ⟨rfl,o,q⟩
 obtain ⟨a,rfl,m,w⟩:=X2 r o
 exact k.nx _ _ H1 _ (Ev.own s m) (px.setOwn s m (w _)) q
def bY (te:aB):aQ:=fun D ρ=>te ρ fun x g=>Nw g x/\D.rt x
theorem X4 (h:LS X (bY te) D σ H):oJ (LE X te) D σ H:=by
 obtain ⟨W,ρ,D',px,q,k⟩:=h
 refine⟨W,ρ,_,px,q,?_⟩
 rintro v H1 x g s r ⟨n,q⟩
 exact k.rt v H1 x (px.same.trans s) ((Nw.rep px n r).same (a8.refl _) fun _ z=>z.2) q
def Slot.nw:Slot->Prop
 | .own _=>True
 | .sh true _=>True
 | .sh false x=>flat x=true
def kA (i:Nat):aQ:=fun D ρ=>∃ m,ρ[i]? = some (some m)/\m.nw/\D.rt m.val
theorem X5 {i:Nat} (h:LS X (kA i) D σ H):oJ (iP i) D σ H:=by
 obtain ⟨W,ρ,D',px,⟨m,hi,n,q⟩,k⟩:=h
 obtain ⟨v,ev,r⟩:=px.sl i _ hi
 refine⟨v,ev,k.rt v H _ px.same ?_ q⟩
 cases m with
 | own x=>
  obtain ⟨a,rfl,wa,r⟩:=r
  exact r.rep (fun _ z=>z.2) (px.wm a wa).1
 | sh g x=>
  cases g with
  | true=>exact aE.same r (a8.refl _) fun _ z=>z.2
  | false=>exact aE.flat n r
def cB (c:bO) (t u:aQ):aQ:=fun D ρ=>c ρ fun b=>if b=true then t D ρ else u D ρ
theorem X6 {c:bO} (h:LS X (cB c t u) D σ H):sX (LT X c) (LS X t) (LS X u) D σ H:=by
 obtain ⟨W,ρ,D',px,q,k⟩:=h
 refine⟨W,ρ,_,px,q,fun b H1 s q1=>?_⟩
 cases b with
 | true=>exact bX ⟨W,ρ,D',px.mono s,by simpa using q1,k.step (Ev.same s)⟩
 | false=>exact bH ⟨W,ρ,D',px.mono s,by simpa using q1,k.step (Ev.same s)⟩
def qG (c:bO) (tb:aQ):aQ:=fun D ρ=>∃ I:Nat->aV->Prop,(∃ m,I m ρ)/\∀ m ρ',I m ρ'->c ρ' fun b=>if b=true then tb { D with nx:=fun ρ2=>∃ m',m' < m/\I m' ρ2,ct:=fun ρ2=>∃ m',m' < m/\I m' ρ2,bk:=D.nx } ρ' else D.nx ρ'
theorem X7 {c:bO}{tb:aQ} (h:LS X (qG c tb) D σ H):t0 (LT X c) (LS X tb) D σ H:=by
 obtain ⟨W,ρ,D',px,⟨I,⟨m0,i0⟩,turn⟩,k⟩:=h
 refine⟨fun m σ2 H2=>∃ W2 ρ2,PX X.K X.H₀ W2 σ2 ρ2 H2/\Ev W H W2 H2/\I m ρ2,⟨m0,W,ρ,px,Ev.refl _ _,i0⟩,?_⟩
 rintro m σ2 H2 ⟨W2,ρ2,px2,e2,i2⟩
 refine⟨W2,ρ2,_,px2,turn m ρ2 i2,fun b H3 s3 q3=>?_⟩
 cases b with
 | true=>
  refine bX ⟨fun σ4 H4=>∃ W4 ρ4,PX X.K X.H₀ W4 σ4 ρ4 H4/\Ev W H W4 H4/\∃ m',m' < m/\I m' ρ4,fun σ4 H4 ⟨W4,ρ4,a,b,m',c,d⟩=>⟨m',c,W4,ρ4,a,b,d⟩,W2,ρ2,_,px2.mono s3,by simpa using q3,?_⟩
  have e3:Ev W H W2 H3:=e2.trans (Ev.same s3)
  exact⟨fun W' σ' H' ρ' e p q=>⟨W',ρ',p,e3.trans e,q⟩,k.rt,fun W' σ' H' ρ' e p q=>k.nx W' σ' H' ρ' (e3.trans e) p q,fun W' σ' H' ρ' e p q=>⟨W',ρ',p,e3.trans e,q⟩⟩
 | false=>exact bH (k.nx W2 σ2 H3 ρ2 (e2.trans (Ev.same s3)) (px2.mono s3) (by simpa using q3))
end
theorem lim {n:Nat} (h:n<=16000000):n<=sizeLine:=aB7 (gL h)
theorem aE.sqT {K:PySem.W.Frag}{M:Addr->Prop}{H:Hp}{v:V}{xs:List PV} (r:aE K M H v (.tup xs)):∃ a us,v = .ref a/\H a=some (.tup us)/\Reps K M H us xs:=by
 cases r with
 | tup e r=>exact⟨_,_,rfl,e,r⟩
theorem aE.sqL {K:PySem.W.Frag}{M:Addr->Prop}{H:Hp}{v:V}{xs:List PV} (r:aE K M H v (.lst xs)):∃ a us,v = .ref a/\M a/\H a=some (.lst us)/\Reps K M H us xs:=by
 cases r with
 | lst m e r=>exact⟨_,_,rfl,m,e,r⟩
theorem fV.sqL {K:PySem.W.Frag}{H:Hp}{a:Addr}{ns:List Int} (h:fV K H a ns):aI K H a (ns.map V.int):=h.elim (fun z=>.inl (.inr z)) .inr
def fX:PV->Option (List PV)
 | .tup xs=>some xs
 | .lst xs=>some xs
 | .scr ns=>some (intz ns)
 | .kt xs=>some xs
 | _=>none
theorem aE.seq {K:PySem.W.Frag}{M:Addr->Prop}{H:Hp}{v:V}{x:PV}{xs:List PV} (r:aE K M H v x) (e:fX x=some xs):∃ a us,v = .ref a/\(aI K H a us ∨ aC K H a us)/\Reps K M H us xs:=by
 cases r with
 | tup h r=>cases e; exact⟨_,_,rfl,.inr (aC.of h),r⟩
 | lst m h r=>cases e; exact⟨_,_,rfl,.inl (aI.of h),r⟩
 | scr h=>cases e; exact⟨_,_,rfl,.inl h.sqL,Reps.intz _⟩
 | kt h r=>cases e; exact⟨_,_,rfl,.inr (.inr h),r⟩
 | _=>cases e
section
variable {X : Cx} {σ : St} {H : Hp} {D : dA} {te ti to : aB} {t u : aQ} {Q' : VK}
theorem _root_.PP.PX.updL {K:PySem.W.Frag}{H0:Hp}{W:Addr->Prop}{σ:St}{ρ:aV}{H:Hp}{i:Nat}{a:Addr}{x:PV}{us:List V}{ys:List PV} (p:PX K H0 W σ ρ H) (hi:ρ[i]? = some (some (.own x))) (ha:σ[i]? = some (some (.ref a))) (wa:W a) (r:Reps K (Ms H0 W true) (upd H a (.lst us)) us ys) :
  PX K H0 W σ (ρ.set i (some (.own (.lst ys)))) (upd H a (.lst us)):=p.updOwn hi ha wa rfl (y:=.lst ys) ⟨us,aZ,r⟩
def i8 (i:Nat) (te:aB):aQ:=fun D ρ=>∃ xs,ρ[i]? = some (some (.own (.lst xs)))/\te ρ fun x g=>Nw g x/\xs.length < 16000000/\D.nx (ρ.set i (some (.own (.lst (xs ++ [x])))))
theorem X8 {i:Nat} (h:LS X (i8 i te) D σ H):oI (lO X.K "list" pA (iP i) (fC (LE X te) gF)) D σ H:=by
 obtain ⟨W,ρ,D',px,⟨xs,hi,q⟩,k⟩:=h
 obtain ⟨v,ev,a,rfl,wa,us,ea,r⟩:=px.sl i _ hi
 refine⟨_,ev,jZ (aI.of ea),W,ρ,_,px,q,?_⟩
 rintro w H1 x g s rx ⟨n,hl,q⟩
 have ea1:=s _ _ ea
 refine⟨a,us,w,rfl,rfl,ea1,gL (by rw [r.length]; omega),?_⟩
 refine k.nx W σ _ _ ((Ev.same s).trans (Ev.upd wa)) ((px.mono s).updL hi ev wa ?_) q
 exact ((r.same s fun _ z=>z).append (.cons (Nw.rep px n rx) .nil)).keep (.upd ea1 rfl fun b m=>⟨qF wa m,m⟩)
def qH (to te:aB):aQ:=fun D ρ=>to ρ fun x g=>∃ xs,g = .fr/\x = .lst xs/\xs.length < 16000000/\te ρ fun _ _=>D.nx ρ
theorem X9 (h:LS X (qH to te) D σ H):oI (lO X.K "list" pA (LE X to) (fC (LE X te) gF)) D σ H:=by
 obtain ⟨W,ρ,D',px,q,k⟩:=h
 refine⟨W,ρ,_,px,q,?_⟩
 rintro v H1 x g s1 r1 ⟨xs,rfl,rfl,hl,q1⟩
 obtain ⟨a,us,rfl,m,ea,r⟩:=r1.sqL
 refine⟨jZ (aI.of ea),W,ρ,_,px.mono s1,q1,fun w H2 y gy s2 r2 q2=>?_⟩
 refine⟨a,us,w,rfl,rfl,s2 _ _ ea,gL (by rw [r.length]; omega),?_⟩
 have S:a8 H (upd H2 a (.lst (us ++ [w]))):=fun b o e=>by
  rw [aN (fun z=>by rw [z,show H a=none from m] at e; cases e)]
  exact s2 _ _ (s1 _ _ e)
 exact k.nx W σ _ ρ (Ev.same S) (px.mono S) q2
end
theorem Reps.atI {K:PySem.W.Frag}{M:Addr->Prop}{H:Hp}{us:List V}{xs:List PV}{i:Int}{z:PV} (r:Reps K M H us xs) (h:L2.atI xs i=some z):∃ v,L2.atI us i=some v/\aE K M H v z:=by
 unfold L2.atI at h ⊢
 rw [r.length]
 cases e:hZ xs.length i with
 | none=>rw [e] at h; cases h
 | some j=>rw [e] at h; exact r.at h
section
variable {X : Cx} {σ : St} {H : Hp} {Q' : VK} {ta tb te : aB} {tr : bU}
def qI:PV->Tg->PV->Tg->PK->Prop:=fun x g y _ Q=>∃ xs i z,fX x=some xs/\y = .int i/\L2.atI xs i=some z/\Q z g
theorem Y0:dB X qI (u8 X.K):=by
 rintro W Hs H u v x y g g' Q Q' s n r1 r2 ⟨xs,i,z,e,rfl,hz,q⟩ k
 cases r2
 obtain ⟨a,us,rfl,hs,r⟩:=r1.seq e
 obtain ⟨v,hv,rv⟩:=r.atI hz
 rcases hs with hs | hs
 ·exact .inl ⟨a,us,i,v,rfl,rfl,hs,hv,k v H z g (a8.refl _) rv q⟩
 ·exact .inr (.inl ⟨a,us,i,v,rfl,rfl,hs,hv,k v H z g (a8.refl _) rv q⟩)
def qJ:PV->Option Nat
 | .tup xs=>some xs.length
 | .lst xs=>some xs.length
 | .scr ns=>some ns.length
 | .dK ps=>some ps.length
 | .kt xs=>some xs.length
 | _=>none
def cR:List PV->(PV->Prop)->Prop:=fun xs Q=>∃ x n,xs = [x]/\qJ x=some n/\Q (.int n)
theorem Reps.one {K:PySem.W.Frag}{M:Addr->Prop}{H:Hp}{vs:List V}{x:PV} (r:Reps K M H vs [x]):∃ v,vs = [v]/\aE K M H v x:=by
 cases r with
 | cons r t=>cases t; exact⟨_,rfl,r⟩
theorem Reps.two {K:PySem.W.Frag}{M:Addr->Prop}{H:Hp}{vs:List V}{x y:PV} (r:Reps K M H vs [x,y]):∃ v w,vs = [v,w]/\aE K M H v x/\aE K M H w y:=by
 cases r with
 | cons r t=>
  obtain ⟨w,rfl,q⟩:=t.one
  exact⟨_,_,rfl,r,q⟩
theorem Y1:dP X cR (fun xs H Q=>(∃ p ys,xs = [.ref p]/\(aI X.K H p ys ∨ aC X.K H p ys)/\Q (.int ys.length) H) ∨ ∃ a kvs,xs = [V.ref a]/\H a=some (.dK kvs)/\Q (.int kvs.length) H):=by
 rintro H vs xs Q Q' r ⟨x,n,rfl,e,q⟩ k
 obtain ⟨v,rfl,r1⟩:=r.one
 have fin:∀ {m:Nat},m=n->Q' (.int m) H:=fun {m} z=>by rw [z]; exact k _ _ _ (a8.refl _) (.int _) q
 cases r1 with
 | tup h r2=>cases e; exact .inl ⟨_,_,rfl,.inr (aC.of h),fin r2.length⟩
 | lst m h r2=>cases e; exact .inl ⟨_,_,rfl,.inl (aI.of h),fin r2.length⟩
 | scr h=>cases e; exact .inl ⟨_,_,rfl,.inl h.sqL,fin (by rw [au8])⟩
 | kt h r2=>cases e; exact .inl ⟨_,_,rfl,.inr (.inr h),fin r2.length⟩
 | dK m h e' r=>
  cases e
  refine .inr ⟨_,_,rfl,h,fin ?_⟩
  have:=congrArg List.length e'
  rw [au8,au8] at this
  exact this
 | _=>cases e
def seqT:PV->Option (List PV)
 | .kt _=>none
 | x=>fX x
def vS:List PV->(PV->Prop)->Prop:=fun xs Q=>∃ x ys,xs = [x]/\seqT x=some ys/\flats ys=true/\Q (.tup ys)
def qK:List PV->(PV->Prop)->Prop:=fun xs Q=>∃ x ys,xs = [x]/\fX x=some ys/\flats ys=true/\Q (.lst ys)
theorem Y2:dP X (fun xs Q=>vS xs Q/\∀ ns,xs ≠ [.scr ns]) (fun xs H Q=>∃ p ys,xs = [.ref p]/\((aI X.K H p ys/\∀ l,H l=none->Q (.ref l) (upd H l (.tup ys))) ∨ (aC X.K H p ys/\Q (.ref p) H))):=by
 rintro H vs xs Q Q' r ⟨⟨x,ys,rfl,e,f,q⟩,nsc⟩ k
 obtain ⟨v,rfl,r1⟩:=r.one
 cases r1 with
 | tup h r2=>cases e; exact⟨_,_,rfl,.inr ⟨aC.of h,k _ _ _ (a8.refl _) (.tup h (r2.flat f)) q⟩⟩
 | lst m h r2=>cases e; exact⟨_,_,rfl,.inl ⟨aI.of h,fun l hl=>k _ _ _ (aT hl _) (.tup aZ ((r2.flat f).same (aT hl _) fun _ z=>z)) q⟩⟩
 | scr h=>exact absurd rfl (nsc _)
 | _=>cases e
theorem Y3:dP X qK (fun xs H Q=>∃ p ys,xs = [.ref p]/\(aI X.K H p ys ∨ aC X.K H p ys)/\∀ l,H l=none->Q (.ref l) (upd H l (.lst ys))):=by
 rintro H vs xs Q Q' r ⟨x,ys,rfl,e,f,q⟩ k
 obtain ⟨v,rfl,r1⟩:=r.one
 obtain ⟨a,us,rfl,hs,r2⟩:=r1.seq e
 exact⟨_,_,rfl,hs,fun l hl=>k _ _ _ (aT hl _) (.lst hl aZ ((r2.flat f).same (aT hl _) fun _ z=>z)) q⟩
def iV:List PV->(PV->Prop)->Prop:=fun xs Q=>∃ ns,xs = [.lst (intz ns)]/\ns.length < 64/\∀ ms:List Int,ms.Perm ns->ms.Pairwise (· <= ·)->Q (.lst (intz ms))
theorem Y4:dP X iV (v6 X.K):=by
 rintro H vs xs Q Q' r ⟨ns,rfl,hl,q⟩ k
 obtain ⟨v,rfl,r1⟩:=r.one
 obtain ⟨a,us,rfl,_,h,r2⟩:=r1.sqL
 obtain rfl:=r2.ofInts
 exact⟨a,ns,rfl,aI.of h,hl,fun l ms hl' p o=>k _ _ _ (aT hl' _) (.lst hl' aZ (Reps.intz ms)) (q ms p o)⟩
theorem Reps.ofBls {K:PySem.W.Frag}{M:Addr->Prop}{H:Hp}:∀ {ns:List Bool}{us:List V},Reps K M H us (ns.map PV.bl)->us=ns.map V.bl
 | [],_,.nil=>rfl
 | n :: r,_,.cons q t=>by
  cases q
  rw [Reps.ofBls t]; rfl
def mG:List PV->(PV->Prop)->Prop:=fun xs Q=>∃ i j,xs = [.int i,.int j]/\Q (.int (if j < i then j else i))
def mH:List PV->(PV->Prop)->Prop:=fun xs Q=>∃ i j,xs = [.int i,.int j]/\Q (.int (if j > i then j else i))
theorem Y5:dP X mG (fun xs H Q=>∃ i j,xs = [.int i,.int j]/\Q (.int (if j < i then j else i)) H):=by
 rintro H vs xs Q Q' r ⟨i,j,rfl,q⟩ k
 obtain ⟨v,w,rfl,r1,r2⟩:=r.two
 cases r1; cases r2
 exact⟨i,j,rfl,k _ _ _ (a8.refl _) (.int _) q⟩
theorem Y6:dP X mH (fun xs H Q=>∃ i j,xs = [.int i,.int j]/\Q (.int (if j > i then j else i)) H):=by
 rintro H vs xs Q Q' r ⟨i,j,rfl,q⟩ k
 obtain ⟨v,w,rfl,r1,r2⟩:=r.two
 cases r1; cases r2
 exact⟨i,j,rfl,k _ _ _ (a8.refl _) (.int _) q⟩
abbrev bK:=List PV->(PV->Prop)->Prop
def kB (K:PySem.W.Frag) (p:bK):Sp:=fun vs H Q _=>∃ xs Qp,Reps K (fun _=>True) H vs xs/\p xs Qp/\∀ v H' x,a8 H H'->aE K (fun a=>H a=none) H' v x->Qp x->Q v H'
theorem Y7 {p:bK}{E:XK} (h:LE X (aD p tr) σ H Q'):tP (kB X.K p) [] E (LA X tr) σ H Q':=by
 obtain ⟨W,ρ,Q,px,q,k⟩:=h
 refine⟨W,ρ,_,px,q,fun vs H1 xs s1 r1 q1=>⟨_,_,by rw [aD2]; exact r1.any,q1,fun v H' x s2 r2 q2=>k v H' x .fr (s1.trans s2) (r2.same (a8.refl _) fun _ z=>s1.free z) q2⟩⟩
def qL:PV->Bool
 | .non=>true
 | _=>false
def qM (neg:Bool):PV->Tg->PV->Tg->PK->Prop:=fun x _ y _ Q=>y = .non/\Q (.bl (if neg=true then !qL x else qL x)) .fr
theorem Y8 {K:PySem.W.Frag}{M:Addr->Prop}{H:Hp}{v:V}{x:PV} (r:aE K M H v x):decide (v = .non)=qL x:=by
 cases r <;> rfl
theorem Y9:dB X (qM true) (fun x y H Q=>y = .non/\Q (.bl (!decide (x = .non))) H):=by
 rintro W Hs H u v x y g g' Q Q' s n r1 r2 ⟨rfl,q⟩ k
 cases r2
 exact⟨rfl,by rw [Y8 r1]; exact k _ _ _ _ (a8.refl _) (.bl _) q⟩
end
structure iW (K:PySem.W.Frag) (H0:Hp) (W:Addr->Prop) (g:Bool) (H1:Hp) (J:It) (xs:List PV):Prop where
 go:∀ W' H' i,Ev W H1 W' H'->i < xs.length->J.go i H'
 yld:∀ W' H' i v H2,Ev W H1 W' H'->J.yld i H' v H2->i < xs.length->a8 H' H2/\∃ x,xs[i]? = some x/\aE K (Ms H0 W' g) H2 v x
 stop:∀ W' H',Ev W H1 W' H'->J.stop xs.length H'
abbrev dQ:=aV->(List PV->Bool->Prop)->Prop
def LI (X:Cx) (t:dQ):TI:=fun σ H R=>∃ (W:Addr->Prop) (ρ:aV) (Q:List PV->Bool->Prop),PX X.K X.H₀ W σ ρ H/\t ρ Q/\∀ J H1 xs g,a8 H H1->iW X.K X.H₀ W g H1 J xs->Q xs g->R J H1
theorem Ev.keep {H0:Hp}{W W':Addr->Prop}{H H':Hp}{g:Bool} (e:Ev W H W' H') (tw:∀ a,W a->∃ o,H a=some o/\eW o=true):fF (Ms H0 W g) (Ms H0 W' g) H H':=by
 have m:∀ {a:Addr}{o:HO},Ms H0 W g a->H a=some o->Ms H0 W' g a/\H' a=some o:=fun {a o} z h=>by
  cases g with
  | true=>
   obtain ⟨h1,h2⟩:=e a _ h z.1
   exact⟨⟨h2,z.2⟩,h1⟩
  | false=>
   obtain ⟨h1,h2⟩:=e a _ h z
   exact⟨h2,h1⟩
 refine⟨fun a _ z h=>m z h,fun a _ z h=>m z h,fun a _ z h=>m z h,fun a _ h=>(e a _ h fun z=>?_).1,fun a _ _ h=>(e a _ h fun z=>?_).1⟩
 ·obtain ⟨o,h',mu⟩:=tw a z; rw [h] at h'; cases h'; cases mu
 ·obtain ⟨o,h',mu⟩:=tw a z; rw [h] at h'; cases h'; cases mu
section
variable {X : Cx} {σ : St} {H : Hp} {te : aB} {tr : bU} {R : It → Hp → Prop}
def vT (K:PySem.W.Frag) (tl:TE):TI:=fun σ H R=>tl σ H fun x H1=>∃ a,x = .ref a/\((∃ xs,aI K H1 a xs/\R (oO K a) H1) ∨ (∃ xs,aC K H1 a xs/\R (jN K a) H1))
def kC:Tg->List PV->Bool
 | .fr,_=>true
 | .nw,_=>true
 | _,xs=>flats xs
def cI (te:aB):dQ:=fun ρ Q=>te ρ fun x g=>∃ xs,fX x=some xs/\(g = .rd->flat x=true)/\Q xs (kC g xs)
theorem vU {K:PySem.W.Frag}{H0:Hp}{W:Addr->Prop}{g:Bool}{H1:Hp}{a:Addr}{us:List V}{xs:List PV} (tw:∀ a,W a->∃ o,H1 a=some o/\eW o=true) (ha:∀ W' H',Ev W H1 W' H'->aI K H' a us) (r:Reps K (Ms H0 W g) H1 us xs):iW K H0 W g H1 (oO K a) xs:=by
 have lr:=r.length
 refine⟨fun W' H' i e hi=>⟨us,us[i]'(by omega),ha W' H' e,by simp⟩,fun W' H' i v H2 e y hi=>?_,fun W' H' e=>⟨us,ha W' H' e,by omega⟩⟩
 obtain ⟨rfl,y⟩:=y
 obtain ⟨x,hx,rx⟩:=r.get (y us (ha W' _ e))
 exact⟨a8.refl _,x,hx,rx.keep (e.keep tw)⟩
theorem vV {K:PySem.W.Frag}{H0:Hp}{W:Addr->Prop}{g:Bool}{H1:Hp}{a:Addr}{us:List V}{xs:List PV} (tw:∀ a,W a->∃ o,H1 a=some o/\eW o=true) (ha:∀ W' H',Ev W H1 W' H'->aC K H' a us) (r:Reps K (Ms H0 W g) H1 us xs):iW K H0 W g H1 (jN K a) xs:=by
 have lr:=r.length
 refine⟨fun W' H' i e hi=>⟨us,us[i]'(by omega),ha W' H' e,by simp⟩,fun W' H' i v H2 e y hi=>?_,fun W' H' e=>⟨us,ha W' H' e,by omega⟩⟩
 obtain ⟨rfl,y⟩:=y
 obtain ⟨x,hx,rx⟩:=r.get (y us (ha W' _ e))
 exact⟨a8.refl _,x,hx,rx.keep (e.keep tw)⟩
theorem iX {K:PySem.W.Frag}{H0 Hs H:Hp}{W:Addr->Prop}{σ:St}{ρ:aV}{g:Tg}{us:List V}{xs:List PV} (px:PX K H0 W σ ρ Hs) (hg:g = .rd->flats xs=true) (r:Reps K (Mg H0 W Hs g) H us xs):Reps K (Ms H0 W (kC g xs)) H us xs:=by
 cases g with
 | fr=>exact r.same (a8.refl _) fun _ z=>px.new z
 | nw=>exact r.same (a8.refl _) fun _ z=>z
 | sh=>
  show Reps K (Ms H0 W (flats xs)) H us xs
  cases e:flats xs with
  | true=>exact r.flat e
  | false=>exact r.same (a8.refl _) fun _ z=>z
 | rd=>exact r.flat (hg rfl)
theorem Z0 (h:LI X (cI te) σ H R):vT X.K (LE X te) σ H R:=by
 obtain ⟨W,ρ,Q,px,q,k⟩:=h
 refine⟨W,ρ,_,px,q,?_⟩
 rintro v H1 x g s r ⟨xs,e,hg,q⟩
 have px1:=px.mono s
 have tw:∀ a,W a->∃ o,H1 a=some o/\eW o=true:=fun a z=>(px1.wm a z).2
 cases r with
 | tup h r=>
  cases e
  refine⟨_,rfl,.inr ⟨_,aC.of h,k _ _ _ _ s (vV tw (fun W' H' e=>aC.of (e _ _ h fun z=>?_).1) (iX px (fun z=>by have:=hg z; unfold flat at this; exact this) r)) q⟩⟩
  obtain ⟨o,h',mu⟩:=tw _ z; rw [h] at h'; cases h'; cases mu
 | @lst a us xs' m h r=>
  cases e
  have wa : ¬ W a:=by
   cases g with
   | fr=>exact (px.new m).1
   | nw=>exact m.1
   | sh=>exact m
   | rd=>have:=hg rfl; unfold flat at this; cases this
  exact⟨_,rfl,.inl ⟨_,aI.of h,k _ _ _ _ s (vU tw (fun W' H' e=>aI.of (e _ _ h wa).1) (iX px (fun z=>by have:=hg z; unfold flat at this; cases this) r)) q⟩⟩
 | scr h=>
  cases e
  refine⟨_,rfl,.inl ⟨_,h.sqL,k _ _ _ _ s (vU tw (fun W' H' e=>(fV.keep (fun a o u hz=>(e _ _ hz fun z=>?_).1) h).sqL) (iX (g:=g) px (fun z=>cQ _) (Reps.intz _))) q⟩⟩
  obtain ⟨o,h',mu⟩:=tw _ z; rw [hz] at h'; cases h'; cases mu
 | kt h r=>
  cases e
  exact⟨_,rfl,.inr ⟨_,.inr h,k _ _ _ _ s (vV tw (fun W' H' e=>.inr h) (iX px (fun z=>by have:=hg z; unfold flat at this; exact this) r)) q⟩⟩
 | _=>cases e
def fY (lo:Int) (n:Nat):List PV:=(List.range n).map fun (i:Nat)=>PV.int (lo+(i:Int))
theorem eI (lo:Int) (n:Nat):(fY lo n).length=n:=by unfold fY; rw [au8,aG6]
theorem vW {lo:Int}{n i:Nat} (h:i < n):(fY lo n)[i]? = some (.int (lo+i)):=by unfold fY; rw [aw3,List.getElem?_range h]; rfl
def fH (te:aB):dQ:=fun ρ Q=>te ρ fun x _=>∃ j:Int,x = .int j/\-1000000<=j/\j<=1000000/\Q (fY 0 j.toNat) true
def qN (ta tb:aB):dQ:=fun ρ Q=>ta ρ fun x _=>tb ρ fun y _=>∃ i j:Int,x = .int i/\y = .int j/\(-1000000<=i/\i<=1000000/\-1000000<=j/\j<=1000000)/\Q (fY i (j - i).toNat) true
theorem vX {K:PySem.W.Frag}{H0:Hp}{W:Addr->Prop}{H1:Hp} (lo:Int) (n:Nat):iW K H0 W true H1 (jO lo n) (fY lo n):=by
 refine⟨fun W' H' i e hi=>by rw [eI] at hi; exact hi,fun W' H' i v H2 e y hi=>?_,fun W' H' e=>by show n<=(fY lo n).length; rw [eI]; exact au7 _⟩
 rw [eI] at hi
 obtain ⟨rfl,rfl⟩:=y
 exact⟨a8.refl _,_,vW hi,.int _⟩
theorem Z1 (h:LI X (fH te) σ H R):t8 (fC (LE X te) gF) σ H R:=by
 obtain ⟨W,ρ,Q,px,q,k⟩:=h
 refine⟨W,ρ,_,px,q,?_⟩
 rintro v H1 x g s r ⟨j,rfl,h1,h2,q⟩
 cases r
 exact⟨j,rfl,by omega,by omega,k _ _ _ _ s (vX 0 j.toNat) q⟩
theorem Z2 {ta tb:aB} (h:LI X (qN ta tb) σ H R):t9 (fC (LE X ta) (fC (LE X tb) gF)) σ H R:=by
 obtain ⟨W,ρ,Q,px,q,k⟩:=h
 refine⟨W,ρ,_,px,q,fun v H1 x g s r q=>⟨W,ρ,_,px.mono s,q,?_⟩⟩
 rintro w H2 y g' s2 r2 ⟨i,j,rfl,rfl,h,q⟩
 cases r; cases r2
 exact⟨i,j,rfl,by omega,k _ _ _ _ (s.trans s2) (vX i (j - i).toNat) q⟩
end
abbrev gM:=PV->Bool->aV->(aV->Prop)->Prop
def kD (K:PySem.W.Frag) (own:Nat->Prop) (p:gM) (t:TG):Prop:=∀ (H0:Hp) (W:Addr->Prop) (σ:St) (ρ:aV) (H:Hp) (v:V) (x:PV) (g:Bool) (Q:aV->Prop) (Q':St->Hp->Prop),
 PX K H0 W σ ρ H->aE K (Ms H0 W g) H v x->p x g ρ Q->(∀ σ' ρ',PX K H0 W σ' ρ' H->(∀ i,¬ own i->σ'[i]? = σ[i]?)->σ'.length=σ.length->Q ρ'->Q' σ' H)->t v σ H Q'
def b7 (i:Nat):gM:=fun x g ρ Q=>Q (ρ.set i (some (.sh (g || flat x) x)))
theorem mI {K:PySem.W.Frag}{H0 H:Hp}{W:Addr->Prop}{v:V}{x:PV}{g:Bool} (r:aE K (Ms H0 W g) H v x):aE K (Ms H0 W (g || flat x)) H v x:=by
 cases g with
 | true=>exact r
 | false=>
  show aE K (Ms H0 W (flat x)) H v x
  cases e:flat x with
  | true=>exact r.flat e
  | false=>exact r
theorem mJ (K:PySem.W.Frag) (i:Nat):kD K (· = i) (b7 i) (cO i):=by
 intro H0 W σ ρ H v x g Q Q' px r q k
 exact k _ _ (px.setSh (mI r)) (fun j hj=>by rw [ax7 (Ne.symm hj)]) (aD3 ..) q
def mK (i j:Nat):gM:=fun x g ρ Q=>∃ y z,x = .tup [y,z]/\Q ((ρ.set i (some (.sh (g || flat y) y))).set j (some (.sh (g || flat z) z)))
theorem Z3 (K:PySem.W.Frag) (i j:Nat):kD K (fun k=>k=i ∨ k=j) (mK i j) (lE K 2 (hU (cO i) (hU (cO j) lC))):=by
 intro H0 W σ ρ H v x g Q Q' px r q k
 obtain ⟨y,z,rfl,q⟩:=q
 obtain ⟨a,us,rfl,h,r⟩:=r.sqT
 obtain ⟨u1,u2,rfl,r1,r2⟩:=r.two
 refine⟨a,_,rfl,aC.of h,rfl,u1,_,rfl,u2,_,rfl,rfl,k _ _ ((px.setSh (mI r1)).setSh (mI r2)) (fun k hk=>?_) (by rw [aD3,aD3]) q⟩
 rw [ax7 (fun e=>hk (.inr e.symm)),ax7 (fun e=>hk (.inl e.symm))]
section
variable {X : Cx} {σ : St} {H : Hp} {D : dA}
def cX (ti:dQ) (p:gM) (tb:aQ):aQ:=fun D ρ=>ti ρ fun xs g=>∃ I:Nat->aV->Prop,I 0 ρ/\(∀ i x ρ',xs[i]? = some x->I i ρ'->p x g ρ' fun ρ2=>tb { D with nx:=I (i+1),ct:=I (i+1),bk:=D.nx } ρ2)/\∀ ρ',I xs.length ρ'->D.nx ρ'
theorem Z4 {ti:dQ}{p:gM}{g:TG}{tb:aQ}{own:Nat->Prop} (hg:kD X.K own p g) (h:LS X (cX ti p tb) D σ H):tD (LI X ti) g (LS X tb) D σ H:=by
 obtain ⟨W,ρ,D',px,q,k⟩:=h
 refine⟨W,ρ,_,px,q,?_⟩
 rintro J H1 xs gb s it ⟨I,i0,turn,fin⟩
 refine⟨fun i m σ2 H2=>m=xs.length - i/\i<=xs.length/\∃ W2 ρ2,PX X.K X.H₀ W2 σ2 ρ2 H2/\Ev W H1 W2 H2/\I i ρ2,⟨xs.length,by omega,ay4 _,W,ρ,px.mono s,Ev.refl _ _,i0⟩,?_⟩
 rintro i m σ2 H2 ⟨rfl,hi,W2,ρ2,px2,e2,i2⟩
 have e0:Ev W H W2 H2:=(Ev.same s).trans e2
 by_cases hlt:i < xs.length
 ·refine .inr ⟨it.go W2 H2 i e2 hlt,fun σ3 H3=>∃ W3 ρ3,PX X.K X.H₀ W3 σ3 ρ3 H3/\Ev W H1 W3 H3/\I (i+1) ρ3,fun σ3 H3 ⟨W3,ρ3,a,b,c⟩=>⟨xs.length - (i+1),by omega,rfl,hlt,W3,ρ3,a,b,c⟩,fun v H3 y=>?_⟩
  obtain ⟨s3,x,hx,rx⟩:=it.yld W2 H2 i v H3 e2 y hlt
  refine hg X.H₀ W2 σ2 ρ2 H3 v x gb _ _ (px2.mono s3) rx (turn i x ρ2 hx i2) fun σ4 ρ4 px4 _ _ q4=>?_
  have e3:Ev W H1 W2 H3:=e2.trans (Ev.same s3)
  have e3':Ev W H W2 H3:=e0.trans (Ev.same s3)
  exact⟨W2,ρ4,_,px4,q4,fun W' σ' H' ρ' e p q=>⟨W',ρ',p,e3.trans e,q⟩,k.rt,fun W' σ' H' ρ' e p q=>k.nx W' σ' H' ρ' (e3'.trans e) p q,fun W' σ' H' ρ' e p q=>⟨W',ρ',p,e3.trans e,q⟩⟩
 ·have e:i=xs.length:=by omega
  subst e
  exact .inl ⟨it.stop W2 H2 e2,k.nx W2 σ2 H2 ρ2 e0 px2 (fin ρ2 i2)⟩
end
def iY (fr:List (Option Nat)) (ρ:aV):aV:=fr.map fun o=>o.bind fun j=>(ρ[j]?).join.map fun m=>Slot.sh false m.val
def i9 (D:Addr):Addr->Prop:=fun a=>a=D
theorem Z5 {K:PySem.W.Frag}{H0:Hp}{W:Addr->Prop}{σ:St}{ρ:aV}{H1 H':Hp}{D:Addr}{acc:List V}{fr:List (Option Nat)} (px:PX K H0 W σ ρ H1) (hD:H1 D=none) (s:a8 H1 H') (ha:H' D=some (.lst acc)) :
  PX K H1 (i9 D) (dN fr σ) (iY fr ρ) H':=by
 have old:∀ {a:Addr}{o:HO},H1 a=some o->a ≠ D:=fun {a o} e z=>by rw [z,hD] at e; cases e
 refine⟨by unfold dN iY; rw [au8,au8],s,fun a z=>by cases z; exact⟨hD,_,ha,rfl⟩,fun i m h=>?_,fun i j x y a h1=>?_⟩
 ·unfold iY at h
  rw [aw3] at h
  cases ef:fr[i]? with
  | none=>rw [ef] at h; cases h
  | some o=>
   rw [ef] at h
   cases o with
   | none=>cases h
   | some j=>
    have h:some ((ρ[j]?).join.map fun m=>Slot.sh false m.val)=some (some m):=h
    cases er:ρ[j]? with
    | none=>rw [er] at h; cases h
    | some o=>
     rw [er] at h
     cases o with
     | none=>cases h
     | some m0=>
      cases h
      obtain ⟨v,ev,r⟩:=px.sl j m0 er
      refine⟨v,?_,?_⟩
      ·unfold dN
       rw [aw3,ef]
       show some ((σ[j]?).join)=_
       rw [ev]; rfl
      ·have r':aE K (fun _=>True) H1 v m0.val:=(vI (Hs:=H1) r).same (a8.refl _) fun _ _=>trivial
       exact r'.keep ⟨fun a _ _ e=>⟨old e,s _ _ e⟩,fun a _ _ e=>⟨old e,s _ _ e⟩,fun a _ _ e=>⟨old e,s _ _ e⟩,fun _ _ e=>s _ _ e,fun _ _ _ e=>s _ _ e⟩
 ·unfold iY at h1
  rw [aw3] at h1
  cases ef:fr[i]? with
  | none=>rw [ef] at h1; cases h1
  | some o=>
   rw [ef] at h1
   cases o with
   | none=>cases h1
   | some j=>
    have h1:some ((ρ[j]?).join.map fun m=>Slot.sh false m.val)=some (some (Slot.own x)):=h1
    cases er:ρ[j]? with
    | none=>rw [er] at h1; cases h1
    | some o=>
     rw [er] at h1
     cases o with
     | none=>cases h1
     | some m0=>cases h1
section
variable {X : Cx} {σ : St} {H : Hp} {Q' : VK}
abbrev _root_.L2.Cx.frm (X:Cx) (H1:Hp):Cx:={ X with H₀:=H1 }
def cJ (ti:dQ) (fr:List (Option Nat)) (p:gM) (tc:bO) (te:aB):aB:=fun ρ Q=>ti ρ fun xs g=>xs.length<=16000000/\∃ I:Nat->List PV->Prop,I 0 []/\
 (∀ i x acc,xs[i]? = some x->I i acc->p x false (iY fr ρ) fun ρ2=>tc ρ2 fun b=>if b=true then te ρ2 fun y gy=>Nw gy y/\I (i+1) (acc ++ [y]) else I (i+1) acc)/\∀ acc,I xs.length acc->Q (.lst acc) .fr
theorem mL {ti:dQ}{fr:List (Option Nat)}{p:gM}{g:TG}{tc:bO}{te:aB}{own:Nat->Prop} (hg:kD X.K own p g) (ho:∀ i,own i->fr[i]? = some none) (h:LE X (cJ ti fr p tc te) σ H Q') :
  pN (LI X ti) fr (fun _=>g) (fun H1=>LT (X.frm H1) tc) (fun H1=>LE (X.frm H1) te) σ H Q':=by
 obtain ⟨W,ρ,Q,px,q,k⟩:=h
 refine⟨W,ρ,_,px,q,?_⟩
 rintro J H1 xs gb s it ⟨hl,I,i0,turn,fin⟩ D hD
 have px1:=px.mono s
 refine⟨fun i m acc H'=>m=xs.length - i/\i<=xs.length/\a8 H1 H'/\H' D=some (.lst acc)/\∃ ys,Reps X.K (Ms H1 (i9 D) true) H' acc ys/\ys.length<=i/\I i ys,⟨xs.length,by omega,ay4 _,aT hD _,aZ,[],.nil,au7 _,i0⟩,?_⟩
 rintro i m acc H' ⟨rfl,hi,sm,ha,ys,ry,hy,iy⟩
 refine⟨ha,?_⟩
 have ev:Ev W H1 (iU W D) H':=Ev.own sm hD
 by_cases hlt:i < xs.length
 ·refine .inr ⟨it.go _ H' i ev hlt,fun v H2 y=>?_⟩
  obtain ⟨s2,x,hx,rx⟩:=it.yld _ H' i v H2 ev y hlt
  have ha2:=s2 _ _ ha
  have pxb:PX X.K H1 (i9 D) (dN fr σ) (iY fr ρ) H2:=Z5 px1 hD (sm.trans s2) ha2
  have rx':aE X.K (Ms H1 (i9 D) false) H2 v x:=rx.same (a8.refl _) fun a z=>by
   cases gb with
   | true=>exact fun e=>z.1 (.inr e)
   | false=>exact fun e=>z (.inr e)
  refine hg H1 (i9 D) _ _ H2 v x false _ _ pxb rx' (turn i x ys hx iy) fun σ2 ρ2 px2 hown hlen q2=>⟨⟨hlen.symm,fun j w e=>?_⟩,?_⟩
  ·by_cases oj:own j
   ·have:=ho j oj
    unfold dN at e
    rw [aw3,this] at e
    cases e
   ·rw [hown j oj]; exact e
  ·refine⟨i9 D,ρ2,_,px2,q2,fun b H4 s4 q4=>?_⟩
   have ha4:=s4 _ _ ha2
   have sm4:=(sm.trans s2).trans s4
   cases b with
   | false=>
    refine bH ⟨xs.length - (i+1),by omega,rfl,hlt,sm4,ha4,ys,ry.same (s2.trans s4) fun _ z=>z,by omega,by simpa using q4⟩
   | true=>
    refine bX ⟨i9 D,ρ2,_,px2.mono s4,by simpa using q4,?_⟩
    rintro w H5 y gy s5 ryy ⟨nw,q5⟩
    have ha5:=s5 _ _ ha4
    have lr:=ry.length
    refine⟨ha5,gL (by omega),xs.length - (i+1),by omega,rfl,hlt,fun b o e=>?_,aZ,ys ++ [y],?_,by rw [aw4,aC9]; omega,q5⟩
    ·rw [aN (fun z=>by rw [z,hD] at e; cases e)]
     exact s5 _ _ (sm4 _ _ e)
    ·exact ((ry.same ((s2.trans s4).trans s5) fun _ z=>z).append (.cons (Nw.rep (px2.mono s4) nw ryy) .nil)).keep (.upd ha5 rfl fun b m=>⟨m.1,m⟩)
 ·have e:i=xs.length:=by omega
  subst e
  refine .inl ⟨it.stop _ H' ev,k _ H' _ .fr (s.trans sm) (.lst (s.free hD) ha (ry.same (a8.refl _) fun _ z=>s.free z.2)) (fin ys iy)⟩
def cK:bO:=fun _ Q=>Q true
theorem Z6 {Qb:Bool->Hp->Prop} (h:LT X cK σ H Qb):pJ σ H Qb:=by
 obtain ⟨W,ρ,Q,px,q,k⟩:=h
 exact k _ _ (a8.refl _) q
end
section
variable {κ : Type} [DecidableEq κ]
def mM (ps:List (κ × PV)) (k:κ):Option PV:=(ps.find? fun p=>decide (p.1=k)).map (·.2)
def dR (ps:List (κ × PV)) (k:κ) (x:PV):List (κ × PV):=if (ps.any fun p=>decide (p.1=k))=true then ps.map (fun p=>if p.1=k then (p.1,x) else p) else ps ++ [(k,x)]
variable {K : PySem.W.Frag} {M : Addr → Prop} {H : Hp}
theorem Z7 (k:κ):∀ {kvs:List (κ × V)}{ps:List (κ × PV)},kvs.map (·.1)=ps.map (·.1)->Reps K M H (kvs.map (·.2)) (ps.map (·.2))->(mM ps k=none->fE kvs k=none)/\∀ x,mM ps k=some x->∃ v,fE kvs k=some v/\aE K M H v x
 | [],[],_,_=>⟨fun _=>rfl,fun x h=>by cases h⟩
 | [],_ :: _,e,_=>by cases e
 | _ :: _,[],e,_=>by cases e
 | (k1,v) :: kvs,(k2,x) :: ps,e,r=>by
  injection e with e1 e2
  have e1:k1=k2:=e1
  subst e1
  cases r with
  | cons r t=>
   obtain ⟨h1,h2⟩:=Z7 k e2 t
   unfold mM fE at h1 h2 ⊢
   by_cases e:k1=k
   ·simp only [List.find?_cons,e,decide_true,Option.map_some]
    exact⟨fun z=>(by cases z),fun y z=>(by cases z; exact⟨v,rfl,r⟩)⟩
   ·simp only [List.find?_cons,e,decide_false]
    exact⟨h1,h2⟩
theorem Z8 (k:κ) {kvs:List (κ × V)}{ps:List (κ × PV)} (e:kvs.map (·.1)=ps.map (·.1)):(kvs.any fun p=>decide (p.1=k))=ps.any fun p=>decide (p.1=k):=by
 have h1:(kvs.any fun p=>decide (p.1=k))=(kvs.map (·.1)).any fun z=>decide (z=k):=by rw [List.any_map]; rfl
 have h2:(ps.any fun p=>decide (p.1=k))=(ps.map (·.1)).any fun z=>decide (z=k):=by rw [List.any_map]; rfl
 rw [h1,h2,e]
theorem vY (k:κ) {w:V}{y:PV} (q:aE K M H w y):∀ {kvs:List (κ × V)}{ps:List (κ × PV)},kvs.map (·.1)=ps.map (·.1)->Reps K M H (kvs.map (·.2)) (ps.map (·.2))->
  (kvs.map fun kv=>if kv.1=k then (kv.1,w) else kv).map (·.1)=(ps.map fun kv=>if kv.1=k then (kv.1,y) else kv).map (·.1)/\Reps K M H ((kvs.map fun kv=>if kv.1=k then (kv.1,w) else kv).map (·.2)) ((ps.map fun kv=>if kv.1=k then (kv.1,y) else kv).map (·.2))
 | [],[],_,_=>⟨rfl,.nil⟩
 | [],_ :: _,e,_=>by cases e
 | _ :: _,[],e,_=>by cases e
 | (k1,v) :: kvs,(k2,x) :: ps,e,r=>by
  injection e with e1 e2
  have e1:k1=k2:=e1
  subst e1
  cases r with
  | cons r t=>
   obtain ⟨h1,h2⟩:=vY k q e2 t
   by_cases e:k1=k
   ·simp only [az0,e,if_true]
    exact⟨by rw [h1],.cons q h2⟩
   ·simp only [az0,e,aA3]
    exact⟨by rw [h1],.cons r h2⟩
theorem Z9 (k:κ) {w:V}{y:PV} (q:aE K M H w y) {kvs:List (κ × V)}{ps:List (κ × PV)} (e:kvs.map (·.1)=ps.map (·.1)) (r:Reps K M H (kvs.map (·.2)) (ps.map (·.2))) :
  (dM kvs k w).map (·.1)=(dR ps k y).map (·.1)/\Reps K M H ((dM kvs k w).map (·.2)) ((dR ps k y).map (·.2)):=by
 unfold dM dR
 rw [Z8 k e]
 split
 ·exact vY k q e r
 ·rw [ay5,ay5,ay5,ay5,e]
  exact⟨rfl,r.append (.cons q .nil)⟩
end
def kP:aH->PV
 | .inl i=>.int i
 | .inr x=>.str x
theorem aa0 {K:PySem.W.Frag}{M:Addr->Prop}{H:Hp}{v:V}{k:aH} (r:aE K M H v (kP k)):v=kV k:=by
 cases k with
 | inl i=>cases r; rfl
 | inr x=>cases r; rfl
theorem vZ {K:PySem.W.Frag}{M:Addr->Prop}{H:Hp}:∀ {ks:List aH}{us:List V},Reps K M H us (ks.map kP)->us=ks.map kV
 | [],_,.nil=>rfl
 | k :: r,_,.cons q t=>by rw [aa0 q,vZ t]; rfl
section
variable {X : Cx} {σ : St} {H : Hp} {D : dA} {tk td te : aB} {Q' : VK}
theorem PX.updT {K:PySem.W.Frag}{H0:Hp}{W:Addr->Prop}{σ:St}{ρ:aV}{H:Hp}{i:Nat}{a:Addr}{x:PV}{kvs:List (List aH × V)}{ps:List (List aH × PV)} (p:PX K H0 W σ ρ H) (hi:ρ[i]? = some (some (.own x))) (ha:σ[i]? = some (some (.ref a))) (wa:W a)
  (r:kvs.map (·.1)=ps.map (·.1)/\Reps K (Ms H0 W true) (upd H a (.dT kvs)) (kvs.map (·.2)) (ps.map (·.2))):PX K H0 W σ (ρ.set i (some (.own (.dT ps)))) (upd H a (.dT kvs)):=p.updOwn hi ha wa rfl (y:=.dT ps) ⟨kvs,aZ,r⟩
theorem aa1 {κ α β:Type}{l:List (κ × α)}{m:List (κ × β)} (e:l.map (·.1)=m.map (·.1)):l.length=m.length:=by
 have:=congrArg List.length e
 rw [au8,au8] at this
 exact this
def mN (i:Nat) (tk te:aB):aQ:=fun D ρ=>te ρ fun z g=>∃ ps,ρ[i]? = some (some (.own (.dT ps)))/\tk ρ fun y _=>∃ k,y = .tup (k.map kP)/\Nw g z/\ps.length < 16000000/\D.nx (ρ.set i (some (.own (.dT (dR ps k z)))))
theorem aa2 {i:Nat} (h:LS X (mN i tk te) D σ H):uN (iP i) (LE X tk) (LE X te) D σ H:=by
 obtain ⟨W,ρ,D',px,q,k⟩:=h
 refine⟨W,ρ,_,px,q,?_⟩
 rintro w H1 z g s rz ⟨ps,hi,q⟩
 obtain ⟨v,ev,a,rfl,wa,kvs,ea,e1,r⟩:=(px.mono s).sl i _ hi
 refine⟨_,ev,W,ρ,_,px.mono s,q,?_⟩
 rintro kv H2 y g' s2 ry ⟨kk,rfl,nw,hl,q⟩
 obtain ⟨b,us,rfl,hb,rb⟩:=ry.sqT
 obtain rfl:=vZ rb
 have ea2:=s2 _ _ ea
 refine⟨a,_,rfl,jW.t ea2 hb (gL (by rw [aa1 e1]; omega)),?_⟩
 refine k.nx W σ _ _ ((Ev.same (s.trans s2)).trans (Ev.upd wa)) ((px.mono (s.trans s2)).updT hi ev wa ?_) q
 obtain ⟨h1,h2⟩:=Z9 kk ((Nw.rep px nw rz).same s2 fun _ z=>z) e1 (r.same s2 fun _ z=>z)
 exact⟨h1,h2.keep (.upd ea2 rfl fun b m=>⟨qF wa m,m⟩)⟩
theorem aa3 (h:LE X (qC (.dT [])) σ H Q'):uO σ H Q':=by
 obtain ⟨W,ρ,Q,px,q,k⟩:=h
 exact fun p hp=>k _ _ _ .fr (aT hp _) (.dT hp aZ rfl .nil) q
end
def w4 (ta:aB):aB:=fun ρ Q=>ta ρ fun x _=>∃ i,x = .int i/\Q (.int (-i)) .fr
def qO (neg:Bool):PV->Tg->PV->Tg->PK->Prop:=fun x _ y _ Q=>∃ i ns,x = .int i/\fX y=some (intz ns)/\Q (.bl (if neg=true then !decide (i ∈ ns) else decide (i ∈ ns))) .fr
def w5:PV->Option String
 | .non=>some "NoneType"
 | .bl _=>some "bool"
 | .int _=>some "int"
 | .str _=>some "str"
 | .tup _=>some "tuple"
 | .kt _=>some "tuple"
 | .lst _=>some "list"
 | _=>none
def iA (K:PySem.W.Frag) (n:String) (te:aB):aB:=fun ρ Q=>te ρ fun x _=>∃ T b,w5 x=some T/\PySem.W.kitOne K (.type T) (.type n)=some b/\Q (.bl b) .fr
abbrev iZ:=aV->(Option Int->Prop)->Prop
def dD (xs:List PV) (lo hi:Option Int):List PV:=(xs.drop (HT.aL xs.length 0 lo)).take (HT.aL xs.length xs.length hi - HT.aL xs.length 0 lo)
def aa4:PV->List PV->PV
 | .tup _,ys=>.tup ys
 | .kt _,ys=>.tup ys
 | _,ys=>.lst ys
def j4:iZ:=fun _ Q=>Q none
def j5 (te:aB):iZ:=fun ρ Q=>te ρ fun x _=>∃ i,x = .int i/\Q (some i)
def j6 (te:aB) (tl th:iZ):aB:=fun ρ Q=>te ρ fun x _=>tl ρ fun lo=>th ρ fun hi=>∃ xs,seqT x=some xs/\flats xs=true/\Q (aa4 x (dD xs lo hi)) .fr
def fI (N:List Str) (xs:List PV):aV:=xs.map (fun x=>some (.sh (flat x) x)) ++ List.replicate (N.length - xs.length) none
abbrev mO (ta tb:aB):aB:=q2 (dC fun i j=>.int (i+j)) ta tb
abbrev mQ (ta tb:aB):aB:=q2 (dC fun i j=>.int (i - j)) ta tb
abbrev w9 (ta tb:aB):aB:=q2 (RI jR fun i j=>.int (i * j)) ta tb
abbrev cS (ta tb:aB):aB:=q2 (RI oS fun i j=>.int (i / j)) ta tb
abbrev bM (ta tb:aB):aB:=q2 (RI (fun _ j=>0 < j) fun i j=>.int (i % j)) ta tb
abbrev mR (ta tb:aB):aB:=q2 (dC fun i j=>.bl (decide (i < j))) ta tb
abbrev qLe (ta tb:aB):aB:=q2 (dC fun i j=>.bl (decide (i<=j))) ta tb
abbrev j7 (ta tb:aB):aB:=q2 (dC fun i j=>.bl (decide (j < i))) ta tb
abbrev qGe (ta tb:aB):aB:=q2 (dC fun i j=>.bl (decide (j<=i))) ta tb
abbrev mS (ta tb:aB):aB:=q2 (iT false) ta tb
abbrev kE (ta tb:aB):aB:=q2 (iT true) ta tb
abbrev wA (ta tb:aB):aB:=q2 (qM true) ta tb
abbrev bR (ta tb:aB):aB:=q2 qI ta tb
def gN:List PV->(PV->Prop)->Prop:=fun xs Q=>vS xs Q/\∀ ns,xs ≠ [.scr ns]
def mT:aQ:=fun _ _=>False
def QE (X:Cx) (e:Expr) (t:aB):Prop:=PE X e (LE X t)
def QT (X:Cx) (e:Expr) (t:bO):Prop:=PT X e (LT X t)
def QW (X:Cx) (e:Expr) (t:bO):Prop:=PW X e (LT X t)
def QA (X:Cx) (es:List Expr) (t:bU):Prop:=PA X es (LA X t)
def QS (X:Cx) (st:Stmt) (t:aQ):Prop:=PS X st (LS X t)
def eJ (X:Cx) (st:List Stmt) (t:aQ):Prop:=cT X st (LS X t)
def QI (X:Cx) (tg iter:Expr) (t:dQ):Prop:=PI X tg iter (LI X t)
section
variable {X : Cx}
theorem bQ {e:Expr}{t t':TE} (h:PE X e t) (m:∀ σ H Q,t' σ H Q->t σ H Q):PE X e t':=fun pins s σ H Q I q=>h pins s σ H Q I (m σ H Q q)
theorem qP {e:Expr}{t t':TT} (h:PT X e t) (m:∀ σ H Q,t' σ H Q->t σ H Q):PT X e t':=fun pins s σ H Q I q=>h pins s σ H Q I (m σ H Q q)
theorem wB {e:Expr}{t t':TT} (h:PW X e t) (m:∀ σ H Q,t' σ H Q->t σ H Q):PW X e t':=fun wh pins s σ H Q I q=>h wh pins s σ H Q I (m σ H Q q)
theorem wC {e:List Expr}{t t':TA} (h:PA X e t) (m:∀ σ H Q,t' σ H Q->t σ H Q):PA X e t':=fun pos pins s σ H Q I q=>h pos pins s σ H Q I (m σ H Q q)
theorem eL {e:Stmt}{t t':TS} (h:PS X e t) (m:∀ D σ H,t' D σ H->t D σ H):PS X e t':=fun pins s σ H D I q=>h pins s σ H D I (m D σ H q)
theorem wD {e:List Stmt}{t t':TS} (h:cT X e t) (m:∀ D σ H,t' D σ H->t D σ H):cT X e t':=fun pins s σ H D I q=>h pins s σ H D I (m D σ H q)
theorem mU {tg e:Expr}{t t':TI} (h:PI X tg e t) (m:∀ σ H R,t' σ H R->t σ H R):PI X tg e t':=fun pins s σ H R I q=>h pins s σ H R I (m σ H R q)
variable {a b c e o : Expr} {es cF : List Expr} {ta tb te to tk : aB} {tr : bU} {tA tB' tc : bO} {pos p2 px : Pos} {st : Stmt} {sts : List Stmt} {t u : aQ}
theorem qv (i:Nat) {x:Str}{pos:Pos} (hN:X.N[i]? = some x:=by rfl) (hv:gA X.env.scope x:=by first | exact Or.inl rfl | exact Or.inr (Or.inl rfl) | exact Or.inr (Or.inr rfl)) (hd:(x == ("__debug__" : Str))=false:=by decide)
  (hcd:(x == ("__classdict__" : Str))=false:=by decide):QE X (.Name x pos) (a6 i):=bQ (jK hN hv hd hcd) fun _ _ _=>V3
theorem aK {i j}:QE X (.Constant (.int i) j pos) (qC (.int i)):=bQ gB fun _ _ _=>m8 fun _=>.int i
theorem mV {i j}:QE X (.Constant (.bool i) j pos) (qC (.bl i)):=bQ B8 fun _ _ _=>m8 fun _=>.bl i
theorem kF {j}:QE X (.Constant .none j pos) (qC .non):=bQ B9 fun _ _ _=>m8 fun _=>.non
theorem gO {op:Operator}{R:PV->Tg->PV->Tg->PK->Prop}{r:R2} (ho:bN X (binaryOp op) r) (cv:dB X R r) (ha:QE X a ta) (hb:QE X b tb):QE X (.BinOp a op b pos) (q2 R ta tb):=bQ (F7 ho ha hb) fun _ _ _=>m9 cv
theorem mW (ha:QE X a ta) (hb:QE X b tb):QE X (.BinOp a .Add b pos) (q2 (dC fun i j=>.int (i+j)) ta tb):=gO F9 vJ ha hb
theorem mX (ha:QE X a ta) (hb:QE X b tb):QE X (.BinOp a .Sub b pos) (q2 (dC fun i j=>.int (i - j)) ta tb):=gO G0 vJ ha hb
theorem aa5 (ha:QE X a ta) (hb:QE X b tb):QE X (.BinOp a .Mult b pos) (q2 (RI jR fun i j=>.int (i * j)) ta tb):=gO G1 pZ ha hb
theorem fJ (ha:QE X a ta) (hb:QE X b tb):QE X (.BinOp a .FloorDiv b pos) (q2 (RI oS fun i j=>.int (i / j)) ta tb):=gO G2 pZ ha hb
theorem dE (ha:QE X a ta) (hb:QE X b tb):QE X (.BinOp a .Mod b pos) (q2 (RI (fun _ j=>0 < j) fun i j=>.int (i % j)) ta tb):=gO G3 pZ ha hb
theorem aa6 {op:CmpOp}{R:PV->Tg->PV->Tg->PK->Prop}{r:R2} (ho:bN X (compareOp op) r) (cv:dB X R r) (ha:QE X a ta) (hb:QE X b tb) (hm:behindInMarks op b=false):QE X (.Compare a [op] [b] pos) (q2 R ta tb):=bQ (J2 ho ha hb hm) fun _ _ _=>m9 cv
theorem gP {op:CmpOp}{R:PV->Tg->PV->Tg->PK->Prop}{r:R2} (ho:bN X (compareOp op) r) (cv:dB X R r) (ha:QE X a ta) (hb:QE X b tb) (hm:behindInMarks op b=false):QT X (.Compare a [op] [b] pos) (aW (q2 R ta tb)):=qP (J4 ho ha hb hm) fun _ _ _ h=>m9 cv (vM h)
theorem aa7 (ha:QE X a ta) (hb:QE X b tb):QE X (.Compare a [.Lt] [b] pos) (q2 (dC fun i j=>.bl (decide (i < j))) ta tb):=aa6 tN k9 ha hb (gE _)
theorem wE (ha:QE X a ta) (hb:QE X b tb):QT X (.Compare a [.Lt] [b] pos) (aW (q2 (dC fun i j=>.bl (decide (i < j))) ta tb)):=gP tN k9 ha hb (gE _)
theorem aa8 (ha:QE X a ta) (hb:QE X b tb):QT X (.Compare a [.LtE] [b] pos) (aW (q2 (dC fun i j=>.bl (decide (i<=j))) ta tb)):=gP G8 k9 ha hb (gE _)
theorem kG (ha:QE X a ta) (hb:QE X b tb):QT X (.Compare a [.Gt] [b] pos) (aW (q2 (dC fun i j=>.bl (decide (j < i))) ta tb)):=gP G9 k9 ha hb (gE _)
theorem aa9 (ha:QE X a ta) (hb:QE X b tb):QT X (.Compare a [.GtE] [b] pos) (aW (q2 (dC fun i j=>.bl (decide (j<=i))) ta tb)):=gP J0 k9 ha hb (gE _)
theorem qQ (ha:QE X a ta) (hb:QE X b tb):QT X (.Compare a [.Eq] [b] pos) (aW (q2 (iT false) ta tb)):=gP G6 V4 ha hb (gE _)
theorem mY (ha:QE X a ta) (hb:QE X b tb):QT X (.Compare a [.NotEq] [b] pos) (aW (q2 (iT true) ta tb)):=gP G7 V5 ha hb (gE _)
theorem wF (ha:QE X a ta) (hb:QE X b tb):QT X (.Compare a [.IsNot] [b] pos) (aW (q2 (qM true) ta tb)):=gP J1 Y9 ha hb (gE _)
theorem qR (h:QE X e te) (he:∀ whole,isTrue e X.env whole=(do let v <- whole; standAt e.pos; holding [v] (truthy v)):=by intro _; rfl):QT X e (aW te):=qP (C2 h he) fun _ _ _ h=>vM h
theorem ab0 (ha:QT X a tA):QW X (.BoolOp .And [a] pos) tA:=C3 ha
theorem wG (ha:QT X a tA):QW X (.BoolOp .Or [a] pos) tA:=C4 ha
theorem ab1 (ha:QT X a tA) (hb:QW X (.BoolOp .And (b :: cF) pos) tB'):QW X (.BoolOp .And (a :: b :: cF) pos) (mB tA tB'):=wB (C5 ha hb) fun _ _ _=>V6
theorem wH (ha:QT X a tA) (hb:QW X (.BoolOp .Or (b :: cF) pos) tB'):QW X (.BoolOp .Or (a :: b :: cF) pos) (mC tA tB'):=wB (C6 ha hb) fun _ _ _=>V7
theorem qS (h:QW X e tA):QT X e tA:=PW.pt h
theorem wI (ha:QT X a tA):QT X (.UnaryOp .Not a pos) (mD tA):=qP (C7 ha) fun _ _ _=>V8
theorem ab2 {op} (h:QE X a ta):QE X (.BoolOp op [a] pos) ta:=C8 h
theorem ab3 (ha:QE X a ta) (hb:QE X (.BoolOp .And (b :: cF) pos) tb):QE X (.BoolOp .And (a :: b :: cF) pos) (qA ta tb):=bQ (C9 ha hb) fun _ _ _=>V9
theorem ab4 (ha:QE X a ta):QE X (.UnaryOp .Not a pos) (qB ta):=bQ (E1 ha) fun _ _ _=>W0
theorem aF:QA X [] aA:=wC cU fun _ _ _=>W5
theorem a9 (ha:QE X e te) (hr:QA X es tr) (hs:starEach (e :: es) X.env=(false,eval e X.env) :: starEach es X.env:=by rfl):QA X (e :: es) (a7 te tr):=wC (bW ha hr hs) fun _ _ _=>W6
theorem gQ {x1} (h:QA X es tr):QE X (.Tuple es x1 pos) (dZ tr):=bQ (oW h) fun _ _ _=>W7
theorem fK (h:QA X es tr):QE X (.List es pos) (cW tr):=bQ (oX h) fun _ _ _=>W8
theorem bZ (ha:QE X a ta) (hb:QE X b tb) (hs:u0 b:=by exact fun _ _=>rfl):QE X (.Subscript a b pos) (q2 qI ta tb):=bQ (fD M8 ha hb hs) fun _ _ _=>m9 Y0
theorem ab5:QE X (.Dict [] [] pos) (qC (.dT [])):=bQ O9 fun _ _ _=>aa3
theorem gR {x:Str}{id:String}{R:List PV->(PV->Prop)->Prop}{r:List V->Hp->VK->Prop} (hc:bS X (.builtin id) r) (cv:dP X R r) (hg:Gl X x) (hm:X.mg x=none) (hv:bootBuiltins x=some (.builtin id)) (ha:QA X (e :: es) tr) (hn:x ≠ "__name__":=by decide) (hdb:(x == ("__debug__" : Str))=false:=by decide)
  (he:starEach (e :: es) X.env=(false,eval e X.env) :: starEach es X.env:=by rfl) (hpl:(backTo pos (starEach es X.env)).any (·.1)=false:=by rfl):QE X (.Call (.Name x p2) (e :: es) [] pos) (aD R tr):=bQ (lM hc hg hm hv ha hn hdb he hpl) fun _ _ _=>vN cv
theorem qT {x:Str}{T:String}{R:List PV->(PV->Prop)->Prop}{r:List V->Hp->VK->Prop} (hc:bS X (.type T) r) (cv:dP X R r) (hg:Gl X x) (hm:X.mg x=none) (hv:bootBuiltins x=some (.type T)) (ha:QA X (e :: es) tr) (hn:x ≠ "__name__":=by decide) (hdb:(x == ("__debug__" : Str))=false:=by decide)
  (he:starEach (e :: es) X.env=(false,eval e X.env) :: starEach es X.env:=by rfl) (hpl:(backTo pos (starEach es X.env)).any (·.1)=false:=by rfl):QE X (.Call (.Name x p2) (e :: es) [] pos) (aD R tr):=bQ (K3 hc hg hm hv ha hn hdb he hpl) fun _ _ _=>vN cv
theorem dF:eJ X [] cA:=wD E3 fun _ _ _=>W9
theorem aP (h1:QS X st t) (h2:eJ X sts u):eJ X (st :: sts) (aM t u):=wD (jL h1 h2) fun _ _ _=>X0
theorem aS (h1:QS X st t):eJ X [st] t:=oH h1
theorem qU:QS X st mT:=eL E6 fun _ _ _ ⟨_,_,_,_,h,_⟩=>h
theorem bB {i:Nat}{x:Str} (hN:X.N.Nodup) (he:QE X e te) (hi:X.N[i]? = some x:=by rfl) (hx:hE X.env.scope x:=by first | exact Or.inl rfl | exact Or.inr rfl) (hs:swapsWith e (some (.Name x p2)) pos.line X.env=pure false:=by rfl) (hf:X.fn x=true ∨ X.env.scope.names.lookup x=some .local:=by first | exact .inl rfl | exact .inr rfl) :
  QS X (.Assign [.Name x p2] e pos) (aR i te):=eL (oM hN hi hx he hs hf) fun _ _ _=>vQ
theorem kH {i:Nat}{x:Str} (hN:X.N.Nodup) (he:QE X e te) (hi:X.N[i]? = some x:=by rfl) (hx:hE X.env.scope x:=by first | exact Or.inl rfl | exact Or.inr rfl) (hs:swapsWith e (some (.Name x p2)) pos.line X.env=pure false:=by rfl) (hf:X.fn x=true ∨ X.env.scope.names.lookup x=some .local:=by first | exact .inl rfl | exact .inr rfl) :
  QS X (.Assign [.Name x p2] e pos) (fW i te):=eL (oM hN hi hx he hs hf) fun _ _ _=>X3
theorem cL (he:QE X e te):QS X (.Return (some e) pos) (bY te):=eL (oK he) fun _ _ _=>X4
theorem qV (i:Nat) {x:Str} (hN:X.N[i]? = some x:=by rfl) (hv:gA X.env.scope x:=by first | exact Or.inl rfl | exact Or.inr (Or.inl rfl) | exact Or.inr (Or.inr rfl)) (hd:(x == ("__debug__" : Str))=false:=by decide) (hcd:(x == ("__classdict__" : Str))=false:=by decide) :
  QS X (.Return (some (.Name x p2)) pos) (kA i):=eL (oK (jK hN hv hd hcd)) fun _ _ _=>X5
theorem dG {sa sb:List Stmt} (hc:QT X c tc) (ha:eJ X sa t) (hb:eJ X sb u):QS X (.If c sa sb pos) (cB tc t u):=eL (E4 hc ha hb) fun _ _ _=>X6
theorem ab6 {body:List Stmt} (hp:PassesOwn (model X.prog X.w) X.A X.env X.xe) (hc:QT X c tc) (hb:eJ X body t):QS X (.While c body [] pos) (qG tc t):=eL (E7 hp hc hb) fun _ _ _=>X7
theorem mZ (i:Nat) {x:Str}{apos cpos xpos:Pos} (he:QE X e te) (hN:X.N[i]? = some x:=by rfl) (hv:gA X.env.scope x:=by first | exact Or.inl rfl | exact Or.inr (Or.inl rfl) | exact Or.inr (Or.inr rfl)) (hd:(x == ("__debug__" : Str))=false:=by decide) (hcd:(x == ("__classdict__" : Str))=false:=by decide)
  (hbase:attributeBase (.Name x xpos) "append" X.env (eval (.Name x xpos) X.env)=eval (.Name x xpos) X.env:=by rfl)
  (hfew:((backTo cpos (starEach [e] X.env)).all (fun x=>!x.1) && (backToKw cpos (keywordEach [] X.env)).all (fun x=>x.1.isSome) && decide (([e]:List Expr).length+([]:List Keyword).length+(if ([]:List Keyword).isEmpty then 0 else 1) < 30))=true:=by rfl)
  (hline:(apos.endLine == cpos.line)=true:=by rfl) (hs:starEach [e] X.env=(false,eval e X.env) :: starEach [] X.env:=by rfl) (hplain:(backTo cpos (starEach [] X.env)).any (·.1)=false:=by rfl)
  (hsw:swapsWith (.Call (.Attribute (.Name x xpos) "append" apos) [e] [] cpos) none pos.line X.env=pure false:=by rfl) :
  QS X (.Expr (.Call (.Attribute (.Name x xpos) "append" apos) [e] [] cpos) pos) (i8 i te):=
 eL (lA (jU aF1 PySem.F.slot_list_append PySem.F.type_list_append jV (jK hN hv hd hcd) (bW he cU hs) hbase hfew hline hs hplain) hsw) fun _ _ _=>X8
theorem ab7 {apos cpos:Pos} (ho:QE X o to) (he:QE X e te)
  (hbase:attributeBase o "append" X.env (eval o X.env)=eval o X.env:=by rfl)
  (hfew:((backTo cpos (starEach [e] X.env)).all (fun x=>!x.1) && (backToKw cpos (keywordEach [] X.env)).all (fun x=>x.1.isSome) && decide (([e]:List Expr).length+([]:List Keyword).length+(if ([]:List Keyword).isEmpty then 0 else 1) < 30))=true:=by rfl)
  (hline:(apos.endLine == cpos.line)=true:=by rfl) (hs:starEach [e] X.env=(false,eval e X.env) :: starEach [] X.env:=by rfl) (hplain:(backTo cpos (starEach [] X.env)).any (·.1)=false:=by rfl)
  (hsw:swapsWith (.Call (.Attribute o "append" apos) [e] [] cpos) none pos.line X.env=pure false:=by rfl) :
  QS X (.Expr (.Call (.Attribute o "append" apos) [e] [] cpos) pos) (qH to te):=
 eL (lA (jU aF1 PySem.F.slot_list_append PySem.F.type_list_append jV ho (bW he cU hs) hbase hfew hline hs hplain) hsw) fun _ _ _=>X9
theorem ab8 {i:Nat}{x:Str}{xpos tpos:Pos} (hu:X.A.units+1 < cLine) (hk:QE X a tk) (he:QE X e te) (hN:X.N[i]? = some x:=by rfl) (hv:gA X.env.scope x:=by first | exact Or.inl rfl | exact Or.inr (Or.inl rfl) | exact Or.inr (Or.inr rfl)) (hd:(x == ("__debug__" : Str))=false:=by decide) (hcd:(x == ("__classdict__" : Str))=false:=by decide)
  (hs:swapsWith e (some (.Subscript (.Name x xpos) a tpos)) pos.line X.env=pure false:=by rfl):QS X (.Assign [.Subscript (.Name x xpos) a tpos] e pos) (mN i tk te):=eL (O7 hu (jK hN hv hd hcd) hk he hs) fun _ _ _=>aa2
theorem ab9 {tg l:Expr}{tl:TE} (hl:PE X l tl):PI X tg l (vT X.K tl):=by
 intro pins s σ H R I h
 refine aJ (hl pins s σ H _ I h) fun v s1 ⟨x,H1,I1,r1,q1⟩=>?_
 obtain ⟨a,e,q⟩:=q1
 subst e
 cases r1
 rcases q with ⟨xs,hq,q⟩ | ⟨xs,hq,q⟩
 ·obtain ⟨its,rv,p,hz⟩:=I1.list hq
  refine wpAny_pyIter_list p.isList ?_
  refine⟨s1.heap.objs.size,[s1.heap.objs.size],_,_,H1,rfl,I1.kept (t':=s1.toks) fun b o e=>au6 _ e,E8 a _,⟨_,aw8 _ rfl,rfl,rfl⟩,fun b hb=>?_,q⟩
  have e:b=s1.heap.objs.size:=by simpa using hb
  subst e
  exact I1.fpOk (au7 _) (I1.hok.fresh (au7 _))
 ·obtain ⟨its,rv,p,hz⟩:=I1.tuple hq
  refine aF5 (show s1.heap.IsTuple a its.toArray from p) ?_
  refine⟨s1.heap.objs.size,[s1.heap.objs.size],_,_,H1,rfl,I1.kept (t':=s1.toks) fun b o e=>au6 _ e,t6 a _,⟨_,aw8 _ rfl,rfl,rfl⟩,fun b hb=>?_,q⟩
  have e:b=s1.heap.objs.size:=by simpa using hb
  subst e
  exact I1.fpOk (au7 _) (I1.hok.fresh (au7 _))
theorem e6 {tg l:Expr} (hl:QE X l te):QI X tg l (cI te):=mU (ab9 hl) fun _ _ _=>Z0
theorem iB {tg:Expr} (hg:Gl X "range") (hm:X.mg "range" = none) (ha:QE X a ta) (hs:starEach [a] X.env = [(false,eval a X.env)]:=by rfl):QI X tg (.Call (.Name "range" p2) [a] [] pos) (fH ta):=mU (F3 hg hm (bW ha cU hs) hs) fun _ _ _=>Z1
theorem ac0 {tg:Expr} (hg:Gl X "range") (hm:X.mg "range" = none) (ha:QE X a ta) (hb:QE X b tb) (hs:starEach [a,b] X.env = [(false,eval a X.env),(false,eval b X.env)]:=by rfl) (hs2:starEach [b] X.env = [(false,eval b X.env)]:=by rfl) :
  QI X tg (.Call (.Name "range" p2) [a,b] [] pos) (qN ta tb):=mU (F4 hg hm (bW ha (bW hb cU hs2) (by rw [hs,hs2])) hs hs2) fun _ _ _=>Z2
theorem ac1 {tg:Expr}{body:List Stmt}{ti:dQ}{p:gM}{g:TG}{own:Nat->Prop} (hp:PassesOwn (model X.prog X.w) X.A X.env X.xe) (hc:X.calm=true) (hi:QI X tg e ti) (hg:PG X tg g) (ht:kD X.K own p g) (hb:eJ X body t)
  (hs:∀ x,foldedSetIterable e X.env x=pure x:=by intro _; rfl):QS X (.For tg e body [] pos) (cX ti p t):=eL (tE hp hc hi hg hb hs) fun _ _ _=>Z4 ht
end
structure Bt (mg:Str->Option Value):Prop where
 len:mg "len" = none
 range:mg "range" = none
 tuple:mg "tuple" = none
 list:mg "list" = none
 sorted:mg "sorted" = none
 all:mg "all" = none
 any:mg "any" = none
 zip:mg "zip" = none
 min:mg "min" = none
 max:mg "max" = none
 sum:mg "sum" = none
 isinst:mg "isinstance" = none
 int:mg "int" = none
 bool:mg "bool" = none
 enum:mg "enumerate" = none
section
variable {X : Cx} {a b c e o : Expr} {es cF : List Expr} {ta tb te to tk : aB} {tr : bU} {tA tB' tc : bO} {pos p2 px : Pos} {st : Stmt} {sts : List Stmt} {t u : aQ}
theorem dH (B:Bt X.mg) (ha:QA X [e] tr) (hg:Gl X "len":=by rfl) (he:starEach [e] X.env=(false,eval e X.env) :: starEach [] X.env:=by rfl) (hpl:(backTo pos (starEach [] X.env)).any (·.1)=false:=by rfl):QE X (.Call (.Name "len" p2) [e] [] pos) (aD cR tr):=
 gR (uB.or P8) Y1 hg B.len PySem.boot_len ha (he:=he) (hpl:=hpl)
theorem kI (B:Bt X.mg) (ha:QA X [e] tr) (hg:Gl X "tuple":=by rfl) (he:starEach [e] X.env=(false,eval e X.env) :: starEach [] X.env:=by rfl) (hpl:(backTo pos (starEach [] X.env)).any (·.1)=false:=by rfl):QE X (.Call (.Name "tuple" p2) [e] [] pos) (aD gN tr):=
 qT N7 Y2 hg B.tuple PyProof.Rows.boot_tuple ha (he:=he) (hpl:=hpl)
theorem ac2 (B:Bt X.mg) (ha:QA X [e] tr) (hg:Gl X "list":=by rfl) (he:starEach [e] X.env=(false,eval e X.env) :: starEach [] X.env:=by rfl) (hpl:(backTo pos (starEach [] X.env)).any (·.1)=false:=by rfl):QE X (.Call (.Name "list" p2) [e] [] pos) (aD qK tr):=
 qT N6 Y3 hg B.list PyProof.Rows.boot_list ha (he:=he) (hpl:=hpl)
theorem nA (B:Bt X.mg) (ha:QA X [e] tr) (hg:Gl X "sorted":=by rfl) (he:starEach [e] X.env=(false,eval e X.env) :: starEach [] X.env:=by rfl) (hpl:(backTo pos (starEach [] X.env)).any (·.1)=false:=by rfl):QE X (.Call (.Name "sorted" p2) [e] [] pos) (aD iV tr):=
 gR S7 Y4 hg B.sorted PyProof.Rows.boot_sorted ha (he:=he) (hpl:=hpl)
theorem ac3 (B:Bt X.mg) (hc:X.calm=true) (ha:QA X [a,b] tr) (hg:Gl X "min":=by rfl) (he:starEach [a,b] X.env=(false,eval a X.env) :: starEach [b] X.env:=by rfl) (hpl:(backTo pos (starEach [b] X.env)).any (·.1)=false:=by rfl):QE X (.Call (.Name "min" p2) [a,b] [] pos) (aD mG tr):=
 gR (J6 hc) Y5 hg B.min PyProof.Rows.boot_min ha (he:=he) (hpl:=hpl)
theorem ac4 (B:Bt X.mg) (hc:X.calm=true) (ha:QA X [a,b] tr) (hg:Gl X "max":=by rfl) (he:starEach [a,b] X.env=(false,eval a X.env) :: starEach [b] X.env:=by rfl) (hpl:(backTo pos (starEach [b] X.env)).any (·.1)=false:=by rfl):QE X (.Call (.Name "max" p2) [a,b] [] pos) (aD mH tr):=
 gR (J5 hc) Y6 hg B.max PyProof.Rows.boot_max ha (he:=he) (hpl:=hpl)
theorem ac5 (ha:QE X a ta):QE X (.UnaryOp .USub a pos) (w4 ta):=bQ (F8 G5 ha) fun σ H Q' h=>by
 obtain ⟨W,ρ,Q,px,q,k⟩:=h
 refine⟨W,ρ,_,px,q,?_⟩
 rintro v H1 x g s r ⟨i,rfl,q⟩
 cases r
 exact⟨i,rfl,k _ _ _ .fr s (.int _) q⟩
theorem wJ (x:Int):∀ (xs:List Int),jT (.int x) (xs.map V.int)=decide (x ∈ xs)
 | []=>by simp [jT]
 | y :: r=>by
  have ih:=wJ x r
  unfold jT at ih ⊢
  rw [az0,aG9,ih]
  by_cases e:y=x
  ·subst e; simp [eU]
  ·have:eU (.int y) (.int x)=false:=by simpa [eU] using e
   rw [this,Bool.false_or,aG3]
   simp [Ne.symm e]
theorem wK:∀ (xs:List Int),(xs.map V.int).all fS=true
 | []=>rfl
 | _ :: r=>by rw [az0,List.all_cons,wK r]; rfl
theorem ac6 (neg:Bool):dB X (qO neg) (uA X.K neg):=by
 rintro W Hs H u v x y g g' Q Q' s n r1 r2 ⟨i,ns,rfl,e,q⟩ k
 cases r1
 obtain ⟨a,us,rfl,hs,r⟩:=r2.seq e
 obtain rfl:=r.ofInts
 refine⟨a,_,rfl,hs,rfl,wK ns,?_⟩
 have:=k _ _ _ .fr (a8.refl _) (.bl _) q
 rw [wJ]
 cases neg <;> exact this
theorem ac7 (ha:QE X a ta) (hb:QE X b tb) (hm:behindInMarks .In b=false:=by rfl):QT X (.Compare a [.In] [b] pos) (aW (q2 (qO false) ta tb)):=gP N5 (ac6 false) ha hb hm
def wL (K:PySem.W.Frag) (H:Hp) (x:V) (t:Value):Prop:=dL K H x t ∨ ∃ a us,x = .ref a/\aC K H a us/\t = .type "tuple"
theorem ac8:bS X (.builtin "isinstance") (fun xs H Q=>∃ x t n b,xs = [x,.ty n]/\wL X.K H x t/\PySem.W.kitOne X.K t (.type n)=some b/\Q (.bl b) H):=by
 intro pins s σ H xs us Q I r h
 obtain ⟨x,t,n,b,rfl,ty,e,q⟩:=h
 rcases ty with ty | ⟨a,ws,rfl,hs,rfl⟩
 ·exact T8 pins s σ H _ us Q I r ⟨x,t,n,b,rfl,ty,e,q⟩
 obtain ⟨u,u',rfl,ru,ru'⟩:=lI r
 cases ru'
 cases (show u=Value.ref a from ru)
 obtain ⟨its,_,⟨o,h1,h2,_⟩,_⟩:=I.tuple hs
 exact aA7 PySem.W.kitx_tuple I.kIn ⟨o,h1,h2⟩ e (fun z=>nomatch z) fun tk=>⟨.bl b,H,I.tok tk,rfl,q⟩
theorem ac9 {K:PySem.W.Frag}{M:Addr->Prop}{H:Hp}{v:V}{x:PV}{T:String} (r:aE K M H v x) (e:w5 x=some T):wL K H v (.type T):=by
 cases r with
 | non=>cases e; exact .inl .non
 | bl b=>cases e; exact .inl (.bl b)
 | int i=>cases e; exact .inl (.int i)
 | str i=>cases e; exact .inl (.str i)
 | tup h _=>cases e; exact .inl (.tup h)
 | lst _ h _=>cases e; exact .inl (.lst h)
 | kt h _=>cases e; exact .inr ⟨_,_,rfl,.inr h,rfl⟩
 | _=>cases e
theorem qW {x:Str}{n:String} (B:Bt X.mg) (hn:bootBuiltins x=some (.type n)) (hm:X.mg x=none) (ha:QE X a ta) (hg:Gl X "isinstance":=by rfl) (hgx:Gl X x:=by rfl) (hx:x ≠ "__name__":=by decide) (hdx:(x == ("__debug__" : Str))=false:=by decide)
  (he:starEach [a,.Name x px] X.env=(false,eval a X.env) :: starEach [.Name x px] X.env:=by rfl) (he2:starEach [.Name x px] X.env=(false,eval (.Name x px) X.env) :: starEach [] X.env:=by rfl) (hpl:(backTo pos (starEach [.Name x px] X.env)).any (·.1)=false:=by rfl):QE X (.Call (.Name "isinstance" p2) [a,.Name x px] [] pos) (iA X.K n ta):=
 bQ (lM ac8 hg B.isinst PyProof.Rows.boot_isinstance (bW ha (bW (C1 (v:=.ty n) hgx hm hn rfl hx hdx) cU he2) he) (he:=he) (hpl:=hpl)) fun σ H Q' h=>by
  obtain ⟨W,ρ,Q,px,q,k⟩:=h
  refine⟨W,ρ,_,px,q,?_⟩
  rintro v H1 x g s r ⟨T,b,e,kt,q⟩
  exact⟨v,_,n,b,rfl,ac9 r e,kt,k _ _ _ .fr s (.bl _) q⟩
theorem ad0 (B:Bt X.mg) (ha:QE X a ta) (hg:Gl X "isinstance":=by rfl) (hgx:Gl X "int":=by rfl)
  (he:starEach [a,.Name "int" px] X.env=(false,eval a X.env) :: starEach [.Name "int" px] X.env:=by rfl) (he2:starEach [.Name "int" px] X.env=(false,eval (.Name "int" px) X.env) :: starEach [] X.env:=by rfl) (hpl:(backTo pos (starEach [.Name "int" px] X.env)).any (·.1)=false:=by rfl):QE X (.Call (.Name "isinstance" p2) [a,.Name "int" px] [] pos) (iA X.K "int" ta):=qW B PyProof.Rows.boot_int B.int ha (hg:=hg) (hgx:=hgx) (he:=he) (he2:=he2) (hpl:=hpl)
theorem ad1 (B:Bt X.mg) (ha:QE X a ta) (hg:Gl X "isinstance":=by rfl) (hgx:Gl X "bool":=by rfl)
  (he:starEach [a,.Name "bool" px] X.env=(false,eval a X.env) :: starEach [.Name "bool" px] X.env:=by rfl) (he2:starEach [.Name "bool" px] X.env=(false,eval (.Name "bool" px) X.env) :: starEach [] X.env:=by rfl) (hpl:(backTo pos (starEach [.Name "bool" px] X.env)).any (·.1)=false:=by rfl):QE X (.Call (.Name "isinstance" p2) [a,.Name "bool" px] [] pos) (iA X.K "bool" ta):=qW B PyProof.Rows.boot_bool B.bool ha (hg:=hg) (hgx:=hgx) (he:=he) (he2:=he2) (hpl:=hpl)
theorem ad2 (B:Bt X.mg) (ha:QE X a ta) (hg:Gl X "isinstance":=by rfl) (hgx:Gl X "list":=by rfl)
  (he:starEach [a,.Name "list" px] X.env=(false,eval a X.env) :: starEach [.Name "list" px] X.env:=by rfl) (he2:starEach [.Name "list" px] X.env=(false,eval (.Name "list" px) X.env) :: starEach [] X.env:=by rfl) (hpl:(backTo pos (starEach [.Name "list" px] X.env)).any (·.1)=false:=by rfl):QE X (.Call (.Name "isinstance" p2) [a,.Name "list" px] [] pos) (iA X.K "list" ta):=qW B PyProof.Rows.boot_list B.list ha (hg:=hg) (hgx:=hgx) (he:=he) (he2:=he2) (hpl:=hpl)
end
end PP
namespace PP
open PySem L2 PyProof.Rows
def LO (X:Cx) (t:iZ):TO:=fun σ H Q'=>∃ (W:Addr->Prop) (ρ:aV) (Q:Option Int->Prop),PX X.K X.H₀ W σ ρ H/\t ρ Q/\∀ o H',a8 H H'->Q o->Q' o H'
def QO (X:Cx) (e:Option Expr) (t:iZ):Prop:=PO X e (LO X t)
theorem Reps.cut {K:PySem.W.Frag}{M:Addr->Prop}{H:Hp}{us:List V}{xs:List PV} (r:Reps K M H us xs) (lo hi:Option Int):Reps K M H (eS us lo hi) (dD xs lo hi):=by
 unfold eS dD
 rw [r.length]
 exact (r.drop _).take _
section
variable {X : Cx} {a b c e o : Expr} {es cF : List Expr} {ta tb te to tk : aB} {tr : bU} {tA tB' tc : bO} {pos p2 px : Pos} {st : Stmt} {sts : List Stmt} {t u : aQ}
theorem kJ:QO X none j4:=fun pins s σ H Q I h=>L7 pins s σ H Q I (by
 obtain ⟨W,ρ,Q1,px,q,k⟩:=h
 exact k _ _ (a8.refl _) q)
theorem kK (h:QE X e te):QO X (some e) (j5 te):=fun pins s σ H Q I hq=>L8 h pins s σ H Q I (by
 obtain ⟨W,ρ,Q1,px,q,k⟩:=hq
 refine⟨W,ρ,_,px,q,?_⟩
 rintro v H1 x g s r ⟨i,rfl,q⟩
 cases r
 exact⟨i,rfl,k _ _ s q⟩)
theorem kL {lo hi:Option Expr}{tl th:iZ}{sp:Pos} (he:QE X e te) (hl:QO X lo tl) (hh:QO X hi th):QE X (.Subscript e (.Slice lo hi none sp) pos) (j6 te tl th):=bQ (M0 (N3.or V1) he hl hh) fun σ H Q' h=>by
 obtain ⟨W,ρ,Q,px,q,k⟩:=h
 refine⟨W,ρ,_,px,q,fun v H1 x g s1 r1 q1=>⟨W,ρ,_,px.mono s1,q1,fun lo H2 s2 q2=>⟨W,ρ,_,px.mono (s1.trans s2),q2,?_⟩⟩⟩
 rintro hi H3 s3 ⟨xs,e,f,q3⟩
 have S:=(s1.trans s2).trans s3
 have r3:=r1.same (M':=Mg X.H₀ W H g) (s2.trans s3) fun _ z=>z
 cases r3 with
 | tup h r=>
  cases e
  refine .inr ⟨_,_,rfl,aC.of h,fun p hp=>k _ _ _ .fr (S.trans (aT hp _)) (.tup aZ (((r.flat f).cut lo hi).same (aT hp _) fun _ z=>z)) q3,fun ec=>k _ _ _ .fr S (.tup h ?_) q3⟩
  have:=(r.flat (M':=Mg X.H₀ W H .fr) f).cut lo hi
  rw [ec] at this
  exact this
 | lst m h r=>
  cases e
  exact .inl ⟨_,_,rfl,aI.of h,fun p hp=>k _ _ _ .fr (S.trans (aT hp _)) (.lst (S.free hp) aZ (((r.flat f).cut lo hi).same (aT hp _) fun _ z=>z)) q3⟩
 | scr h=>
  cases e
  exact .inl ⟨_,_,rfl,h.sqL,fun p hp=>k _ _ _ .fr (S.trans (aT hp _)) (.lst (S.free hp) aZ (((Reps.intz _).cut lo hi).same (aT hp _) fun _ z=>z)) q3⟩
 | _=>cases e
structure Df (P:Program) (w:World) (K:PySem.W.Frag) (mg:Str->Option Value) (base:Heap) (k:Nat) (x:Str) (ps:List Str) (p:bK):Prop where
 ex:∃ f fd,cG P w K mg base cV k f fd ps (kB K p)/\hV K fd ps []/\PySem.W.keepIn K (.ref f)=true/\mg x=some (.ref f)
theorem c7 {k j:Nat}{x:Str}{ps:List Str}{p:bK} (d:Df X.prog X.w X.K X.mg X.base k x ps p) (hr:bT j X.A) (ha:QA X (e :: es) tr) (hkj:k<=j:=by decide) (hg:Gl X x:=by rfl) (hdb:(x == ("__debug__" : Str))=false:=by decide)
  (he:starEach (e :: es) X.env=(false,eval e X.env) :: starEach es X.env:=by rfl) (hpl:(backTo pos (starEach es X.env)).any (·.1)=false:=by rfl):QE X (.Call (.Name x p2) (e :: es) [] pos) (aD p tr):=by
 obtain ⟨f,fd,F,b,kp,m⟩:=d.ex
 exact bQ (tQ F (hr.mono hkj) hg m kp b .nil uR ha hdb he hpl) fun _ _ _=>Y7
theorem wM {K:PySem.W.Frag}{H:Hp}{N:List Str}{vs:List V}{xs:List PV} (r:Reps K (fun _=>True) H vs xs):PX K H (fun _=>False) (L2.eQ N vs) (fI N xs) H:=by
 have lr:=r.length
 have own:∀ {i:Nat}{m:Slot},(fI N xs)[i]? = some (some m)->∃ x,xs[i]? = some x/\m = .sh (flat x) x:=fun {i m} h=>by
  unfold fI at h
  by_cases hi:i < xs.length
  ·rw [ay2 (by simpa using hi),aw3] at h
   rw [av0 hi] at h ⊢
   cases h
   exact⟨_,rfl,rfl⟩
  ·rw [aA2 (by simpa using hi),List.getElem?_replicate] at h
   split at h <;> cases h
 refine⟨by unfold L2.eQ fI; simp [lr],a8.refl _,fun a z=>z.elim,fun i m h=>?_,fun i j x y a h1=>?_⟩
 ·obtain ⟨x,hx,rfl⟩:=own h
  obtain ⟨v,hv,rx⟩:=r.at hx
  refine⟨v,?_,mI (g:=false) (rx.same (a8.refl _) fun _ _ z=>z)⟩
  have hi:i < vs.length:=(av4.mp hv).1
  unfold L2.eQ
  rw [ay2 (by simpa using hi),aw3,hv]; rfl
 ·obtain ⟨x,_,e⟩:=own h1
  cases e
theorem Df.of {P:Program}{w:World}{K:PySem.W.Frag}{mg:Str->Option Value}{base:Heap}{k:Nat}{x:Str}{ps N:List Str}{p:bK}{st:Stmt}{f:Addr}{fd:FuncData} (F:eV K x x st f fd) (m:mg x=some (.ref f)) (S:FnScope N ps (aU st))
  (hb:∀ (kV doc pm:Value) (an:Option Addr) (cdv ct:Value) (us:List Value),us.length=ps.length->bindArgs (PySem.W.fnOf x x (gI st) (eC st) (aU st) .none kV doc pm an cdv ct) ⟨us,[]⟩=pure (ps.zip us))
  (len:∀ xs Q,p xs Q->xs.length=ps.length)
  (body:∀ (cdv:Value) (A:Around) (outer:List Env) (s:Shared) (H:Hp) (E:XK),bT k (A.deeper (envOfC x (aU st) s.heap.objs.size f cdv))->
   ∃ t,eJ (fQ cV P w K mg base N x (aU st) f cdv A outer s H E).nox (eC st) t/\∀ xs Q,p xs Q->t { nx:=fun _=>Q .non,rt:=Q } (fI N xs)):Df P w K mg base (k+1) x ps p:=by
 refine⟨f,fd,F.ok S (fun vs H Q E h=>?_) (fun cdv A outer s H vs Q E hr h=>?_),F.binds hb,F.kp,m⟩
 ·obtain ⟨xs,Qp,r,q,_⟩:=h
  rw [r.length]; exact len xs Qp q
 ·obtain ⟨xs,Qp,r,q,k⟩:=h
  obtain ⟨t,ht,hq⟩:=body cdv A outer s H E hr
  refine⟨_,ht,fun _=>False,fI N xs,_,wM r,hq xs Qp q,?_,?_,?_,?_⟩
  ·exact fun W' σ' H' ρ' e px q=>k _ _ _ px.same .non q
  ·exact fun v H' x s r q=>k _ _ _ s r q
  ·exact fun W' σ' H' ρ' e px q=>q
  ·exact fun W' σ' H' ρ' e px q=>q
theorem eZ (i:Nat) {x:Str}{tp:Pos}{body:List Stmt}{ti:dQ} (hN:X.N.Nodup) (hi:QI X (.Name x tp) e ti) (hb:eJ X body t) (hx:X.N[i]? = some x:=by rfl) (hl:hE X.env.scope x:=by first | exact Or.inl rfl | exact Or.inr rfl) (hf:X.fn x=true ∨ X.env.scope.names.lookup x=some .local:=by first | exact .inl rfl | exact .inr rfl)
  (hp:PassesOwn (model X.prog X.w) X.A X.env X.xe:=by exact PassesOwn.never) (hc:X.calm=true:=by rfl) (hs:∀ x,foldedSetIterable e X.env x=pure x:=by intro _; rfl):QS X (.For (.Name x tp) e body [] pos) (cX ti (b7 i) t):=
 ac1 hp hc hi (hJ hN hx hl hf) (mJ _ i) hb hs
abbrev c8:Value->Shared->Prop:=fun _ _=>False
section
variable {scope : Scope} {N : List Str} {fr : List (Option Nat)} {x y : Str} {tp xp yp : Pos} {kt : Nat} {iter elt : Expr} {ti : dQ}
theorem qX {ifs:List Expr}{tcs:bO} (he:∀ (s:Shared) (H:Hp) (C:Addr) (fp:List Addr),QE (bA X scope N s H C fp c8) elt te) (hi:∀ (s:Shared) (H:Hp) (C:Addr) (fp:List Addr),gJ (bA X scope N s H C fp c8) ifs (LT (bA X scope N s H C fp c8) tcs))
  (hN:N.Nodup) (h0:N[0]? = some x) (hl:∀ (s:Shared) (H:Hp) (C:Addr) (fp:List Addr),(bA X scope N s H C fp c8).env.scope.names.lookup x=some .local) (s:Shared) (H:Hp) :
  iR X scope N (.Name x tp) ifs elt s H (cO 0) (LT (X.frm H) tcs) (LE (X.frm H) te):=
 ⟨fun C fp=>hJ (X:=bA X scope N s H C fp c8) hN h0 (.inl (hl s H C fp)) (.inr (hl s H C fp)),fun C fp=>hi s H C fp,fun C fp=>he s H C fp⟩
theorem qY {Y:Cx}:gJ Y [] (LT Y cK):=fun pins s σ H Q I h=>uT pins s σ H Q I (Z6 h)
theorem kM (hi:QI X (.Name x tp) iter ti) (he:∀ (s:Shared) (H:Hp) (C:Addr) (fp:List Addr),QE (bA X scope N s H C fp c8) elt te)
  (hc:X.calm=true:=by rfl) (S:cH X scope N fr:=by exact cH.of rfl rfl) (hN:N.Nodup:=by decide +kernel) (h0:N[0]? = some x:=by rfl) (hl:∀ (s:Shared) (H:Hp) (C:Addr) (fp:List Addr),(bA X scope N s H C fp c8).env.scope.names.lookup x=some .local:=by intro _ _ _ _; rfl) (hf:fr[0]? = some none:=by rfl)
  (hs:∀ x,foldedSetIterable iter X.env x=pure x:=by intro _; rfl):QE X (.ListComp elt [⟨.Name x tp,iter,[],0⟩] scope pos) (cJ ti fr (b7 0) cK te):=
 bQ (pO (gh:=fun _=>cO 0) (tch:=fun H=>LT (X.frm H) cK) (teh:=fun H=>LE (X.frm H) te) hc S hi (qX he (fun _ _ _ _=>qY) hN h0 hl) hs) fun _ _ _=>mL (mJ _ 0) (fun i e=>by subst e; exact hf)
theorem qZ {c:Expr}{tcs:bO} (hi:QI X (.Name x tp) iter ti) (ht:∀ (s:Shared) (H:Hp) (C:Addr) (fp:List Addr),QT (bA X scope N s H C fp c8) c tcs) (he:∀ (s:Shared) (H:Hp) (C:Addr) (fp:List Addr),QE (bA X scope N s H C fp c8) elt te)
  (hc:X.calm=true:=by rfl) (S:cH X scope N fr:=by exact cH.of rfl rfl) (hN:N.Nodup:=by decide +kernel) (h0:N[0]? = some x:=by rfl) (hl:∀ (s:Shared) (H:Hp) (C:Addr) (fp:List Addr),(bA X scope N s H C fp c8).env.scope.names.lookup x=some .local:=by intro _ _ _ _; rfl) (hf:fr[0]? = some none:=by rfl)
  (hs:∀ x,foldedSetIterable iter X.env x=pure x:=by intro _; rfl):QE X (.ListComp elt [⟨.Name x tp,iter,[c],0⟩] scope pos) (cJ ti fr (b7 0) tcs te):=
 bQ (pO (gh:=fun _=>cO 0) (tch:=fun H=>LT (X.frm H) tcs) (teh:=fun H=>LE (X.frm H) te) hc S hi (qX he (fun s H C fp=>Q2 (ht s H C fp)) hN h0 hl) hs) fun _ _ _=>mL (mJ _ 0) (fun i e=>by subst e; exact hf)
theorem ad3 {i:Nat}{z:Str}{zp:Pos} (nd:X.N.Nodup) (hi:QI X (.Name x tp) iter ti) (he:∀ (s:Shared) (H:Hp) (C:Addr) (fp:List Addr),QE (bA X scope N s H C fp c8) elt te)
  (hz:X.N[i]? = some z:=by rfl) (hzl:X.env.scope.names.lookup z=some .local:=by rfl) (hsw:swapsWith (.ListComp elt [⟨.Name x tp,iter,[],0⟩] scope p2) (some (.Name z zp)) pos.line X.env=pure true:=by rfl)
  (hc:X.calm=true:=by rfl) (S:cH X scope N fr:=by exact cH.of rfl rfl) (hN:N.Nodup:=by decide +kernel) (h0:N[0]? = some x:=by rfl) (hl:∀ (s:Shared) (H:Hp) (C:Addr) (fp:List Addr),(bA X scope N s H C fp c8).env.scope.names.lookup x=some .local:=by intro _ _ _ _; rfl) (hf:fr[0]? = some none:=by rfl)
  (hs:∀ x,foldedSetIterable iter X.env x=pure x:=by intro _; rfl):QS X (.Assign [.Name z zp] (.ListComp elt [⟨.Name x tp,iter,[],0⟩] scope p2) pos) (aR i (cJ ti fr (b7 0) cK te)):=
 eL (Q8 (gh:=fun _=>cO 0) (tch:=fun H=>LT (X.frm H) cK) (teh:=fun H=>LE (X.frm H) te) hc S hi (qX he (fun _ _ _ _=>qY) hN h0 hl) nd hz hzl hsw hs) fun D σ H h=>mL (mJ _ 0) (fun i e=>by subst e; exact hf) (vQ h)
end
end
end PP
namespace SO
open PySem PyProof.Rows
section
variable (rk : Keyed → Int)
def Kr (xs:Array Keyed) (i:Nat):Int:=((xs[i]?).map rk).getD 0
def Up (xs:Array Keyed) (lo hi:Nat):Prop:=∀ i j,lo<=i->i<=j->j < hi->Kr rk xs i<=Kr rk xs j
def Dn (xs:Array Keyed) (lo hi:Nat):Prop:=∀ i j,lo<=i->i<=j->j < hi->Kr rk xs j<=Kr rk xs i
end
variable {rk : Keyed → Int}
theorem iC {xs ys:Array Keyed}{i j:Nat} (h:xs[i]? = ys[j]?):Kr rk xs i=Kr rk ys j:=by unfold Kr; rw [h]
theorem nB {xs:Array Keyed}{i j:Nat} (hj:j<=xs.size) (k:Nat):Kr rk (mirror xs i j ((j - i) / 2)) k=Kr rk xs (if i<=k/\k < j then i+j - 1 - k else k):=by
 refine iC ?_
 rw [getElem?_mirror_all hj]
 split <;> rfl
theorem r6 {xs:Array Keyed}{i j:Nat} (hj:j<=xs.size) (e:∀ k,i<=k->k < j->Kr rk xs k=Kr rk xs (j - 1)) (k:Nat):Kr rk (mirror xs i j ((j - i) / 2)) k=Kr rk xs k:=by
 rw [nB hj]
 split
 ·rename_i h; rw [e k h.1 h.2,e _ (by omega) (by omega)]
 ·rfl
theorem ad4 {xs:Array Keyed}{src d:Nat} (hs:src < xs.size) (hd:d<=src) (k:Nat):Kr rk (bubble xs src d) k=Kr rk xs (if k=src - d then src else if src - d < k/\k<=src then k - 1 else k):=by
 refine iC ?_
 rw [getElem?_bubble hs d hd]
 repeat' split
 all_goals rfl
structure SB (κ:SortKind) (a0:Array Keyed) (pd:Array (Nat × Nat × Nat)) (st:SortSt):Prop where
 pm:(arrOf st).Perm a0
 kd:kindOf st=κ
 ok:failedOf st=none
 pd:pendingOf st=pd
section
variable {κ : SortKind} {a0 : Array Keyed} {pd : Array (Nat × Nat × Nat)} {st : SortSt} {prog : Program} {w : World} {A : Around} {E : Value → Shared → Prop} {s : Shared} {Ok : Keyed → Prop}
theorem SB.sz (h:SB κ a0 pd st):(arrOf st).size=a0.size:=h.pm.size_eq
theorem SB.put (h:SB κ a0 pd st) {xs:Array Keyed} (hp:xs.Perm (arrOf st)):SB κ a0 pd (setArr st xs):=⟨hp.trans h.pm,h.kd,h.ok,h.pd⟩
def bL (prog:Program) (w:World) (A:Around) (E:Value->Shared->Prop) (s:Shared) (κ:SortKind) (Ok:Keyed->Prop) (rk:Keyed->Int):Prop:=
 ∀ (x y:Keyed),Ok x->Ok y->∀ (st:SortSt) (Q:Option Bool->SortSt->Prop),kindOf st=κ->Q (some (decide (rk x < rk y))) st->wpS (model prog w) A E s (lt' x y) Q st
def aX (Ok:Keyed->Prop) (xs:Array Keyed):Prop:=∀ x ∈ xs,Ok x
theorem SB.all (h:SB κ a0 pd st) (o:aX Ok a0):aX Ok (arrOf st):=fun x hx=>o x (h.pm.mem_iff.mp hx)
theorem bV {xs:Array Keyed}{i:Nat}{Q:Keyed->SortSt->Prop} (hi:i < xs.size) (h:Q xs[i] st):wpS (model prog w) A E s (elem' xs i) Q st:=by
 rw [elem'_eq,getElem?_pos xs i hi]; exact av9 h
theorem bF {xs:Array Keyed}{i:Nat} (hi:i < xs.size):Kr rk xs i=rk xs[i]:=by unfold Kr; rw [getElem?_pos xs i hi]; rfl
theorem kN (c:bL prog w A E s κ Ok rk) (o:aX Ok a0) (b:SB κ a0 pd st) {i j:Nat}{Q:Option Bool->SortSt->Prop} (hi:i < a0.size) (hj:j < a0.size)
  (h:Q (some (decide (Kr rk (arrOf st) i < Kr rk (arrOf st) j))) st):wpS (model prog w) A E s (ltAt' i j) Q st:=by
 have hi':i < (arrOf st).size:=by rw [b.sz]; exact hi
 have hj':j < (arrOf st).size:=by rw [b.sz]; exact hj
 rw [ltAt'_eq]
 refine av3 (wpS_get (av3 (bV hi' (av3 (bV hj' ?_)))))
 refine c _ _ (b.all o _ (ay8 hi')) (b.all o _ (ay8 hj')) st Q b.kd ?_
 rw [<- bF (rk:=rk) hi',<- bF (rk:=rk) hj']; exact h
theorem nC {i j:Nat}{Q:Unit->SortSt->Prop} (h:Q () (setArr st (mirror (arrOf st) i j ((j - i) / 2)))):wpS (model prog w) A E s (reverseSlice' i j) Q st:=by
 rw [reverseSlice'_eq]; exact wpS_modify h
abbrev CS:=Option (Option Nat) × Nat
abbrev DS:=Option (Option Nat) × Nat × Nat
def kO (lo b nrem:Nat):StateT SortSt Sem CS:=forIn [b:nrem] ((none,b):CS) fun _ r=>do
 match <- ltAt' (lo+r.2) (lo+r.2 - 1) with
 | some q=>if q=true then pure (ForInStep.done (none,r.2)) else pure (ForInStep.yield (none,r.2+1))
 | _=>pure (ForInStep.done (some none,r.2))
def r9 (lo b nrem:Nat):StateT SortSt Sem DS:=forIn [b:nrem] ((none,b,0):DS) fun _ r=>do
 match <- ltAt' (lo+r.2.1) (lo+r.2.1 - 1) with
 | some q=>
  if q=true then (if r.2.2 > 0 then do reverseSlice' (lo+r.2.1 - (r.2.2+1)) (lo+r.2.1); pure (ForInStep.yield (none,r.2.1+1,0)) else pure (ForInStep.yield (none,r.2.1+1,0)))
  else do
   match <- ltAt' (lo+r.2.1 - 1) (lo+r.2.1) with
   | some q=>if q=true then pure (ForInStep.done (none,r.2.1,r.2.2)) else pure (ForInStep.yield (none,r.2.1+1,r.2.2+1))
   | _=>pure (ForInStep.done (some none,r.2.1,r.2.2))
 | _=>pure (ForInStep.done (some none,r.2.1,r.2.2))
theorem wN (c:bL prog w A E s κ Ok rk) (o:aX Ok a0) (b:SB κ a0 pd st) {lo n nrem:Nat}{Q:CS->SortSt->Prop} (hz:lo+nrem<=a0.size) (h1:1<=n) (hn:n<=nrem) (u:Up rk (arrOf st) lo (lo+n))
  (h:∀ m,n<=m->m<=nrem->Up rk (arrOf st) lo (lo+m)->(m=nrem ∨ Kr rk (arrOf st) (lo+m) < Kr rk (arrOf st) (lo+m - 1))->Q (none,m) st):wpS (model prog w) A E s (kO lo n nrem) Q st:=by
 unfold kO
 refine aA6 (I:=fun x r st'=>st'=st/\r=(none,x)/\Up rk (arrOf st) lo (lo+x)) ?_ ?_ ⟨rfl,rfl,u⟩
 ·rintro x r st' hx hx' ⟨rfl,rfl,u'⟩
  refine av3 (kN c o b (by omega) (by omega) ?_)
  by_cases hq:Kr rk (arrOf st') (lo+x) < Kr rk (arrOf st') (lo+x - 1)
  ·rw [aw5 hq]
   exact av9 (h x hx (by omega) u' (.inr hq))
  ·rw [av7 hq]
   refine av9 ⟨rfl,rfl,fun i j hi hij hj=>?_⟩
   rcases ay9 j (lo+x) with z | z
   ·exact u' i j hi hij z
   ·have ej:j=lo+x:=by omega
    subst ej
    rcases aG1 hij with z | z
    ·rw [z]; exact aD9 _
    ·have:=u' i (lo+x - 1) hi (by omega) (by omega)
     omega
 ·rintro r st' ⟨rfl,rfl,u'⟩
  have em:max n nrem=nrem:=by omega
  rw [em] at u' ⊢
  exact h nrem hn (au7 _) u' (.inl rfl)
structure kQ (rk:Keyed->Int) (xs ys:Array Keyed) (lo m q:Nat):Prop where
 dn:Dn rk ys lo (lo+m)
 le:q+1<=m
 eq:∀ i,lo+m - (q+1)<=i->i < lo+m->Kr rk ys i=Kr rk ys (lo+m - 1)
 low:∀ i,i < lo->Kr rk ys i=Kr rk xs i
theorem ad5 (c:bL prog w A E s κ Ok rk) (o:aX Ok a0) (b:SB κ a0 pd st) {lo n nrem:Nat}{xs:Array Keyed}{Q:DS->SortSt->Prop} (hz:lo+nrem<=a0.size) (h1:1<=n) (hn:n<=nrem) (u:kQ rk xs (arrOf st) lo n 0)
  (h:∀ m q st',SB κ a0 pd st'->n<=m->m<=nrem->kQ rk xs (arrOf st') lo m q->Q (none,m,q) st'):wpS (model prog w) A E s (r9 lo n nrem) Q st:=by
 unfold r9
 refine aA6 (I:=fun x r st'=>∃ q,r=(none,x,q)/\SB κ a0 pd st'/\kQ rk xs (arrOf st') lo x q) ?_ ?_ ⟨0,rfl,b,u⟩
 ·rintro x r st' hx hx' ⟨q,rfl,b',f⟩
  have sz:=b'.sz
  dsimp only
  refine av3 (kN c o b' (by omega) (by omega) ?_)
  by_cases hq:Kr rk (arrOf st') (lo+x) < Kr rk (arrOf st') (lo+x - 1)
  ·rw [aw5 hq]
   have nx:∀ ys:Array Keyed,(∀ k,Kr rk ys k=Kr rk (arrOf st') k)->kQ rk xs ys lo (x+1) 0:=fun ys e=>by
    refine⟨fun i j hi hij hj=>?_,by omega,fun i h1 h2=>by rw [show i=lo+(x+1) - 1 by omega],fun i hi=>(e i).trans (f.low i hi)⟩
    rw [e,e]
    rcases ay9 j (lo+x) with z | z
    ·exact f.dn i j hi hij z
    ·have ej:j=lo+x:=by omega
     subst ej
     rcases aG1 hij with z | z
     ·rw [z]; exact aD9 _
     ·have:=f.dn i (lo+x - 1) hi (by omega) (by omega)
      omega
   dsimp only
   rw [if_pos rfl]
   by_cases hp:q > 0
   ·rw [if_pos hp]
    exact av3 (nC (av9 ⟨0,rfl,b'.put (mirror_perm _ _ _ _),nx _ (r6 (by omega) f.eq)⟩))
   ·rw [if_neg hp]
    exact av9 ⟨0,rfl,b',nx _ fun _=>rfl⟩
  ·rw [av7 hq]
   dsimp only
   rw [if_neg aw0]
   refine av3 (kN c o b' (by omega) (by omega) ?_)
   by_cases hl:Kr rk (arrOf st') (lo+x - 1) < Kr rk (arrOf st') (lo+x)
   ·rw [aw5 hl]
    exact av9 (h x q st' b' hx (by omega) f)
   ·rw [av7 hl]
    have ex:Kr rk (arrOf st') (lo+x)=Kr rk (arrOf st') (lo+x - 1):=by omega
    refine av9 ⟨q+1,rfl,b',fun i j hi hij hj=>?_,by have:=f.le; omega,fun i h1 h2=>?_,f.low⟩
    ·rcases ay9 j (lo+x) with z | z
     ·exact f.dn i j hi hij z
     ·have ej:j=lo+x:=by omega
      subst ej
      rcases aG1 hij with z | z
      ·rw [z]; exact aD9 _
      ·rw [ex]; exact f.dn i (lo+x - 1) hi (by omega) (by omega)
    ·rw [show lo+(x+1) - 1=lo+x by omega]
     rcases ay9 i (lo+x) with z | z
     ·rw [ex]; exact f.eq i (by omega) z
     ·rw [show i=lo+x by omega]
 ·rintro r st' ⟨q,rfl,b',f⟩
  have em:max n nrem=nrem:=by omega
  rw [em] at f ⊢
  exact h nrem q st' b' hn (au7 _) f
theorem wO (c:bL prog w A E s κ Ok rk) (o:aX Ok a0) (b:SB κ a0 pd st) {lo nrem:Nat} (n:Nat) {xs:Array Keyed}{Q:Option Nat->SortSt->Prop}{K:DS->StateT SortSt Sem (Option Nat)}{k:CS->StateT SortSt Sem (Option Nat)} (hz:lo+nrem<=a0.size) (hn:n+1<=nrem)
  (hK:∀ m q,K (none,m,q)=if q > 0 then reverseSlice' (lo+m - (q+1)) (lo+m) >>= fun _=>reverseSlice' lo (lo+m) >>= fun _=>kO lo m nrem >>= k else reverseSlice' lo (lo+m) >>= fun _=>kO lo m nrem >>= k)
  (hk:∀ m,k (none,m)=pure (some m)) (u:kQ rk xs (arrOf st) lo (n+1) 0)
  (h:∀ m st',SB κ a0 pd st'->1<=m->m<=nrem->Up rk (arrOf st') lo (lo+m)->(∀ i,i < lo->Kr rk (arrOf st') i=Kr rk xs i)->Q (some m) st'):wpS (model prog w) A E s (liftM (rule "list.sort.descending-run") >>= fun _=>r9 lo (n+1) nrem >>= K) Q st:=by
 refine av3 (wpS_lift (aF9 ⟨rfl,?_⟩))
 refine av3 (ad5 c o b hz (by omega) hn u fun m q st1 b1 m1 m2 f=>?_)
 have fin:∀ st2:SortSt,SB κ a0 pd st2->(∀ k,Kr rk (arrOf st2) k=Kr rk (arrOf st1) k)->
   wpS (model prog w) A E s (reverseSlice' lo (lo+m) >>= fun _=>kO lo m nrem >>= k) Q st2:=fun st2 b2 e=>by
  have sz:=b2.sz
  have low:∀ i,i < lo->Kr rk (mirror (arrOf st2) lo (lo+m) ((lo+m - lo) / 2)) i=Kr rk xs i:=fun i hi=>by
   rw [nB (by omega),if_neg (by omega),e]
   exact f.low i hi
  refine av3 (nC (av3 (wN (κ:=κ) c o (b2.put (mirror_perm _ _ _ _)) hz (by omega) m2 ?_ fun m' h1 h2 up _=>by rw [hk]; exact av9 (h m' _ (b2.put (mirror_perm _ _ _ _)) (by omega) h2 up low))))
  ·intro i j hi hij hj
   show Kr rk (mirror (arrOf st2) lo (lo+m) _) i<=Kr rk (mirror (arrOf st2) lo (lo+m) _) j
   rw [nB (by omega),nB (by omega),if_pos (by omega),if_pos (by omega),e,e]
   exact f.dn _ _ (by omega) (by omega) (by omega)
 rw [hK]
 by_cases hp:q > 0
 ·rw [if_pos hp]
  have sz:=b1.sz
  exact av3 (nC (fin _ (b1.put (mirror_perm _ _ _ _)) (r6 (by omega) f.eq)))
 ·rw [if_neg hp]
  exact fin st1 b1 fun _=>rfl
theorem ad6 (c:bL prog w A E s κ Ok rk) (o:aX Ok a0) (b:SB κ a0 pd st) {lo nrem:Nat}{Q:Option Nat->SortSt->Prop} (hz:lo+nrem<=a0.size) (h1:1<=nrem)
  (h:∀ m st',SB κ a0 pd st'->1<=m->m<=nrem->Up rk (arrOf st') lo (lo+m)->(∀ i,i < lo->Kr rk (arrOf st') i=Kr rk (arrOf st) i)->Q (some m) st'):wpS (model prog w) A E s (countRun' lo nrem) Q st:=by
 rw [countRun'_eq]
 refine av3 (wN (n:=1) c o b hz (au7 _) h1 (fun i j hi hij hj=>by rw [show i=j by omega]; exact aD9 _) fun n n1 n2 un on=>?_)
 dsimp only
 by_cases en:(n == nrem)=true
 ·rw [if_pos en]
  exact av9 (h n st b n1 n2 un fun _ _=>rfl)
 ·rw [if_neg en]
  have en':n ≠ nrem:=by simpa using en
  have lt:=on.resolve_left en'
  have sz:=b.sz
  by_cases g:n > 1
  ·rw [if_pos g]
   refine av3 (kN c o b (by omega) (by omega) ?_)
   by_cases hq:Kr rk (arrOf st) lo < Kr rk (arrOf st) (lo+n - 1)
   ·rw [aw5 hq]
    exact av9 (h n st b n1 n2 un fun _ _=>rfl)
   ·rw [av7 hq]
    dsimp only
    rw [if_neg aw0]
    have all:∀ k,lo<=k->k < lo+n->Kr rk (arrOf st) k=Kr rk (arrOf st) (lo+n - 1):=fun k k1 k2=>by
     have a1:=un lo k (au7 _) k1 k2
     have a2:=un k (lo+n - 1) k1 (by omega) (by omega)
     omega
    have sm:=r6 (rk:=rk) (xs:=arrOf st) (i:=lo) (j:=lo+n) (by omega) all
    refine av3 (nC (wO (xs:=arrOf st) (κ:=κ) c o (b.put (mirror_perm _ _ _ _)) n hz (by omega) (fun _ _=>rfl) (fun _=>rfl) ⟨fun i j hi hij hj=>?_,by omega,fun i h1 h2=>by rw [show i=lo+(n+1) - 1 by omega],fun i _=>sm i⟩ h))
    show Kr rk (mirror (arrOf st) lo (lo+n) _) j<=Kr rk (mirror (arrOf st) lo (lo+n) _) i
    rw [sm,sm]
    rcases ay9 j (lo+n) with z | z
    ·rw [all i hi (by omega),all j (by omega) z]; exact aD9 _
    ·have ej:j=lo+n:=by omega
     subst ej
     rcases aG1 hij with z | z
     ·rw [z]; exact aD9 _
     ·rw [all i hi (by omega)]; exact Int.le_of_lt lt
  ·rw [if_neg g]
   have e1:n=1:=by omega
   subst e1
   refine wO (xs:=arrOf st) c o b 1 hz (by omega) (fun _ _=>rfl) (fun _=>rfl) ⟨fun i j hi hij hj=>?_,by omega,fun i h1 h2=>by rw [show i=lo+(1+1) - 1 by omega],fun i _=>rfl⟩ h
   rcases aG1 hij with z | z
   ·rw [z]; exact aD9 _
   ·have ei:i=lo+1 - 1:=by omega
    have ej:j=lo+1:=by omega
    rw [ei,ej]; exact Int.le_of_lt lt
theorem ad7 (c:bL prog w A E s κ Ok rk) (o:aX Ok a0) (b:SB κ a0 pd st) {lo n q:Nat}{Q:Bool->SortSt->Prop} (hz:lo+n<=a0.size) (hq:q<=n) (u:Up rk (arrOf st) lo (lo+q))
  (h:∀ st',SB κ a0 pd st'->Up rk (arrOf st') lo (lo+n)->(∀ i,i < lo->Kr rk (arrOf st') i=Kr rk (arrOf st) i)->Q true st'):wpS (model prog w) A E s (binarySort' lo n q) Q st:=by
 rw [binarySort'_eq]
 refine av3 (aG7 (aA6 (I:=fun k r st'=>r=(none,())/\SB κ a0 pd st'/\Up rk (arrOf st') lo (lo+min k n)/\∀ i,i < lo->Kr rk (arrOf st') i=Kr rk (arrOf st) i)
  (Q:=fun r st'=>r=(none,())/\SB κ a0 pd st'/\Up rk (arrOf st') lo (lo+n)/\∀ i,i < lo->Kr rk (arrOf st') i=Kr rk (arrOf st) i) ?_ ?_ ?_) ?_)
 ·rintro k r st1 hk hkn ⟨rfl,b1,u1,l1⟩
  rw [show min k n=k by omega] at u1
  have hk0:lo+k < a0.size:=by omega
  have sz:=b1.sz
  refine av3 (aG7 (aA6 (I:=fun x r st'=>st'=st1/\∃ l g,r=(none,l,g)/\l<=g/\g<=k/\g - l<=k - x/\(∀ i,i < l->Kr rk (arrOf st1) (lo+i)<=Kr rk (arrOf st1) (lo+k))/\∀ i,g<=i->i < k->Kr rk (arrOf st1) (lo+k) < Kr rk (arrOf st1) (lo+i))
   (Q:=fun r st'=>st'=st1/\∃ l g,r=(none,l,g)/\l<=k/\(∀ i,i < l->Kr rk (arrOf st1) (lo+i)<=Kr rk (arrOf st1) (lo+k))/\∀ i,l<=i->i < k->Kr rk (arrOf st1) (lo+k) < Kr rk (arrOf st1) (lo+i)) ?_ ?_ ?_) ?_)
  ·rintro x r st2 _ hx ⟨rfl,l,g,rfl,d1,d2,d3,f1,f2⟩
   dsimp only
   by_cases hlg:l >= g
   ·rw [if_pos hlg]
    have e:g=l:=by omega
    subst e
    exact av9 ⟨rfl,g,g,rfl,d2,f1,f2⟩
   ·rw [if_neg hlg]
    refine av3 (kN c o b1 hk0 (by omega) ?_)
    by_cases hc:Kr rk (arrOf st2) (lo+k) < Kr rk (arrOf st2) (lo+(l+g) / 2)
    ·rw [aw5 hc]
     refine av9 ⟨rfl,l,(l+g) / 2,rfl,by omega,by omega,by omega,f1,fun i i1 i2=>?_⟩
     have:=u1 (lo+(l+g) / 2) (lo+i) (by omega) (by omega) (by omega)
     omega
    ·rw [av7 hc]
     refine av9 ⟨rfl,(l+g) / 2+1,g,rfl,by omega,d2,by omega,fun i i1=>?_,f2⟩
     have:=u1 (lo+i) (lo+(l+g) / 2) (by omega) (by omega) (by omega)
     omega
  ·rintro r st2 ⟨rfl,l,g,rfl,d1,d2,d3,f1,f2⟩
   have e:g=l:=by omega
   subst e
   exact⟨rfl,g,g,rfl,d2,f1,f2⟩
  ·exact⟨rfl,0,k,rfl,by omega,by omega,by omega,fun i hi=>absurd hi (by omega),fun i i1 i2=>absurd i1 (by omega)⟩
  ·rintro r st2 ⟨rfl,l,g,rfl,d,f1,f2⟩
   dsimp only
   rw [moveDown'_eq]
   have kb:∀ i,Kr rk (bubble (arrOf st2) (lo+k) (lo+k - (lo+l))) i=Kr rk (arrOf st2) (if i=lo+l then lo+k else if lo+l < i/\i<=lo+k then i - 1 else i):=fun i=>by
    rw [ad4 (by omega) (by omega),show lo+k - (lo+k - (lo+l))=lo+l by omega]
   refine av3 (wpS_modify (av9 ⟨rfl,b1.put (bubble_perm _ _ _),fun i j hi hij hj=>?_,fun i hi=>?_⟩))
   ·show Kr rk (bubble (arrOf st2) (lo+k) (lo+k - (lo+l))) i<=Kr rk (bubble (arrOf st2) (lo+k) (lo+k - (lo+l))) j
    rw [kb,kb]
    rw [show min (k+1) n=k+1 by omega] at hj
    have v1:∀ p,lo<=p->p < lo+l->Kr rk (arrOf st2) p<=Kr rk (arrOf st2) (lo+k):=fun p p1 p2=>by have:=f1 (p - lo) (by omega); rwa [show lo+(p - lo)=p by omega] at this
    have v2:∀ p,lo+l<=p->p < lo+k->Kr rk (arrOf st2) (lo+k) < Kr rk (arrOf st2) p:=fun p p1 p2=>by have:=f2 (p - lo) (by omega) (by omega); rwa [show lo+(p - lo)=p by omega] at this
    repeat' split
    all_goals first
     | (exfalso; omega)
     | exact aD9 _
     | exact v1 _ (by omega) (by omega)
     | exact Int.le_of_lt (v2 _ (by omega) (by omega))
     | exact u1 _ _ (by omega) (by omega) (by omega)
   ·show Kr rk (bubble (arrOf st2) (lo+k) (lo+k - (lo+l))) i=_
    rw [kb,if_neg (by omega),if_neg (by omega)]
    exact l1 i hi
 ·rintro r st1 ⟨rfl,b1,u1,l1⟩
  rw [show min (max (max q 1) n) n=n by omega] at u1
  exact⟨rfl,b1,u1,l1⟩
 ·refine⟨rfl,b,fun i j hi hij hj=>?_,fun _ _=>rfl⟩
  rcases ay9 j (lo+q) with z | z
  ·exact u i j hi hij z
  ·rw [show i=j by omega]; exact aD9 _
 ·rintro r st1 ⟨rfl,b1,u1,l1⟩
  exact av9 (h st1 b1 u1 l1)
end
def gS:Bool->Keyed->Array Keyed->Nat->Nat->Nat->StateT SortSt Sem (Option Nat):=sortPriv% PySem.Builtin.gallop
def iD (lf:Bool) (key:Keyed) (xs:Array Keyed) (bs i:Nat):StateT SortSt Sem (Option Bool):=do
 let z <- elem' xs (bs+i)
 if lf then lt' z key else return (<- lt' key z).map (!·)
theorem ad8 (lf:Bool) (key:Keyed) (xs:Array Keyed) (bs n h:Nat):gS lf key xs bs n h=(do
 let mut la:=0
 let mut of:=1
 let mut l:=0
 let mut g:=0
 let some rt <- iD lf key xs bs h | return none
 if rt then
  let mx:=n - h
  for _ in [0:n] do
   if of >= mx then break
   let some mr <- iD lf key xs bs (h+of) | return none
   if !mr then break
   la:=of
   of:=2 * of+1
  l:=h+la+1
  g:=h+min of mx
 else
  let mx:=h+1
  for _ in [0:n] do
   if of >= mx then break
   let some fd <- iD lf key xs bs (h - of) | return none
   if fd then break
   la:=of
   of:=2 * of+1
  l:=h+1 - min of mx
  g:=h - la
 for _ in [0:n] do
  if l >= g then break
  let m:=l+(g - l) / 2
  let some mr <- iD lf key xs bs m | return none
  if mr then l:=m+1 else g:=m
 return some g):=rfl
section
variable {rk : Keyed → Int} {κ : SortKind} {st : SortSt} {prog : Program} {w : World} {A : Around} {E : Value → Shared → Prop} {s : Shared} {Ok : Keyed → Prop}
def bC (rk:Keyed->Int) (lf:Bool) (key:Keyed) (xs:Array Keyed) (bs i:Nat):Bool:=if lf then decide (Kr rk xs (bs+i) < rk key) else decide (Kr rk xs (bs+i)<=rk key)
theorem nD (c:bL prog w A E s κ Ok rk) (hk:kindOf st=κ) {lf:Bool}{key:Keyed}{xs:Array Keyed}{bs i:Nat}{Q:Option Bool->SortSt->Prop} (ok:Ok key) (o:aX Ok xs) (hi:bs+i < xs.size)
  (h:Q (some (bC rk lf key xs bs i)) st):wpS (model prog w) A E s (iD lf key xs bs i) Q st:=by
 unfold iD
 refine av3 (bV hi ?_)
 unfold bC at h
 rw [bF hi] at h
 cases lf with
 | true=>
  simp only [if_true] at h ⊢
  exact c _ _ (o _ (ay8 hi)) ok st Q hk h
 | false=>
  simp only [aw9,aA3] at h ⊢
  refine av3 (c _ _ ok (o _ (ay8 hi)) st _ hk (av9 ?_))
  have e:(!decide (rk key < rk xs[bs+i]))=decide (rk xs[bs+i]<=rk key):=by
   by_cases z:rk xs[bs+i]<=rk key
   ·rw [aw5 z,av7 (by omega)]; rfl
   ·rw [av7 z,aw5 (by omega)]; rfl
  show Q (some (!decide (rk key < rk xs[bs+i]))) st
  rw [e]; exact h
abbrev GS:=Option (Option Nat) × Nat × Nat
def wP (lf:Bool) (key:Keyed) (xs:Array Keyed) (bs n l g:Nat):StateT SortSt Sem GS:=forIn [0:n] ((none,l,g):GS) fun _ r=>
 if r.2.1 >= r.2.2 then pure (ForInStep.done (none,r.2.1,r.2.2)) else do
  match <- iD lf key xs bs (r.2.1+(r.2.2 - r.2.1) / 2) with
  | some q=>if q=true then pure (ForInStep.yield (none,r.2.1+(r.2.2 - r.2.1) / 2+1,r.2.2)) else pure (ForInStep.yield (none,r.2.1,r.2.1+(r.2.2 - r.2.1) / 2))
  | _=>pure (ForInStep.done (some none,r.2.1,r.2.2))
theorem wQ (c:bL prog w A E s κ Ok rk) (hk:kindOf st=κ) {lf:Bool}{key:Keyed}{xs:Array Keyed}{bs n l g:Nat}{Q:GS->SortSt->Prop} (ok:Ok key) (o:aX Ok xs) (hz:bs+n<=xs.size)
  (mono:∀ i j,i<=j->j < n->bC rk lf key xs bs j=true->bC rk lf key xs bs i=true) (hlg:l<=g) (hg:g<=n) (h1:∀ i,i < l->bC rk lf key xs bs i=true) (h2:∀ i,g<=i->i < n->bC rk lf key xs bs i=false)
  (hq:∀ k,k<=n->(∀ i,i < k->bC rk lf key xs bs i=true)->(∀ i,k<=i->i < n->bC rk lf key xs bs i=false)->Q (none,k,k) st):wpS (model prog w) A E s (wP lf key xs bs n l g) Q st:=by
 unfold wP
 refine aA6 (I:=fun x r st'=>st'=st/\∃ l g,r=(none,l,g)/\l<=g/\g<=n/\g - l<=n - x/\(∀ i,i < l->bC rk lf key xs bs i=true)/\∀ i,g<=i->i < n->bC rk lf key xs bs i=false) ?_ ?_ ⟨rfl,l,g,rfl,hlg,hg,by omega,h1,h2⟩
 ·rintro x r st' _ hx ⟨rfl,l,g,rfl,d1,d2,d3,f1,f2⟩
  dsimp only
  by_cases hc:l >= g
  ·rw [if_pos hc]
   have e:g=l:=by omega
   subst e
   exact av9 (hq g d2 f1 f2)
  ·rw [if_neg hc]
   refine av3 (nD c hk ok o (by omega) ?_)
   cases z:bC rk lf key xs bs (l+(g - l) / 2) with
   | true=>exact av9 ⟨rfl,_,_,rfl,by omega,d2,by omega,fun i hi=>mono i (l+(g - l) / 2) (by omega) (by omega) z,f2⟩
   | false=>
    refine av9 ⟨rfl,_,_,rfl,by omega,by omega,by omega,f1,fun i i1 i2=>?_⟩
    cases y:bC rk lf key xs bs i with
    | false=>rfl
    | true=>rw [mono _ i i1 i2 y] at z; cases z
 ·rintro r st' ⟨rfl,l,g,rfl,d1,d2,d3,f1,f2⟩
  have e:g=l:=by omega
  subst e
  exact hq g d2 f1 f2
theorem j8 (c:bL prog w A E s κ Ok rk) (hk:kindOf st=κ) {lf:Bool}{key:Keyed}{xs:Array Keyed}{bs n h:Nat}{Q:Option Nat->SortSt->Prop} (ok:Ok key) (o:aX Ok xs) (hh:h < n) (hz:bs+n<=xs.size) (u:Up rk xs bs (bs+n))
  (hq:∀ k,k<=n->(∀ i,i < k->bC rk lf key xs bs i=true)->(∀ i,k<=i->i < n->bC rk lf key xs bs i=false)->Q (some k) st):wpS (model prog w) A E s (gS lf key xs bs n h) Q st:=by
 have mono:∀ i j,i<=j->j < n->bC rk lf key xs bs j=true->bC rk lf key xs bs i=true:=fun i j hij hj e=>by
  have:=u (bs+i) (bs+j) (by omega) (by omega) (by omega)
  unfold bC at e ⊢
  cases lf with
  | true=>simp only [if_true,az9] at e ⊢; omega
  | false=>simp only [aw9,aA3,az9] at e ⊢; omega
 have monf:∀ i j,i<=j->j < n->bC rk lf key xs bs i=false->bC rk lf key xs bs j=false:=fun i j hij hj e=>by
  cases z:bC rk lf key xs bs j with
  | false=>rfl
  | true=>rw [mono i j hij hj z] at e; cases e
 rw [ad8]
 refine av3 (nD c hk ok o (by omega) ?_)
 dsimp only
 cases z:bC rk lf key xs bs h with
 | true=>
  rw [if_pos rfl]
  refine av3 (aG7 (aA6 (I:=fun x r st'=>st'=st/\∃ la of,r=(none,la,of)/\la < of/\x < of/\h+la < n/\bC rk lf key xs bs (h+la)=true)
   (Q:=fun r st'=>st'=st/\∃ la of,r=(none,la,of)/\la < of/\h+la < n/\bC rk lf key xs bs (h+la)=true/\(of < n - h->bC rk lf key xs bs (h+of)=false)) ?_ ?_ ⟨rfl,0,1,rfl,by omega,by omega,by omega,z⟩) ?_)
  ·rintro x r st' _ hx ⟨rfl,la,of,rfl,d1,d2,d3,f⟩
   dsimp only
   by_cases hc:of >= n - h
   ·rw [if_pos hc]
    exact av9 ⟨rfl,la,of,rfl,d1,d3,f,fun y=>absurd y (by omega)⟩
   ·rw [if_neg hc]
    refine av3 (nD c hk ok o (by omega) ?_)
    cases y:bC rk lf key xs bs (h+of) with
    | true=>exact av9 ⟨rfl,of,2 * of+1,rfl,by omega,by omega,by omega,y⟩
    | false=>exact av9 ⟨rfl,la,of,rfl,d1,d3,f,fun _=>y⟩
  ·rintro r st' ⟨rfl,la,of,rfl,d1,d2,d3,f⟩
   exact⟨rfl,la,of,rfl,d1,d3,f,fun y=>absurd y (by omega)⟩
  ·rintro r st' ⟨rfl,la,of,rfl,d1,d3,f,ft⟩
   dsimp only
   refine av3 (wQ (l:=h+la+1) (g:=h+min of (n - h)) c hk ok o hz mono (by omega) (by omega) (fun i hi=>mono i (h+la) (by omega) d3 f) (fun i i1 i2=>?_) fun k k1 k2 k3=>av9 (hq k k1 k2 k3))
   rcases ay9 of (n - h) with y | y
   ·exact monf (h+of) i (by omega) i2 (ft y)
   ·exact absurd i1 (by omega)
 | false=>
  rw [if_neg aw0]
  refine av3 (aG7 (aA6 (I:=fun x r st'=>st'=st/\∃ la of,r=(none,la,of)/\la < of/\x < of/\la<=h/\bC rk lf key xs bs (h - la)=false)
   (Q:=fun r st'=>st'=st/\∃ la of,r=(none,la,of)/\la < of/\la<=h/\bC rk lf key xs bs (h - la)=false/\(of < h+1->bC rk lf key xs bs (h - of)=true)) ?_ ?_ ⟨rfl,0,1,rfl,by omega,by omega,by omega,z⟩) ?_)
  ·rintro x r st' _ hx ⟨rfl,la,of,rfl,d1,d2,d3,f⟩
   dsimp only
   by_cases hc:of >= h+1
   ·rw [if_pos hc]
    exact av9 ⟨rfl,la,of,rfl,d1,d3,f,fun y=>absurd y (by omega)⟩
   ·rw [if_neg hc]
    refine av3 (nD c hk ok o (by omega) ?_)
    cases y:bC rk lf key xs bs (h - of) with
    | false=>exact av9 ⟨rfl,of,2 * of+1,rfl,by omega,by omega,by omega,y⟩
    | true=>exact av9 ⟨rfl,la,of,rfl,d1,d3,f,fun _=>y⟩
  ·rintro r st' ⟨rfl,la,of,rfl,d1,d2,d3,f⟩
   exact⟨rfl,la,of,rfl,d1,d3,f,fun y=>absurd y (by omega)⟩
  ·rintro r st' ⟨rfl,la,of,rfl,d1,d3,f,ft⟩
   dsimp only
   refine av3 (wQ (l:=h+1 - min of (h+1)) (g:=h - la) c hk ok o hz mono (by omega) (by omega) (fun i hi=>?_) (fun i i1 i2=>monf (h - la) i i1 i2 f) fun k k1 k2 k3=>av9 (hq k k1 k2 k3))
   rcases ay9 of (h+1) with y | y
   ·exact mono i (h - of) (by omega) (by omega) (ft y)
   ·exact absurd hi (by omega)
end
def j9:Nat->StateT SortSt Sem Unit:=sortPriv% PySem.Builtin.setMinGallop
def rA:Array Keyed->Array Keyed->StateT SortSt Sem (Array Keyed):=sortPriv% PySem.Builtin.mergeLo
theorem ad9 (g:Nat):j9 g=modify (fun st=>SortSt.mk' (kindOf st) (arrOf st) (pendingOf st) g (failedOf st)):=rfl
abbrev LS:=Option (Array Keyed) × Array Keyed × Nat × Nat × Nat × Nat × Nat
abbrev rB:=Option (Array Keyed) × Array Keyed × Nat × Nat × Nat × Nat
abbrev LO:=Option (Array Keyed) × Array Keyed × Nat × Nat × Nat
def nE (x y o:Array Keyed) (i j mg p q:Nat):StateT SortSt Sem (ForInStep LS):=do
 let v <- elem' x i
 if (i+1+1 == x.size)=true then pure (.done (some (o.push v ++ y.extract j y.size ++ x.extract (i+1) x.size),o.push v,i+1,j,mg,p,q))
 else if (decide (p < 7) && decide (q < 7))=true then pure (.done (none,o.push v,i+1,j,mg,p,q)) else pure (.yield (none,o.push v,i+1,j,mg,p,q))
def nF (x y o:Array Keyed) (i j mg p q:Nat):StateT SortSt Sem (ForInStep LS):=do
 let v <- elem' y j
 if (j+1 == y.size)=true then pure (.done (some (o.push v ++ x.extract i x.size ++ y.extract (j+1) y.size),o.push v,i,j+1,mg,p,q)) else do
  let u <- elem' x i
  match <- gS true u y (j+1) (y.size - (j+1)) 0 with
  | some k=>
   if k > 0 then
    if (j+1+k == y.size)=true then pure (.done (some (o.push v ++ y.extract (j+1) (j+1+k) ++ x.extract i x.size ++ y.extract (j+1+k) y.size),o.push v ++ y.extract (j+1) (j+1+k),i,j+1+k,mg,p,k))
    else nE x y (o.push v ++ y.extract (j+1) (j+1+k)) i (j+1+k) mg p k
   else nE x y (o.push v) i (j+1) mg p k
  | _=>pure (.done (some (o.push v ++ x.extract i x.size ++ y.extract (j+1) y.size),o.push v,i,j+1,mg,p,q))
def nG (x y o:Array Keyed) (i j mg p q:Nat):StateT SortSt Sem (ForInStep LS):=do
 j9 mg
 let v <- elem' y j
 match <- gS false v x i (x.size - i) 0 with
 | some k=>
  if k > 0 then
   if (i+k+1 == x.size)=true then pure (.done (some (o ++ x.extract i (i+k) ++ y.extract j y.size ++ x.extract (i+k) x.size),o ++ x.extract i (i+k),i+k,j,mg,k,q))
   else if (i+k == x.size)=true then pure (.done (some (o ++ x.extract i (i+k) ++ x.extract (i+k) x.size ++ y.extract j y.size),o ++ x.extract i (i+k),i+k,j,mg,k,q))
   else nF x y (o ++ x.extract i (i+k)) (i+k) j mg k q
  else nF x y o i j mg k q
 | _=>pure (.done (some (o ++ x.extract i x.size ++ y.extract j y.size),o,i,j,mg,p,q))
def rC (x y o:Array Keyed) (i j mg p q:Nat):StateT SortSt Sem LS:=forIn [0:x.size+y.size] ((none,o,i,j,mg,p,q):LS) fun _ r=>
 if r.2.2.2.2.1 > 1 then nG x y r.2.1 r.2.2.1 r.2.2.2.1 (r.2.2.2.2.1 - 1) r.2.2.2.2.2.1 r.2.2.2.2.2.2 else nG x y r.2.1 r.2.2.1 r.2.2.2.1 r.2.2.2.2.1 r.2.2.2.2.2.1 r.2.2.2.2.2.2
def rD (x y o:Array Keyed) (i j mg:Nat):StateT SortSt Sem rB:=forIn [0:x.size+y.size] ((none,o,i,j,0,0):rB) fun _ r=>do
 let v <- elem' y r.2.2.2.1
 let u <- elem' x r.2.2.1
 match <- lt' v u with
 | some q=>
  if q=true then do
   let v <- elem' y r.2.2.2.1
   if (r.2.2.2.1+1 == y.size)=true then pure (.done (some (r.2.1.push v ++ x.extract r.2.2.1 x.size ++ y.extract (r.2.2.2.1+1) y.size),r.2.1.push v,r.2.2.1,r.2.2.2.1+1,0,r.2.2.2.2.2+1))
   else if r.2.2.2.2.2+1 >= mg then pure (.done (none,r.2.1.push v,r.2.2.1,r.2.2.2.1+1,0,r.2.2.2.2.2+1)) else pure (.yield (none,r.2.1.push v,r.2.2.1,r.2.2.2.1+1,0,r.2.2.2.2.2+1))
  else do
   let u <- elem' x r.2.2.1
   if (r.2.2.1+1+1 == x.size)=true then pure (.done (some (r.2.1.push u ++ y.extract r.2.2.2.1 y.size ++ x.extract (r.2.2.1+1) x.size),r.2.1.push u,r.2.2.1+1,r.2.2.2.1,r.2.2.2.2.1+1,0))
   else if r.2.2.2.2.1+1 >= mg then pure (.done (none,r.2.1.push u,r.2.2.1+1,r.2.2.2.1,r.2.2.2.2.1+1,0)) else pure (.yield (none,r.2.1.push u,r.2.2.1+1,r.2.2.2.1,r.2.2.2.2.1+1,0))
 | _=>pure (.done (some (r.2.1 ++ x.extract r.2.2.1 x.size ++ y.extract r.2.2.2.1 y.size),r.2.1,r.2.2.1,r.2.2.2.1,r.2.2.2.2.1,r.2.2.2.2.2))
def wR (x y o:Array Keyed) (i j mg:Nat):StateT SortSt Sem LO:=forIn [0:x.size+y.size] ((none,o,i,j,mg):LO) fun _ r=>do
 let u <- rD x y r.2.1 r.2.2.1 r.2.2.2.1 r.2.2.2.2
 match u.1 with
 | some z=>pure (.done (some z,u.2.1,u.2.2.1,u.2.2.2.1,r.2.2.2.2))
 | none=>do
  liftM (rule "list.sort.gallop")
  let v <- rC x y u.2.1 u.2.2.1 u.2.2.2.1 (r.2.2.2.2+1) u.2.2.2.2.1 u.2.2.2.2.2
  match v.1 with
  | some z=>pure (.done (some z,v.2.1,v.2.2.1,v.2.2.2.1,v.2.2.2.2.1))
  | none=>do
   j9 (v.2.2.2.2.1+1)
   pure (.yield (none,v.2.1,v.2.2.1,v.2.2.2.1,v.2.2.2.2.1+1))
theorem ae0 (x y:Array Keyed):rA x y=(do
 liftM (rule "list.sort.merge-lo")
 let v <- elem' y 0
 if (1 == y.size)=true then pure (#[v] ++ x.extract 0 x.size ++ y.extract 1 y.size)
 else if (0+1 == x.size)=true then pure (#[v] ++ y.extract 1 y.size ++ x.extract 0 x.size)
 else do
  let z <- get
  let r <- wR x y #[v] 0 1 (gallopOf z)
  match r.1 with
  | some z=>pure z
  | none=>unsupported "internal:list.sort.merge-bound"):=by kernel_rfl
section
variable (rk : Keyed → Int)
def Sd (l:List Keyed):Prop:=l.Pairwise fun a b=>rk a<=rk b
structure MI (xs ys o:List Keyed) (i j:Nat):Prop where
 pm:o.Perm (xs.take i ++ ys.take j)
 sx:Sd rk (o ++ xs.drop i)
 sy:Sd rk (o ++ ys.drop j)
end
variable {rk : Keyed → Int} {xs ys o : List Keyed} {i j : Nat}
theorem Sd.ins {o a b d:List Keyed} (h1:Sd rk (o ++ a)) (h2:Sd rk (o ++ (b ++ d))) (h:∀ u ∈ b,∀ t ∈ a,rk u<=rk t):Sd rk ((o ++ b) ++ a):=by
 unfold Sd at *
 rw [ax1]
 obtain ⟨p1,p2,p3⟩:=ay0.mp h1
 obtain ⟨q1,q2,q3⟩:=ay0.mp h2
 obtain ⟨r1,r2,r3⟩:=ay0.mp q2
 refine ay0.mpr ⟨p1,ay0.mpr ⟨r1,p2,h⟩,fun u hu t ht=>?_⟩
 rcases ax5.mp ht with z | z
 ·exact q3 u hu t (aG5 _ z)
 ·exact p3 u hu t z
theorem MI.ofy (m:MI rk xs ys o i j) (k:Nat) (h:∀ u ∈ (ys.drop j).take k,∀ t ∈ xs.drop i,rk u<=rk t):MI rk xs ys (o ++ (ys.drop j).take k) i (j+k):=by
 have e:(ys.drop j).take k ++ ys.drop (j+k)=ys.drop j:=by rw [<- List.drop_drop]; exact az1 k _
 refine⟨?_,Sd.ins m.sx (d:=ys.drop (j+k)) (by rw [e]; exact m.sy) h,by rw [ax1,e]; exact m.sy⟩
 rw [List.take_add,<- ax1]
 exact m.pm.append_right _
theorem MI.ofx (m:MI rk xs ys o i j) (k:Nat) (h:∀ u ∈ (xs.drop i).take k,∀ t ∈ ys.drop j,rk u<=rk t):MI rk xs ys (o ++ (xs.drop i).take k) (i+k) j:=by
 have e:(xs.drop i).take k ++ xs.drop (i+k)=xs.drop i:=by rw [<- List.drop_drop]; exact az1 k _
 refine⟨?_,by rw [ax1,e]; exact m.sx,Sd.ins m.sy (d:=xs.drop (i+k)) (by rw [e]; exact m.sx) h⟩
 rw [List.take_add]
 refine (m.pm.append_right _).trans ?_
 rw [ax1,ax1]
 exact (List.perm_append_comm).append_left _
theorem MI.fin (m:MI rk xs ys o i j) (h:xs.length<=i ∨ ys.length<=j):(o ++ xs.drop i ++ ys.drop j).Perm (xs ++ ys)/\Sd rk (o ++ xs.drop i ++ ys.drop j):=by
 refine⟨?_,?_⟩
 ·rw [ax1]
  refine (m.pm.append_right _).trans ?_
  have e1:xs=xs.take i ++ xs.drop i:=(az1 i xs).symm
  have e2:ys=ys.take j ++ ys.drop j:=(az1 j ys).symm
  conv=>rhs; rw [e1,e2]
  rw [ax1,ax1]
  refine List.Perm.append_left _ ?_
  rw [<- ax1,<- ax1]
  exact (List.perm_append_comm).append_right _
 ·rcases h with h | h
  ·rw [List.drop_eq_nil_of_le h,aD2]; exact m.sy
  ·rw [List.drop_eq_nil_of_le h,aD2]; exact m.sx
theorem MI.lst (m:MI rk xs ys o i j) (h:∀ u ∈ ys,∀ t ∈ xs.drop i,rk u<=rk t):(o ++ ys.drop j ++ xs.drop i).Perm (xs ++ ys)/\Sd rk (o ++ ys.drop j ++ xs.drop i):=by
 have m2:=m.ofy ys.length fun u hu t ht=>h u (List.mem_of_mem_drop (aE6 hu)) t ht
 have e:(ys.drop j).take ys.length=ys.drop j:=ay7 (by simp)
 rw [e] at m2
 have f:=m2.fin (.inr (by omega))
 rw [List.drop_eq_nil_of_le (as:=ys) (i:=j+ys.length) (by omega),aD2] at f
 exact f
theorem wS {x:Array Keyed}{i k:Nat}{u:Keyed} (h:u ∈ (x.toList.drop i).take k):∃ t,t < k/\i+t < x.size/\rk u=Kr rk x (i+t):=by
 obtain ⟨t,ht,e⟩:=aC7 h
 have h1:t < k/\i+t < x.size:=by simp at ht; omega
 refine⟨t,h1.1,h1.2,?_⟩
 rw [bF h1.2,<- e]
 simp
theorem kR {x:Array Keyed}{i:Nat}{u:Keyed} (h:u ∈ x.toList.drop i):∃ t,i+t < x.size/\rk u=Kr rk x (i+t):=by
 obtain ⟨t,ht,e⟩:=aC7 h
 have h1:i+t < x.size:=by simp at ht; omega
 refine⟨t,h1,?_⟩
 rw [bF h1,<- e]
 simp
theorem Sd.up {x:Array Keyed} (h:Sd rk x.toList) (lo hi:Nat) (hh:hi<=x.size):Up rk x lo hi:=fun i j _ hij hj=>by
 rw [bF (by omega:i < x.size),bF (by omega:j < x.size)]
 rcases aG1 hij with z | z
 ·subst z; exact aD9 _
 ·have:=az3.mp h i j (by simp; omega) (by simp; omega) z
  simpa using this
theorem wT (x:Array Keyed) (i k:Nat):(x.extract i (i+k)).toList=(x.toList.drop i).take k:=by
 simp [List.extract]
theorem nH (x:Array Keyed) (i:Nat):(x.extract i x.size).toList=x.toList.drop i:=by
 simp [List.extract]
 exact ay7 (by simp)
theorem iE {x:Array Keyed}{i:Nat} (h:i < x.size) : [x[i]]=(x.toList.drop i).take 1:=by
 rw [aE1 (by simpa using h)]; simp
structure Gq (st st':SortSt):Prop where
 kd:kindOf st'=kindOf st
 ar:arrOf st'=arrOf st
 pd:pendingOf st'=pendingOf st
 ok:failedOf st'=failedOf st
theorem Gq.refl (st:SortSt):Gq st st:=⟨rfl,rfl,rfl,rfl⟩
section
variable {κ : SortKind} {st : SortSt} {prog : Program} {w : World} {A : Around} {E : Value → Shared → Prop} {s : Shared} {Ok : Keyed → Prop}
theorem nI {st0:SortSt}{g:Nat}{Q:Unit->SortSt->Prop} (q:Gq st0 st) (h:∀ st',Gq st0 st'->Q () st'):wpS (model prog w) A E s (j9 g) Q st:=by
 rw [ad9]; exact wpS_modify (h _ ⟨q.kd,q.ar,q.pd,q.ok⟩)
def cM (rk:Keyed->Int) (x y r:Array Keyed):Prop:=r.toList.Perm (x.toList ++ y.toList)/\Sd rk r.toList
theorem MI.y1 {x y o:Array Keyed} (m:MI rk x.toList y.toList o.toList i j) (hj:j < y.size) (h:∀ t,i+t < x.size->rk y[j]<=Kr rk x (i+t)):MI rk x.toList y.toList (o.push y[j]).toList i (j+1):=by
 have:=m.ofy 1 fun u hu t ht=>?_
 ·rw [<- iE hj] at this; simpa using this
 ·rw [<- iE hj,av2] at hu
  subst hu
  obtain ⟨q,q1,q2⟩:=kR (rk:=rk) ht
  rw [q2]; exact h q q1
theorem MI.x1 {x y o:Array Keyed} (m:MI rk x.toList y.toList o.toList i j) (hi:i < x.size) (h:∀ t,j+t < y.size->rk x[i]<=Kr rk y (j+t)):MI rk x.toList y.toList (o.push x[i]).toList (i+1) j:=by
 have:=m.ofx 1 fun u hu t ht=>?_
 ·rw [<- iE hi] at this; simpa using this
 ·rw [<- iE hi,av2] at hu
  subst hu
  obtain ⟨q,q1,q2⟩:=kR (rk:=rk) ht
  rw [q2]; exact h q q1
theorem MI.yk {x y o:Array Keyed} (m:MI rk x.toList y.toList o.toList i j) (k:Nat) (h:∀ p t,p < k->j+p < y.size->i+t < x.size->Kr rk y (j+p)<=Kr rk x (i+t)):MI rk x.toList y.toList (o ++ y.extract j (j+k)).toList i (j+k):=by
 have:=m.ofy k fun u hu t ht=>?_
 ·rw [<- wT] at this; rw [aA0]; exact this
 ·obtain ⟨p,p1,p2,p3⟩:=wS (rk:=rk) hu
  obtain ⟨q,q1,q2⟩:=kR (rk:=rk) ht
  rw [q2,p3]; exact h p q p1 p2 q1
theorem MI.xk {x y o:Array Keyed} (m:MI rk x.toList y.toList o.toList i j) (k:Nat) (h:∀ p t,p < k->i+p < x.size->j+t < y.size->Kr rk x (i+p)<=Kr rk y (j+t)):MI rk x.toList y.toList (o ++ x.extract i (i+k)).toList (i+k) j:=by
 have:=m.ofx k fun u hu t ht=>?_
 ·rw [<- wT] at this; rw [aA0]; exact this
 ·obtain ⟨p,p1,p2,p3⟩:=wS (rk:=rk) hu
  obtain ⟨q,q1,q2⟩:=kR (rk:=rk) ht
  rw [q2,p3]; exact h p q p1 p2 q1
theorem jA {key:Keyed}{xs:Array Keyed}{bs i:Nat}:bC rk false key xs bs i=decide (Kr rk xs (bs+i)<=rk key):=rfl
theorem jB {key:Keyed}{xs:Array Keyed}{bs i:Nat}:bC rk true key xs bs i=decide (Kr rk xs (bs+i) < rk key):=rfl
def GI (rk:Keyed->Int) (x y:Array Keyed) (lb:Nat) (st:SortSt) (c:LS) (st':SortSt):Prop:=Gq st st'/\∃ o i j mg p q,c=(none,o,i,j,mg,p,q)/\MI rk x.toList y.toList o.toList i j/\i+1 < x.size/\j < y.size/\lb<=i+j
def GQ (rk:Keyed->Int) (x y:Array Keyed) (lb:Nat) (st:SortSt) (c:LS) (st':SortSt):Prop:=Gq st st'/\((∃ r o i j mg p q,c=(some r,o,i,j,mg,p,q)/\cM rk x y r) ∨ ∃ o i j mg p q,c=(none,o,i,j,mg,p,q)/\MI rk x.toList y.toList o.toList i j/\i+1 < x.size/\j < y.size/\lb<=i+j)
def GR (rk:Keyed->Int) (x y:Array Keyed) (lb:Nat) (st:SortSt) (r:ForInStep LS) (st':SortSt):Prop:=match r with | .done c=>GQ rk x y lb st c st' | .yield c=>GI rk x y lb st c st'
theorem MI.done {x y o:Array Keyed} (m:MI rk x.toList y.toList o.toList i j) (hh:x.size<=i ∨ y.size<=j):cM rk x y (o ++ x.extract i x.size ++ y.extract j y.size):=by
 unfold cM
 rw [aA0,aA0,nH,nH]
 exact m.fin (by simpa using hh)
theorem MI.last {x y o:Array Keyed} (m:MI rk x.toList y.toList o.toList i j) (x0:0 < x.size) (hl:∀ u ∈ y.toList,rk u<=rk x[x.size - 1]) (hh:i+1=x.size):cM rk x y (o ++ y.extract j y.size ++ x.extract i x.size):=by
 unfold cM
 rw [aA0,aA0,nH,nH]
 refine m.lst fun u hu t ht=>?_
 obtain ⟨q,q1,q2⟩:=kR (rk:=rk) ht
 have e:i+q=x.size - 1:=by omega
 rw [q2,e,bF (by omega)]
 exact hl u hu
theorem wU {st0:SortSt}{x y o:Array Keyed}{mg p q lb:Nat} (x0:0 < x.size) (hl:∀ u ∈ y.toList,rk u<=rk x[x.size - 1]) (g:Gq st0 st) (m:MI rk x.toList y.toList o.toList i j) (hi:i+1 < x.size) (hj:j < y.size) (hb:lb<=i+j)
  (hm:∀ t,j+t < y.size->rk x[i]<=Kr rk y (j+t)):wpS (model prog w) A E s (nE x y o i j mg p q) (GR rk x y lb st0) st:=by
 unfold nE
 have hi':i < x.size:=by omega
 have m':=m.x1 hi' hm
 refine av3 (bV hi' ?_)
 by_cases he:(i+1+1 == x.size)=true
 ·rw [if_pos he]
  have he:i+1+1=x.size:=by simpa using he
  exact av9 ⟨g,.inl ⟨_,_,_,_,_,_,_,rfl,m'.last x0 hl he⟩⟩
 ·rw [if_neg he]
  have he:i+1+1 ≠ x.size:=by simpa using he
  split
  ·exact av9 ⟨g,.inr ⟨_,_,_,_,_,_,rfl,m',by omega,hj,by omega⟩⟩
  ·exact av9 ⟨g,_,_,_,_,_,_,rfl,m',by omega,hj,by omega⟩
theorem wV (c:bL prog w A E s κ Ok rk) {st0:SortSt} (hk:kindOf st0=κ) {x y o:Array Keyed}{mg p q lb:Nat} (ox:aX Ok x) (oy:aX Ok y) (sx:Sd rk x.toList) (sy:Sd rk y.toList) (x0:0 < x.size) (hl:∀ u ∈ y.toList,rk u<=rk x[x.size - 1]) (g:Gq st0 st) (m:MI rk x.toList y.toList o.toList i j) (hi:i+1 < x.size) (hj:j < y.size) (hb:lb<=i+j)
  (hm:∀ t,i+t < x.size->rk y[j]<=Kr rk x (i+t)):wpS (model prog w) A E s (nF x y o i j mg p q) (GR rk x y lb st0) st:=by
 unfold nF
 have hi':i < x.size:=by omega
 have m':=m.y1 hj hm
 refine av3 (bV hj ?_)
 by_cases he:(j+1 == y.size)=true
 ·rw [if_pos he]
  have he:j+1=y.size:=by simpa using he
  exact av9 ⟨g,.inl ⟨_,_,_,_,_,_,_,rfl,m'.done (.inr (by omega))⟩⟩
 ·rw [if_neg he]
  have he:j+1 ≠ y.size:=by simpa using he
  refine av3 (bV hi' (av3 (j8 c (g.kd.trans hk) (ox _ (ay8 hi')) oy (by omega) (by omega) (sy.up _ _ (by omega)) fun k k1 k2 k3=>?_)))
  dsimp only
  have ux:=sx.up 0 _ (au7 x.size)
  have mk:=m'.yk k fun p t hp _ ht=>by
   have a1:=k2 p hp
   rw [jB,az9] at a1
   have a2:=ux i (i+t) (by omega) (by omega) ht
   rw [bF hi'] at a2
   omega
  have km:∀ t,j+1+k+t < y.size->rk x[i]<=Kr rk y (j+1+k+t):=fun t ht=>by
   have a1:=k3 (k+t) (by omega) (by omega)
   rw [jB,aD5,<- Nat.add_assoc] at a1
   omega
  by_cases hk0:k > 0
  ·rw [if_pos hk0]
   by_cases hf:(j+1+k == y.size)=true
   ·rw [if_pos hf]
    have hf:j+1+k=y.size:=by simpa using hf
    exact av9 ⟨g,.inl ⟨_,_,_,_,_,_,_,rfl,mk.done (.inr (by omega))⟩⟩
   ·rw [if_neg hf]
    have hf:j+1+k ≠ y.size:=by simpa using hf
    exact wU x0 hl g mk hi (by omega) (by omega) km
  ·rw [if_neg hk0]
   have e0:k=0:=by omega
   subst e0
   exact wU x0 hl g m' hi (by omega) (by omega) km
theorem wW (c:bL prog w A E s κ Ok rk) {st0:SortSt} (hk:kindOf st0=κ) {x y o:Array Keyed}{mg p q lb:Nat} (ox:aX Ok x) (oy:aX Ok y) (sx:Sd rk x.toList) (sy:Sd rk y.toList) (x0:0 < x.size) (hl:∀ u ∈ y.toList,rk u<=rk x[x.size - 1]) (g:Gq st0 st) (m:MI rk x.toList y.toList o.toList i j) (hi:i+1 < x.size) (hj:j < y.size) (hb:lb<=i+j) :
  wpS (model prog w) A E s (nG x y o i j mg p q) (GR rk x y lb st0) st:=by
 unfold nG
 refine av3 (nI g fun st4 q4=>av3 (bV hj (av3 (j8 c (q4.kd.trans hk) (oy _ (ay8 hj)) ox (by omega) (by omega) (sx.up _ _ (by omega)) fun k k1 k2 k3=>?_))))
 dsimp only
 have uy:=sy.up 0 _ (au7 y.size)
 have mk:=m.xk k fun p t hp _ ht=>by
  have a1:=k2 p hp
  rw [jA,az9] at a1
  have a2:=uy j (j+t) (by omega) (by omega) ht
  rw [bF hj] at a2
  omega
 have km:∀ t,i+k+t < x.size->rk y[j]<=Kr rk x (i+k+t):=fun t ht=>by
  have a1:=k3 (k+t) (by omega) (by omega)
  rw [jA,aD5,<- Nat.add_assoc] at a1
  omega
 by_cases hk0:k > 0
 ·rw [if_pos hk0]
  by_cases he:(i+k+1 == x.size)=true
  ·rw [if_pos he]
   exact av9 ⟨q4,.inl ⟨_,_,_,_,_,_,_,rfl,mk.last x0 hl (by simpa using he)⟩⟩
  ·rw [if_neg he]
   have he:i+k+1 ≠ x.size:=by simpa using he
   by_cases hf:(i+k == x.size)=true
   ·rw [if_pos hf]
    have hf:i+k=x.size:=by simpa using hf
    exact av9 ⟨q4,.inl ⟨_,_,_,_,_,_,_,rfl,mk.done (.inl (by omega))⟩⟩
   ·rw [if_neg hf]
    have hf:i+k ≠ x.size:=by simpa using hf
    exact wV c hk ox oy sx sy x0 hl q4 mk (by omega) hj (by omega) km
 ·rw [if_neg hk0]
  have e0:k=0:=by omega
  subst e0
  exact wV c hk ox oy sx sy x0 hl q4 m hi hj hb km
theorem ae1 (c:bL prog w A E s κ Ok rk) {st0:SortSt} (hk:kindOf st0=κ) {x y o:Array Keyed}{mg p q lb:Nat} (ox:aX Ok x) (oy:aX Ok y) (sx:Sd rk x.toList) (sy:Sd rk y.toList) (x0:0 < x.size) (hl:∀ u ∈ y.toList,rk u<=rk x[x.size - 1]) (g:Gq st0 st) (m:MI rk x.toList y.toList o.toList i j) (hi:i+1 < x.size) (hj:j < y.size) (hb:lb<=i+j) :
  wpS (model prog w) A E s (rC x y o i j mg p q) (GQ rk x y lb st0) st:=by
 unfold rC
 refine aA6 (I:=fun _=>GI rk x y lb st0) ?_ ?_ ⟨g,o,i,j,_,p,q,rfl,m,hi,hj,hb⟩
 ·rintro t c3 st3 _ _ ⟨q3,o,i,j,mg,p,q,rfl,m,hi,hj,pr3⟩
  dsimp only
  split
  ·exact aG7 (wW c hk ox oy sx sy x0 hl q3 m hi hj pr3) fun r _ hr=>by cases r <;> exact hr
  ·exact aG7 (wW c hk ox oy sx sy x0 hl q3 m hi hj pr3) fun r _ hr=>by cases r <;> exact hr
 ·rintro c3 st3 ⟨q3,o,i,j,mg,p,q,rfl,m,hi,hj,pr3⟩
  exact⟨q3,.inr ⟨_,_,_,_,_,_,rfl,m,hi,hj,pr3⟩⟩
theorem ae2 (c:bL prog w A E s κ Ok rk) {st0:SortSt} (hk:kindOf st0=κ) {x y o:Array Keyed}{mg:Nat}{Q:rB->SortSt->Prop} (ox:aX Ok x) (oy:aX Ok y) (sx:Sd rk x.toList) (sy:Sd rk y.toList) (x0:0 < x.size) (hl:∀ u ∈ y.toList,rk u<=rk x[x.size - 1]) (g:Gq st0 st) (m:MI rk x.toList y.toList o.toList i j) (hi:i+1 < x.size) (hj:j < y.size)
  (h1:∀ r o' i' j' p q st',Gq st0 st'->cM rk x y r->Q (some r,o',i',j',p,q) st')
  (h2:∀ o' i' j' p q st',Gq st0 st'->MI rk x.toList y.toList o'.toList i' j'->i'+1 < x.size->j' < y.size->i+j+1<=i'+j'->Q (none,o',i',j',p,q) st') :
  wpS (model prog w) A E s (rD x y o i j mg) Q st:=by
 have ux:Up rk x 0 x.size:=sx.up 0 _ (au7 _)
 have uy:Up rk y 0 y.size:=sy.up 0 _ (au7 _)
 unfold rD
 refine aA6 (I:=fun t c st'=>Gq st0 st'/\∃ o i' j' p q,c=(none,o,i',j',p,q)/\MI rk x.toList y.toList o.toList i' j'/\i'+1 < x.size/\j' < y.size/\i+j+t<=i'+j') ?_ ?_ ⟨g,o,i,j,0,0,rfl,m,hi,hj,by omega⟩
 ·rintro t c2 st2 _ ht ⟨q2,o,i',j',p,q,rfl,m,hi,hj,pr2⟩
  dsimp only
  have hi':i' < x.size:=by omega
  refine av3 (bV hj (av3 (bV hi' (av3 (c _ _ (oy _ (ay8 hj)) (ox _ (ay8 hi')) st2 _ (q2.kd.trans hk) ?_)))))
  by_cases hc:rk y[j'] < rk x[i']
  ·rw [aw5 hc]
   dsimp only
   rw [if_pos rfl]
   have m':=m.y1 hj fun t ht=>by
    have:=ux i' (i'+t) (by omega) (by omega) ht
    rw [bF hi'] at this
    omega
   refine av3 (bV hj ?_)
   by_cases he:(j'+1 == y.size)=true
   ·rw [if_pos he]
    have he:j'+1=y.size:=by simpa using he
    exact av9 (h1 _ _ _ _ _ _ _ q2 (m'.done (.inr (by omega))))
   ·rw [if_neg he]
    have he:j'+1 ≠ y.size:=by simpa using he
    split
    ·exact av9 (h2 _ _ _ _ _ _ q2 m' hi (by omega) (by omega))
    ·exact av9 ⟨q2,_,_,_,_,_,rfl,m',hi,by omega,by omega⟩
  ·rw [av7 hc]
   dsimp only
   rw [if_neg aw0]
   have m':=m.x1 hi' fun t ht=>by
    have:=uy j' (j'+t) (by omega) (by omega) ht
    rw [bF hj] at this
    omega
   refine av3 (bV hi' ?_)
   by_cases he:(i'+1+1 == x.size)=true
   ·rw [if_pos he]
    exact av9 (h1 _ _ _ _ _ _ _ q2 (m'.last x0 hl (by simpa using he)))
   ·rw [if_neg he]
    have he:i'+1+1 ≠ x.size:=by simpa using he
    split
    ·exact av9 (h2 _ _ _ _ _ _ q2 m' (by omega) hj (by omega))
    ·exact av9 ⟨q2,_,_,_,_,_,rfl,m',by omega,hj,by omega⟩
 ·rintro c2 st2 ⟨q2,o,i',j',p,q,rfl,m,hi,hj,pr2⟩
  exact h2 _ _ _ _ _ _ q2 m hi hj (by omega)
theorem ae3 (c:bL prog w A E s κ Ok rk) (hk:kindOf st=κ) {x y:Array Keyed}{Q:Array Keyed->SortSt->Prop} (ox:aX Ok x) (oy:aX Ok y) (sx:Sd rk x.toList) (sy:Sd rk y.toList) (x0:0 < x.size) (y0:0 < y.size)
  (hf:∀ t ∈ x.toList,rk y[0]<=rk t) (hl:∀ u ∈ y.toList,rk u<=rk x[x.size - 1])
  (h:∀ r st',Gq st st'->cM rk x y r->Q r st'):wpS (model prog w) A E s (rA x y) Q st:=by
 rw [ae0]
 refine av3 (wpS_lift (aF9 ⟨rfl,av3 (bV y0 ?_)⟩))
 have m0:MI rk x.toList y.toList (#[y[0]]:Array Keyed).toList 0 1:=by
  have mm:MI rk x.toList y.toList [] 0 0:=⟨by simp,sx,sy⟩
  have:=mm.ofy 1 fun u hu t ht=>?_
  ·rw [<- iE y0] at this; exact this
  ·rw [<- iE y0,av2] at hu
   subst hu
   exact hf t ht
 by_cases e1:(1 == y.size)=true
 ·rw [if_pos e1]
  have e1:1=y.size:=by simpa using e1
  exact av9 (h _ st (Gq.refl st) (m0.done (.inr (by omega))))
 ·rw [if_neg e1]
  have e1:1 ≠ y.size:=by simpa using e1
  by_cases e2:(0+1 == x.size)=true
  ·rw [if_pos e2]
   exact av9 (h _ st (Gq.refl st) (m0.last x0 hl (by simpa using e2)))
  ·rw [if_neg e2]
   have e2:0+1 ≠ x.size:=by simpa using e2
   refine av3 (wpS_get ?_)
   unfold wR
   refine av3 (aG7 (aA6
    (I:=fun n c st'=>Gq st st'/\∃ o i j mg,c=(none,o,i,j,mg)/\MI rk x.toList y.toList o.toList i j/\i+1 < x.size/\j < y.size/\n+1<=i+j)
    (Q:=fun c st'=>Gq st st'/\∃ r o i j mg,c=(some r,o,i,j,mg)/\cM rk x y r) ?_ ?_ ⟨Gq.refl st,_,0,1,_,rfl,m0,by omega,by omega,by omega⟩) ?_)
   ·rintro n c1 st1 _ hn ⟨q1,o,i,j,mg,rfl,m,hi,hj,pr⟩
    dsimp only
    refine av3 (ae2 c hk ox oy sx sy x0 hl q1 m hi hj (fun r o' i' j' p q st' g md=>av9 ⟨g,r,_,_,_,_,rfl,md⟩) fun o' i' j' p q st' g m' hi' hj' pr'=>?_)
    refine av3 (wpS_lift (aF9 ⟨rfl,?_⟩))
    refine av3 (aG7 (ae1 c hk ox oy sx sy x0 hl g m' hi' hj' pr') ?_)
    rintro c3 st3 ⟨q3,⟨r,o,i3,j3,mg,p,q,rfl,md⟩ | ⟨o,i3,j3,mg,p,q,rfl,m,hi,hj,pr3⟩⟩
    ·exact av9 ⟨q3,r,_,_,_,_,rfl,md⟩
    ·exact av3 (nI q3 fun st4 q4=>av9 ⟨q4,o,i3,j3,_,rfl,m,hi,hj,by omega⟩)
   ·rintro c1 st1 ⟨q1,o,i,j,mg,rfl,m,hi,hj,pr⟩
    exact absurd pr (by omega)
   ·rintro c1 st1 ⟨q1,r,o,i,j,mg,rfl,md⟩
    exact av9 (h r _ q1 md)
end
def rE:Array Keyed->Array Keyed->StateT SortSt Sem (Array Keyed):=sortPriv% PySem.Builtin.mergeHi
abbrev LH:=Option (Array Keyed) × Nat × Nat × Array Keyed × Nat × Nat × Nat
abbrev rF:=Option (Array Keyed) × Nat × Nat × Array Keyed × Nat × Nat
abbrev LP:=Option (Array Keyed) × Nat × Nat × Array Keyed × Nat
def nJ (x y o:Array Keyed) (i j mg p q:Nat):StateT SortSt Sem (ForInStep LH):=do
 let v <- elem' x (i - 1)
 if (i - 1 == 0)=true then pure (.done (some (x.extract 0 (i - 1) ++ y.extract 0 j ++ (o.push v).reverse),i - 1,j,o.push v,mg,p,q))
 else if (decide (p < 7) && decide (q < 7))=true then pure (.done (none,i - 1,j,o.push v,mg,p,q)) else pure (.yield (none,i - 1,j,o.push v,mg,p,q))
def nK (x y o:Array Keyed) (i j mg p q:Nat):StateT SortSt Sem (ForInStep LH):=do
 let v <- elem' y (j - 1)
 if (j - 1 == 1)=true then pure (.done (some (y.extract 0 (j - 1) ++ x.extract 0 i ++ (o.push v).reverse),i,j - 1,o.push v,mg,p,q)) else do
  let u <- elem' x (i - 1)
  match <- gS true u y 0 (j - 1) (j - 1 - 1) with
  | some z=>
   if j - 1 - z > 0 then
    if (z == 1)=true then pure (.done (some (y.extract 0 z ++ x.extract 0 i ++ (o.push v ++ (y.extract z (j - 1)).reverse).reverse),i,z,o.push v ++ (y.extract z (j - 1)).reverse,mg,p,j - 1 - z))
    else if (z == 0)=true then pure (.done (some (x.extract 0 i ++ y.extract 0 z ++ (o.push v ++ (y.extract z (j - 1)).reverse).reverse),i,z,o.push v ++ (y.extract z (j - 1)).reverse,mg,p,j - 1 - z))
    else nJ x y (o.push v ++ (y.extract z (j - 1)).reverse) i z mg p (j - 1 - z)
   else nJ x y (o.push v) i (j - 1) mg p (j - 1 - z)
  | _=>pure (.done (some (x.extract 0 i ++ y.extract 0 (j - 1) ++ (o.push v).reverse),i,j - 1,o.push v,mg,p,q))
def nL (x y o:Array Keyed) (i j mg p q:Nat):StateT SortSt Sem (ForInStep LH):=do
 j9 mg
 let v <- elem' y (j - 1)
 match <- gS false v x 0 i (i - 1) with
 | some z=>
  if i - z > 0 then
   if (z == 0)=true then pure (.done (some (x.extract 0 z ++ y.extract 0 j ++ (o ++ (x.extract z i).reverse).reverse),z,j,o ++ (x.extract z i).reverse,mg,i - z,q))
   else nK x y (o ++ (x.extract z i).reverse) z j mg (i - z) q
  else nK x y o i j mg (i - z) q
 | _=>pure (.done (some (x.extract 0 i ++ y.extract 0 j ++ o.reverse),i,j,o,mg,p,q))
def rG (x y o:Array Keyed) (i j mg p q:Nat):StateT SortSt Sem LH:=forIn [0:x.size+y.size] ((none,i,j,o,mg,p,q):LH) fun _ r=>
 if r.2.2.2.2.1 > 1 then nL x y r.2.2.2.1 r.2.1 r.2.2.1 (r.2.2.2.2.1 - 1) r.2.2.2.2.2.1 r.2.2.2.2.2.2 else nL x y r.2.2.2.1 r.2.1 r.2.2.1 r.2.2.2.2.1 r.2.2.2.2.2.1 r.2.2.2.2.2.2
def rH (x y o:Array Keyed) (i j mg:Nat):StateT SortSt Sem rF:=forIn [0:x.size+y.size] ((none,i,j,o,0,0):rF) fun _ r=>do
 let v <- elem' y (r.2.2.1 - 1)
 let u <- elem' x (r.2.1 - 1)
 match <- lt' v u with
 | some q=>
  if q=true then do
   let u <- elem' x (r.2.1 - 1)
   if (r.2.1 - 1 == 0)=true then pure (.done (some (x.extract 0 (r.2.1 - 1) ++ y.extract 0 r.2.2.1 ++ (r.2.2.2.1.push u).reverse),r.2.1 - 1,r.2.2.1,r.2.2.2.1.push u,r.2.2.2.2.1+1,0))
   else if r.2.2.2.2.1+1 >= mg then pure (.done (none,r.2.1 - 1,r.2.2.1,r.2.2.2.1.push u,r.2.2.2.2.1+1,0)) else pure (.yield (none,r.2.1 - 1,r.2.2.1,r.2.2.2.1.push u,r.2.2.2.2.1+1,0))
  else do
   let v <- elem' y (r.2.2.1 - 1)
   if (r.2.2.1 - 1 == 1)=true then pure (.done (some (y.extract 0 (r.2.2.1 - 1) ++ x.extract 0 r.2.1 ++ (r.2.2.2.1.push v).reverse),r.2.1,r.2.2.1 - 1,r.2.2.2.1.push v,0,r.2.2.2.2.2+1))
   else if r.2.2.2.2.2+1 >= mg then pure (.done (none,r.2.1,r.2.2.1 - 1,r.2.2.2.1.push v,0,r.2.2.2.2.2+1)) else pure (.yield (none,r.2.1,r.2.2.1 - 1,r.2.2.2.1.push v,0,r.2.2.2.2.2+1))
 | _=>pure (.done (some (x.extract 0 r.2.1 ++ y.extract 0 r.2.2.1 ++ r.2.2.2.1.reverse),r.2.1,r.2.2.1,r.2.2.2.1,r.2.2.2.2.1,r.2.2.2.2.2))
def wX (x y o:Array Keyed) (i j mg:Nat):StateT SortSt Sem LP:=forIn [0:x.size+y.size] ((none,i,j,o,mg):LP) fun _ r=>do
 let u <- rH x y r.2.2.2.1 r.2.1 r.2.2.1 r.2.2.2.2
 match u.1 with
 | some z=>pure (.done (some z,u.2.1,u.2.2.1,u.2.2.2.1,r.2.2.2.2))
 | none=>do
  liftM (rule "list.sort.gallop")
  let v <- rG x y u.2.2.2.1 u.2.1 u.2.2.1 (r.2.2.2.2+1) u.2.2.2.2.1 u.2.2.2.2.2
  match v.1 with
  | some z=>pure (.done (some z,v.2.1,v.2.2.1,v.2.2.2.1,v.2.2.2.2.1))
  | none=>do
   j9 (v.2.2.2.2.1+1)
   pure (.yield (none,v.2.1,v.2.2.1,v.2.2.2.1,v.2.2.2.2.1+1))
theorem ae4 (x y:Array Keyed):rE x y=(do
 liftM (rule "list.sort.merge-hi")
 let v <- elem' x (x.size - 1)
 if (x.size - 1 == 0)=true then pure (x.extract 0 (x.size - 1) ++ y.extract 0 y.size ++ (#[v]:Array Keyed).reverse)
 else if (y.size == 1)=true then pure (y.extract 0 y.size ++ x.extract 0 (x.size - 1) ++ (#[v]:Array Keyed).reverse)
 else do
  let z <- get
  let r <- wX x y #[v] (x.size - 1) y.size (gallopOf z)
  match r.1 with
  | some z=>pure z
  | none=>unsupported "internal:list.sort.merge-bound"):=by kernel_rfl
structure MH (rk:Keyed->Int) (xs ys o:List Keyed) (i j:Nat):Prop where
 pm:o.Perm (xs.drop i ++ ys.drop j)
 sx:Sd rk (xs.take i ++ o)
 sy:Sd rk (ys.take j ++ o)
variable {rk : Keyed → Int} {xs ys o : List Keyed} {i j : Nat}
theorem Sd.insR {o a b d:List Keyed} (h1:Sd rk (a ++ o)) (h2:Sd rk ((d ++ b) ++ o)) (h:∀ t ∈ a,∀ u ∈ b,rk t<=rk u):Sd rk (a ++ (b ++ o)):=by
 unfold Sd at *
 obtain ⟨p1,p2,p3⟩:=ay0.mp h1
 obtain ⟨q1,q2,q3⟩:=ay0.mp h2
 obtain ⟨r1,r2,r3⟩:=ay0.mp q1
 refine ay0.mpr ⟨p1,ay0.mpr ⟨r2,p2,fun u hu t ht=>q3 u (ax9 _ hu) t ht⟩,fun u hu t ht=>?_⟩
 rcases ax5.mp ht with z | z
 ·exact h u hu t z
 ·exact p3 u hu t z
theorem nM (l:List Keyed) {z j:Nat} (h:z<=j):l.take z ++ (l.take j).drop z=l.take j:=by
 have e:l.take z=(l.take j).take z:=by rw [List.take_take,Nat.min_eq_left h]
 rw [e]; exact az1 z _
theorem rJ (l:List Keyed) {z j:Nat} (h:z<=j):(l.take j).drop z ++ l.drop j=l.drop z:=by
 rw [aH3,show l.drop j=(l.drop z).drop (j - z) by rw [List.drop_drop,Nat.add_sub_cancel' h]]
 exact az1 _ _
theorem MH.ofy (m:MH rk xs ys o i j) {z:Nat} (hz:z<=j) (h:∀ t ∈ xs.take i,∀ u ∈ (ys.take j).drop z,rk t<=rk u):MH rk xs ys ((ys.take j).drop z ++ o) i z:=by
 refine⟨?_,Sd.insR m.sx (d:=ys.take z) (by rw [nM _ hz]; exact m.sy) h,by rw [<- ax1,nM _ hz]; exact m.sy⟩
 rw [<- rJ ys hz]
 refine (m.pm.append_left _).trans ?_
 rw [<- ax1,<- ax1]
 exact (List.perm_append_comm).append_right _
theorem MH.ofx (m:MH rk xs ys o i j) {z:Nat} (hz:z<=i) (h:∀ t ∈ ys.take j,∀ u ∈ (xs.take i).drop z,rk t<=rk u):MH rk xs ys ((xs.take i).drop z ++ o) z j:=by
 refine⟨?_,by rw [<- ax1,nM _ hz]; exact m.sx,Sd.insR m.sy (d:=xs.take z) (by rw [nM _ hz]; exact m.sx) h⟩
 rw [<- rJ xs hz,ax1]
 exact m.pm.append_left _
theorem MH.fin (m:MH rk xs ys o i j) (h:i=0 ∨ j=0):(xs.take i ++ ys.take j ++ o).Perm (xs ++ ys)/\Sd rk (xs.take i ++ ys.take j ++ o):=by
 refine⟨?_,?_⟩
 ·have e1:xs=xs.take i ++ xs.drop i:=(az1 i xs).symm
  have e2:ys=ys.take j ++ ys.drop j:=(az1 j ys).symm
  conv=>rhs; rw [e1,e2]
  rw [ax1,ax1]
  refine List.Perm.append_left _ ((m.pm.append_left _).trans ?_)
  rw [<- ax1,<- ax1]
  exact (List.perm_append_comm).append_right _
 ·rcases h with h | h
  ·subst h; simpa using m.sy
  ·subst h; simpa using m.sx
theorem MH.fst (m:MH rk xs ys o i j) (h:∀ t ∈ ys.take j,∀ u ∈ xs,rk t<=rk u):(ys.take j ++ xs.take i ++ o).Perm (xs ++ ys)/\Sd rk (ys.take j ++ xs.take i ++ o):=by
 have m2:=m.ofx (ay4 i) fun t ht u hu=>h t ht u (aE6 (List.mem_of_mem_drop hu))
 have f:=m2.fin (.inl rfl)
 simpa using f
theorem kS {x:Array Keyed}{i:Nat}{u:Keyed} (h:u ∈ x.toList.take i):∃ t,t < i/\t < x.size/\rk u=Kr rk x t:=by
 obtain ⟨t,ht,e⟩:=aC7 h
 have h1:t < i/\t < x.size:=by simp at ht; omega
 refine⟨t,h1.1,h1.2,?_⟩
 rw [bF h1.2,<- e]
 simp
theorem kT {x:Array Keyed}{z i:Nat}{u:Keyed} (h:u ∈ (x.toList.take i).drop z):∃ t,z<=t/\t < i/\t < x.size/\rk u=Kr rk x t:=by
 obtain ⟨t,ht,e⟩:=aC7 h
 have h1:z+t < i/\z+t < x.size:=by simp at ht; omega
 refine⟨z+t,by omega,h1.1,h1.2,?_⟩
 rw [bF h1.2,<- e]
 simp
theorem iF (x:Array Keyed) (z i:Nat):(x.extract z i).toList=(x.toList.take i).drop z:=by
 rw [aH3]; simp [List.extract]
theorem nN (x:Array Keyed) (i:Nat):(x.extract 0 i).toList=x.toList.take i:=by
 simp [List.extract]
theorem kU {x:Array Keyed}{i:Nat} (h:i < x.size) : [x[i]]=(x.toList.take (i+1)).drop i:=by
 rw [aH3,iE h,show i+1 - i=1 by omega]
section
variable {κ : SortKind} {st : SortSt} {prog : Program} {w : World} {A : Around} {E : Value → Shared → Prop} {s : Shared} {Ok : Keyed → Prop}
theorem MH.y1 {x y o:Array Keyed} (m:MH rk x.toList y.toList o.toList.reverse i (j+1)) (hj:j < y.size) (h:∀ t,t < i->t < x.size->Kr rk x t<=rk y[j]):MH rk x.toList y.toList (o.push y[j]).toList.reverse i j:=by
 have:=m.ofy (Nat.le_succ j) fun t ht u hu=>?_
 ·rw [<- kU hj] at this; simpa using this
 ·rw [<- kU hj,av2] at hu
  subst hu
  obtain ⟨q,q1,q2,q3⟩:=kS (rk:=rk) ht
  rw [q3]; exact h q q1 q2
theorem MH.x1 {x y o:Array Keyed} (m:MH rk x.toList y.toList o.toList.reverse (i+1) j) (hi:i < x.size) (h:∀ t,t < j->t < y.size->Kr rk y t<=rk x[i]):MH rk x.toList y.toList (o.push x[i]).toList.reverse i j:=by
 have:=m.ofx (Nat.le_succ i) fun t ht u hu=>?_
 ·rw [<- kU hi] at this; simpa using this
 ·rw [<- kU hi,av2] at hu
  subst hu
  obtain ⟨q,q1,q2,q3⟩:=kS (rk:=rk) ht
  rw [q3]; exact h q q1 q2
theorem MH.yk {x y o:Array Keyed} (m:MH rk x.toList y.toList o.toList.reverse i j) {z:Nat} (hz:z<=j) (h:∀ t p,t < i->t < x.size->z<=p->p < j->p < y.size->Kr rk x t<=Kr rk y p):MH rk x.toList y.toList (o ++ (y.extract z j).reverse).toList.reverse i z:=by
 have:=m.ofy hz fun t ht u hu=>?_
 ·rw [<- iF] at this; simpa using this
 ·obtain ⟨q,q1,q2,q3⟩:=kS (rk:=rk) ht
  obtain ⟨p,p1,p2,p3,p4⟩:=kT (rk:=rk) hu
  rw [q3,p4]; exact h q p q1 q2 p1 p2 p3
theorem MH.xk {x y o:Array Keyed} (m:MH rk x.toList y.toList o.toList.reverse i j) {z:Nat} (hz:z<=i) (h:∀ t p,t < j->t < y.size->z<=p->p < i->p < x.size->Kr rk y t<=Kr rk x p):MH rk x.toList y.toList (o ++ (x.extract z i).reverse).toList.reverse z j:=by
 have:=m.ofx hz fun t ht u hu=>?_
 ·rw [<- iF] at this; simpa using this
 ·obtain ⟨q,q1,q2,q3⟩:=kS (rk:=rk) ht
  obtain ⟨p,p1,p2,p3,p4⟩:=kT (rk:=rk) hu
  rw [q3,p4]; exact h q p q1 q2 p1 p2 p3
theorem MH.done {x y o:Array Keyed} (m:MH rk x.toList y.toList o.toList.reverse i j) (hh:i=0 ∨ j=0):cM rk x y (x.extract 0 i ++ y.extract 0 j ++ o.reverse):=by
 unfold cM
 rw [aA0,aA0,nN,nN,Array.toList_reverse]
 exact m.fin hh
theorem MH.frst {x y o:Array Keyed} (m:MH rk x.toList y.toList o.toList.reverse i j) (y0:0 < y.size) (hf:∀ t ∈ x.toList,rk y[0]<=rk t) (hh:j=1):cM rk x y (y.extract 0 j ++ x.extract 0 i ++ o.reverse):=by
 unfold cM
 rw [aA0,aA0,nN,nN,Array.toList_reverse]
 refine m.fst fun t ht u hu=>?_
 subst hh
 obtain ⟨q,q1,q2,q3⟩:=kS (rk:=rk) ht
 have e:q=0:=by omega
 subst e
 rw [q3,bF y0]
 exact hf u hu
structure HB (rk:Keyed->Int) (x y:Array Keyed) (lb i j:Nat) (o:Array Keyed):Prop where
 m:MH rk x.toList y.toList o.toList.reverse i j
 i0:0 < i
 i1:i < x.size
 j0:1 < j
 j1:j<=y.size
 pr:i+j+lb<=x.size+y.size
def HI (rk:Keyed->Int) (x y:Array Keyed) (lb:Nat) (st:SortSt) (c:LH) (st':SortSt):Prop:=Gq st st'/\∃ i j o mg p q,c=(none,i,j,o,mg,p,q)/\HB rk x y lb i j o
def HQ (rk:Keyed->Int) (x y:Array Keyed) (lb:Nat) (st:SortSt) (c:LH) (st':SortSt):Prop:=Gq st st'/\((∃ r i j o mg p q,c=(some r,i,j,o,mg,p,q)/\cM rk x y r) ∨ ∃ i j o mg p q,c=(none,i,j,o,mg,p,q)/\HB rk x y lb i j o)
def HR (rk:Keyed->Int) (x y:Array Keyed) (lb:Nat) (st:SortSt) (r:ForInStep LH) (st':SortSt):Prop:=match r with | .done c=>HQ rk x y lb st c st' | .yield c=>HI rk x y lb st c st'
theorem wY {st0:SortSt}{x y o:Array Keyed}{i j mg p q lb:Nat} (g:Gq st0 st) (b:HB rk x y lb (i+1) j o) (hm:∀ (hi:i < x.size) t,t < j->t < y.size->Kr rk y t<=rk x[i]):wpS (model prog w) A E s (nJ x y o (i+1) j mg p q) (HR rk x y lb st0) st:=by
 unfold nJ
 obtain ⟨m,i0,i1,j0,j1,pr⟩:=b
 have hi':i < x.size:=by omega
 have m':=m.x1 hi' (hm hi')
 simp only [Nat.add_sub_cancel]
 refine av3 (bV hi' ?_)
 by_cases he:(i == 0)=true
 ·rw [if_pos he]
  have he:i=0:=by simpa using he
  exact av9 ⟨g,.inl ⟨_,_,_,_,_,_,_,rfl,m'.done (.inl he)⟩⟩
 ·rw [if_neg he]
  have he:i ≠ 0:=by simpa using he
  split
  ·exact av9 ⟨g,.inr ⟨_,_,_,_,_,_,rfl,m',by omega,by omega,j0,j1,by omega⟩⟩
  ·exact av9 ⟨g,_,_,_,_,_,_,rfl,m',by omega,by omega,j0,j1,by omega⟩
theorem wZ (c:bL prog w A E s κ Ok rk) {st0:SortSt} (hk:kindOf st0=κ) {x y o:Array Keyed}{i j mg p q lb:Nat} (ox:aX Ok x) (oy:aX Ok y) (sx:Sd rk x.toList) (sy:Sd rk y.toList) (y0:0 < y.size) (hf:∀ t ∈ x.toList,rk y[0]<=rk t) (g:Gq st0 st) (b:HB rk x y lb (i+1) (j+1) o)
  (hm:∀ (hj:j < y.size) t,t < i+1->t < x.size->Kr rk x t<=rk y[j]):wpS (model prog w) A E s (nK x y o (i+1) (j+1) mg p q) (HR rk x y lb st0) st:=by
 unfold nK
 obtain ⟨m,i0,i1,j0,j1,pr⟩:=b
 have hi':i < x.size:=by omega
 have hj:j < y.size:=by omega
 have m':=m.y1 hj (hm hj)
 simp only [Nat.add_sub_cancel]
 refine av3 (bV hj ?_)
 by_cases he:(j == 1)=true
 ·rw [if_pos he]
  have he:j=1:=by simpa using he
  exact av9 ⟨g,.inl ⟨_,_,_,_,_,_,_,rfl,m'.frst y0 hf he⟩⟩
 ·rw [if_neg he]
  have he:j ≠ 1:=by simpa using he
  refine av3 (bV hi' (av3 (j8 c (g.kd.trans hk) (ox _ (ay8 hi')) oy (by omega) (by omega) (sy.up _ _ (by omega)) fun z k1 k2 k3=>?_)))
  dsimp only
  have ux:=sx.up 0 _ (au7 x.size)
  have mk:=m'.yk k1 fun t p ht ht' hp hp' _=>by
   have a1:=k3 p hp hp'
   rw [jB,aD5,Nat.zero_add] at a1
   have a2:=ux t i (by omega) (by omega) hi'
   rw [bF (i:=i) hi'] at a2
   omega
  have km:∀ (hi:i < x.size) t,t < z->t < y.size->Kr rk y t<=rk x[i]:=fun _ t ht _=>by
   have a1:=k2 t ht
   rw [jB,az9,Nat.zero_add] at a1
   omega
  by_cases hk0:j - z > 0
  ·rw [if_pos hk0]
   by_cases h1:(z == 1)=true
   ·rw [if_pos h1]
    have h1:z=1:=by simpa using h1
    exact av9 ⟨g,.inl ⟨_,_,_,_,_,_,_,rfl,mk.frst y0 hf h1⟩⟩
   ·rw [if_neg h1]
    have h1:z ≠ 1:=by simpa using h1
    by_cases h0:(z == 0)=true
    ·rw [if_pos h0]
     have h0:z=0:=by simpa using h0
     exact av9 ⟨g,.inl ⟨_,_,_,_,_,_,_,rfl,mk.done (.inr h0)⟩⟩
    ·rw [if_neg h0]
     have h0:z ≠ 0:=by simpa using h0
     exact wY g ⟨mk,by omega,i1,by omega,by omega,by omega⟩ km
  ·rw [if_neg hk0]
   have e0:z=j:=by omega
   subst e0
   exact wY g ⟨m',by omega,i1,by omega,by omega,by omega⟩ km
theorem x3 (c:bL prog w A E s κ Ok rk) {st0:SortSt} (hk:kindOf st0=κ) {x y o:Array Keyed}{i j mg p q lb:Nat} (ox:aX Ok x) (oy:aX Ok y) (sx:Sd rk x.toList) (sy:Sd rk y.toList) (y0:0 < y.size) (hf:∀ t ∈ x.toList,rk y[0]<=rk t) (g:Gq st0 st) (b:HB rk x y lb i (j+1) o) :
  wpS (model prog w) A E s (nL x y o i (j+1) mg p q) (HR rk x y lb st0) st:=by
 unfold nL
 obtain ⟨m,i0,i1,j0,j1,pr⟩:=b
 have hj:j < y.size:=by omega
 simp only [Nat.add_sub_cancel]
 refine av3 (nI g fun st4 q4=>av3 (bV hj (av3 (j8 c (q4.kd.trans hk) (oy _ (ay8 hj)) ox (by omega) (by omega) (sx.up _ _ (by omega)) fun z k1 k2 k3=>?_))))
 dsimp only
 have uy:=sy.up 0 _ (au7 y.size)
 have mk:=m.xk k1 fun t p ht ht' hp hp' _=>by
  have a1:=k3 p hp hp'
  rw [jA,aD5,Nat.zero_add] at a1
  have a2:=uy t j (by omega) (by omega) hj
  rw [bF (i:=j) hj] at a2
  omega
 have km:∀ (hj:j < y.size) t,t < z->t < x.size->Kr rk x t<=rk y[j]:=fun _ t ht _=>by
  have a1:=k2 t ht
  rw [jA,az9,Nat.zero_add] at a1
  exact a1
 by_cases hk0:i - z > 0
 ·rw [if_pos hk0]
  by_cases he:(z == 0)=true
  ·rw [if_pos he]
   exact av9 ⟨q4,.inl ⟨_,_,_,_,_,_,_,rfl,mk.done (.inl (by simpa using he))⟩⟩
  ·rw [if_neg he]
   have he:z ≠ 0:=by simpa using he
   obtain ⟨z2,rfl⟩:∃ z2,z=z2+1:=⟨z - 1,by omega⟩
   exact wZ c hk ox oy sx sy y0 hf q4 ⟨mk,by omega,by omega,j0,j1,by omega⟩ km
 ·rw [if_neg hk0]
  have e0:z=i:=by omega
  subst e0
  obtain ⟨z2,rfl⟩:∃ z2,z=z2+1:=⟨z - 1,by omega⟩
  exact wZ c hk ox oy sx sy y0 hf q4 ⟨m,i0,i1,j0,j1,pr⟩ km
theorem ae5 (c:bL prog w A E s κ Ok rk) {st0:SortSt} (hk:kindOf st0=κ) {x y o:Array Keyed}{i j mg p q lb:Nat} (ox:aX Ok x) (oy:aX Ok y) (sx:Sd rk x.toList) (sy:Sd rk y.toList) (y0:0 < y.size) (hf:∀ t ∈ x.toList,rk y[0]<=rk t) (g:Gq st0 st) (b:HB rk x y lb i j o) :
  wpS (model prog w) A E s (rG x y o i j mg p q) (HQ rk x y lb st0) st:=by
 unfold rG
 refine aA6 (I:=fun _=>HI rk x y lb st0) ?_ ?_ ⟨g,i,j,o,_,p,q,rfl,b⟩
 ·rintro t c3 st3 _ _ ⟨q3,i,j,o,mg,p,q,rfl,b3⟩
  obtain ⟨j3,rfl⟩:∃ j3,j=j3+1:=⟨j - 1,by have:=b3.j0; omega⟩
  dsimp only
  split
  ·exact aG7 (x3 c hk ox oy sx sy y0 hf q3 b3) fun r _ hr=>by cases r <;> exact hr
  ·exact aG7 (x3 c hk ox oy sx sy y0 hf q3 b3) fun r _ hr=>by cases r <;> exact hr
 ·rintro c3 st3 ⟨q3,i,j,o,mg,p,q,rfl,b3⟩
  exact⟨q3,.inr ⟨_,_,_,_,_,_,rfl,b3⟩⟩
theorem ae6 (c:bL prog w A E s κ Ok rk) {st0:SortSt} (hk:kindOf st0=κ) {x y o:Array Keyed}{i j mg n:Nat}{Q:rF->SortSt->Prop} (ox:aX Ok x) (oy:aX Ok y) (sx:Sd rk x.toList) (sy:Sd rk y.toList) (y0:0 < y.size) (hf:∀ t ∈ x.toList,rk y[0]<=rk t) (g:Gq st0 st) (b:HB rk x y n i j o)
  (h1:∀ r i' j' o' p q st',Gq st0 st'->cM rk x y r->Q (some r,i',j',o',p,q) st') (h2:∀ i' j' o' p q st',Gq st0 st'->HB rk x y (n+1) i' j' o'->Q (none,i',j',o',p,q) st') :
  wpS (model prog w) A E s (rH x y o i j mg) Q st:=by
 have ux:Up rk x 0 x.size:=sx.up 0 _ (au7 _)
 have uy:Up rk y 0 y.size:=sy.up 0 _ (au7 _)
 unfold rH
 refine aA6 (I:=fun t c st'=>Gq st0 st'/\∃ i j o p q,c=(none,i,j,o,p,q)/\HB rk x y (n+t) i j o) ?_ ?_ ⟨g,i,j,o,0,0,rfl,b⟩
 ·rintro t c2 st2 _ ht ⟨q2,i',j',o,p,q,rfl,m,i0,i1,j0,j1,pr⟩
  obtain ⟨i2,rfl⟩:∃ i2,i'=i2+1:=⟨i' - 1,by omega⟩
  obtain ⟨j2,rfl⟩:∃ j2,j'=j2+1:=⟨j' - 1,by omega⟩
  simp only [Nat.add_sub_cancel]
  have hi:i2 < x.size:=by omega
  have hj:j2 < y.size:=by omega
  refine av3 (bV hj (av3 (bV hi (av3 (c _ _ (oy _ (ay8 hj)) (ox _ (ay8 hi)) st2 _ (q2.kd.trans hk) ?_)))))
  by_cases hc:rk y[j2] < rk x[i2]
  ·rw [aw5 hc]
   dsimp only
   rw [if_pos rfl]
   have m':=m.x1 hi fun t ht _=>by
    have:=uy t j2 (by omega) (by omega) hj
    rw [bF hj] at this
    omega
   refine av3 (bV hi ?_)
   by_cases he:(i2 == 0)=true
   ·rw [if_pos he]
    exact av9 (h1 _ _ _ _ _ _ _ q2 (m'.done (.inl (by simpa using he))))
   ·rw [if_neg he]
    have he:i2 ≠ 0:=by simpa using he
    split
    ·exact av9 (h2 _ _ _ _ _ _ q2 ⟨m',by omega,by omega,j0,j1,by omega⟩)
    ·exact av9 ⟨q2,_,_,_,_,_,rfl,m',by omega,by omega,j0,j1,by omega⟩
  ·rw [av7 hc]
   dsimp only
   rw [if_neg aw0]
   have m':=m.y1 hj fun t ht _=>by
    have:=ux t i2 (by omega) (by omega) hi
    rw [bF hi] at this
    omega
   refine av3 (bV hj ?_)
   by_cases he:(j2 == 1)=true
   ·rw [if_pos he]
    exact av9 (h1 _ _ _ _ _ _ _ q2 (m'.frst y0 hf (by simpa using he)))
   ·rw [if_neg he]
    have he:j2 ≠ 1:=by simpa using he
    split
    ·exact av9 (h2 _ _ _ _ _ _ q2 ⟨m',i0,i1,by omega,by omega,by omega⟩)
    ·exact av9 ⟨q2,_,_,_,_,_,rfl,m',i0,i1,by omega,by omega,by omega⟩
 ·rintro c2 st2 ⟨q2,i',j',o,p,q,rfl,m,i0,i1,j0,j1,pr⟩
  exact h2 _ _ _ _ _ _ q2 ⟨m,i0,i1,j0,j1,by omega⟩
theorem ae7 (c:bL prog w A E s κ Ok rk) (hk:kindOf st=κ) {x y:Array Keyed}{Q:Array Keyed->SortSt->Prop} (ox:aX Ok x) (oy:aX Ok y) (sx:Sd rk x.toList) (sy:Sd rk y.toList) (x0:0 < x.size) (y0:0 < y.size)
  (hf:∀ t ∈ x.toList,rk y[0]<=rk t) (hl:∀ u ∈ y.toList,rk u<=rk x[x.size - 1])
  (h:∀ r st',Gq st st'->cM rk x y r->Q r st'):wpS (model prog w) A E s (rE x y) Q st:=by
 rw [ae4]
 refine av3 (wpS_lift (aF9 ⟨rfl,av3 (bV (by omega:x.size - 1 < x.size) ?_)⟩))
 have m0:MH rk x.toList y.toList (#[x[x.size - 1]]:Array Keyed).toList.reverse (x.size - 1) y.size:=by
  have mm:MH rk x.toList y.toList [] x.size y.size:=⟨by simp,by rw [ay7 (by simp),aD2]; exact sx,by rw [ay7 (by simp),aD2]; exact sy⟩
  have e:=kU (x:=x) (i:=x.size - 1) (by omega)
  rw [show x.size - 1+1=x.size by omega] at e
  have:=mm.ofx (Nat.sub_le x.size 1) fun t ht u hu=>?_
  ·rw [<- e] at this; simpa using this
  ·rw [<- e,av2] at hu
   subst hu
   exact hl t (aE6 ht)
 by_cases e1:(x.size - 1 == 0)=true
 ·rw [if_pos e1]
  exact av9 (h _ st (Gq.refl st) (m0.done (.inl (by simpa using e1))))
 ·rw [if_neg e1]
  have e1:x.size - 1 ≠ 0:=by simpa using e1
  by_cases e2:(y.size == 1)=true
  ·rw [if_pos e2]
   exact av9 (h _ st (Gq.refl st) (m0.frst y0 hf (by simpa using e2)))
  ·rw [if_neg e2]
   have e2:y.size ≠ 1:=by simpa using e2
   refine av3 (wpS_get ?_)
   unfold wX
   refine av3 (aG7 (aA6
    (I:=fun n c st'=>Gq st st'/\∃ i j o mg,c=(none,i,j,o,mg)/\HB rk x y (n+1) i j o)
    (Q:=fun c st'=>Gq st st'/\∃ r i j o mg,c=(some r,i,j,o,mg)/\cM rk x y r) ?_ ?_ ⟨Gq.refl st,_,_,_,_,rfl,m0,by omega,by omega,by omega,by omega,by omega⟩) ?_)
   ·rintro n c1 st1 _ hn ⟨q1,i,j,o,mg,rfl,b⟩
    dsimp only
    refine av3 (ae6 c hk ox oy sx sy y0 hf q1 b (fun r o' i' j' p q st' g md=>av9 ⟨g,r,_,_,_,_,rfl,md⟩) fun i' j' o' p q st' g b'=>?_)
    refine av3 (wpS_lift (aF9 ⟨rfl,?_⟩))
    refine av3 (aG7 (ae5 c hk ox oy sx sy y0 hf g b') ?_)
    rintro c3 st3 ⟨q3,⟨r,i3,j3,o,mg,p,q,rfl,md⟩ | ⟨i3,j3,o,mg,p,q,rfl,b3⟩⟩
    ·exact av9 ⟨q3,r,_,_,_,_,rfl,md⟩
    ·exact av3 (nI q3 fun st4 q4=>av9 ⟨q4,i3,j3,o,_,rfl,b3⟩)
   ·rintro c1 st1 ⟨q1,i,j,o,mg,rfl,b⟩
    have:=b.pr
    exact absurd this (by omega)
   ·rintro c1 st1 ⟨q1,r,i,j,o,mg,rfl,md⟩
    exact av9 (h r _ q1 md)
end
theorem ae8 (i:Nat):mergeAt' i=(do
 let z <- get
 let (some (sa,na,pw),some (sb,nb,_)):=((pendingOf z)[i]?,(pendingOf z)[i+1]?) | unsupported "internal:list.sort.pending"
 set (SortSt.mk' (kindOf z) (arrOf z) (((pendingOf z).setIfInBounds i (sa,na+nb,pw)).eraseIdxIfInBounds (i+1)) (gallopOf z) (failedOf z))
 let some k <- gS false (<- elem' (arrOf z) sb) (arrOf z) sa na 0 | return false
 let (sa,na):=(sa+k,na - k)
 if na == 0 then return true
 let some nb <- gS true (<- elem' (arrOf z) (sa+na - 1)) (arrOf z) sb nb (nb - 1) | return false
 if nb == 0 then return true
 let x:=(arrOf z).extract sa sb
 let y:=(arrOf z).extract sb (sb+nb)
 let m <- if na<=nb then rA x y else rE x y
 modify fun z=>setArr z (m.toList.zipIdx.foldl (fun a (p,j)=>a.setIfInBounds (sa+j) p) (arrOf z))
 return (failedOf (<- get)).isNone):=rfl
variable {rk : Keyed → Int}
theorem ae9 {σ:Type}{M:Model}{A:Around}{E:Value->Shared->Prop}{s:Shared}{a b:σ}{Q:PUnit->σ->Prop} (h:Q ⟨⟩ a):wpS M A E s (set a:StateT σ Sem PUnit) Q b:=by
 unfold wpS; rw [StateT.run_set]; exact au9 ⟨rfl,h⟩
theorem x4 (o:Nat):∀ (m:List Keyed) (n:Nat) (a:Array Keyed) (t:Nat),o+n+m.length<=a.size->
  ((m.zipIdx n).foldl (fun a (p,j)=>a.setIfInBounds (o+j) p) a)[t]? = if o+n<=t/\t < o+n+m.length then m[t - (o+n)]? else a[t]?
 | [],n,a,t,_=>by
  show a[t]? = _
  rw [if_neg (fun z=>Nat.not_lt_of_ge z.1 z.2)]
 | p :: m,n,a,t,h=>by
  rw [List.zipIdx_cons,List.foldl_cons]
  have h':o+(n+1)+m.length<=(a.setIfInBounds (o+n) p).size:=by rw [Array.size_setIfInBounds]; simp at h; omega
  have ih:=x4 o m (n+1) (a.setIfInBounds (o+n) p) t h'
  refine ih.trans ?_
  have hs:o+n < a.size:=by simp at h; omega
  rw [Array.getElem?_setIfInBounds]
  by_cases e:o+n=t
  ·subst e
   rw [if_neg (by omega),if_pos rfl,if_pos hs,if_pos (by simp),Nat.sub_self]; rfl
  ·rw [if_neg e]
   by_cases c:o+n<=t/\t < o+n+(p :: m).length
   ·rw [if_pos c,if_pos (by simp at c; omega)]
    rw [show t - (o+n)=(t - (o+(n+1)))+1 by omega]; rfl
   ·rw [if_neg c,if_neg (by simp at c ⊢; omega)]
theorem x5 {a:Array Keyed}{lo hi:Nat} (u:Up rk a lo hi) (hh:hi<=a.size):Sd rk (a.extract lo hi).toList:=by
 unfold Sd
 rw [az3]
 intro i j hi' hj hij
 have h2:lo+j < hi:=by simp at hj; omega
 have:=u (lo+i) (lo+j) (by omega) (by omega) h2
 rw [bF (by omega:lo+i < a.size),bF (by omega:lo+j < a.size)] at this
 simpa using this
theorem x6 {a:Array Keyed}{lo mid hi:Nat} (u:Up rk a lo mid) (v:Up rk a mid hi) (h0:lo < mid) (h1:mid < hi) (h:Kr rk a (mid - 1)<=Kr rk a mid):Up rk a lo hi:=fun i j hi' hij hj=>by
 rcases ay9 j mid with z | z
 ·exact u i j hi' hij z
 ·rcases ay9 i mid with y | y
  ·have a1:=u i (mid - 1) hi' (by omega) (by omega)
   have a2:=v mid j (au7 _) z hj
   omega
  ·exact v i j y hij hj
theorem x8 {a:Array Keyed}{lo hi t:Nat} (h:t < hi - lo) (hh:hi<=a.size):Kr rk (a.extract lo hi) t=Kr rk a (lo+t):=by
 refine iC ?_
 rw [Array.getElem?_extract_of_lt (by omega)]
 exact (getElem?_pos a (lo+t) (by omega)).symm
section
variable {κ : SortKind} {a0 : Array Keyed} {pd : Array (Nat × Nat × Nat)} {st : SortSt} {prog : Program} {w : World} {A : Around} {E : Value → Shared → Prop} {s : Shared} {Ok : Keyed → Prop}
theorem af0 {a m:Array Keyed}{p x e:Nat} (hpx:p<=x) (hxe:x<=e) (he:e<=a.size) (md:cM rk (a.extract p x) (a.extract x e) m) :
  let r:=m.toList.zipIdx.foldl (fun a (q,j)=>a.setIfInBounds (p+j) q) a
  r.Perm a/\(∀ t,(t < p ∨ e<=t)->Kr rk r t=Kr rk a t)/\(∀ t t',p<=t->t<=t'->t' < e->Kr rk r t<=Kr rk r t')/\∀ t,p<=t->t < e->∃ t',p<=t'/\t' < e/\Kr rk r t=Kr rk a t':=by
 intro r
 have ml:m.toList.length=e - p:=by
  rw [md.1.length_eq]; simp; omega
 have g:∀ t,r[t]? = if p<=t/\t < e then m[t - p]? else a[t]?:=fun t=>by
  have:=x4 p m.toList 0 a t (by omega)
  rw [show r=(m.toList.zipIdx 0).foldl (fun a (q,j)=>a.setIfInBounds (p+j) q) a from rfl,this]
  simp only [Nat.add_zero,ml,show p+(e - p)=e by omega,aD0]
 have ex:(a.extract p x).toList ++ (a.extract x e).toList=(a.toList.take e).drop p:=by
  rw [iF,iF,aH3,aH3,aH3]
  rw [show x=p+(x - p) by omega,<- List.drop_drop,show p+(x - p) - p=x - p by omega,show e - (p+(x - p))=(e - p) - (x - p) by omega]
  have:=az1 (x - p) ((a.toList.drop p).take (e - p))
  rw [List.take_take,aH3,Nat.min_eq_left (by omega)] at this
  exact this
 have rl:r.toList=a.toList.take p ++ (m.toList ++ a.toList.drop e):=by
  apply List.ext_getElem?
  intro t
  rw [aD0,g]
  rcases ay9 t p with z | z
  ·rw [if_neg (by omega),ay2 (by simp; omega),List.getElem?_take_of_lt z,aD0]
  ·rw [aA2 (by simp; omega)]
   have lp:(a.toList.take p).length=p:=by simp; omega
   rw [lp]
   rcases ay9 t e with y | y
   ·rw [if_pos ⟨z,y⟩,ay2 (by omega),aD0]
   ·rw [if_neg (by omega),aA2 (by omega),ml,List.getElem?_drop,aD0]
    congr 1; omega
 have mp:m.toList.Perm ((a.toList.take e).drop p):=ex ▸ md.1
 refine⟨?_,fun t ht=>iC (by rw [g,if_neg (by omega)]),fun t t' h1 h2 h3=>?_,fun t h1 h2=>?_⟩
 ·refine Array.perm_iff_toList_perm.mpr ?_
  rw [rl]
  have:a.toList=a.toList.take p ++ ((a.toList.take e).drop p ++ a.toList.drop e):=by
   rw [rJ _ (by omega:p<=e)]; exact (az1 p _).symm
  conv=>rhs; rw [this]
  exact (mp.append_right _).append_left _
 ·have e1:Kr rk r t=Kr rk m (t - p):=iC (by rw [g,if_pos (by omega)])
  have e2:Kr rk r t'=Kr rk m (t' - p):=iC (by rw [g,if_pos (by omega)])
  rw [e1,e2]
  have ms:m.size=e - p:=by rw [<- ml]; simp
  exact md.2.up 0 m.size (au7 _) (t - p) (t' - p) (by omega) (by omega) (by omega)
 ·have e1:Kr rk r t=Kr rk m (t - p):=iC (by rw [g,if_pos (by omega)])
  have ms:m.size=e - p:=by rw [<- ml]; simp
  have hm:t - p < m.size:=by omega
  have mm:m[t - p] ∈ (a.toList.take e).drop p:=mp.mem_iff.mp (by simp)
  obtain ⟨t',q1,q2,q3,q4⟩:=kT (rk:=rk) mm
  exact⟨t',q1,q2,by rw [e1,bF hm]; exact q4⟩
theorem af1 (c:bL prog w A E s κ Ok rk) (o:aX Ok a0) (b:SB κ a0 pd st) {i sa na pw sb nb pw':Nat}{Q:Bool->SortSt->Prop} (e1:pd[i]? = some (sa,na,pw)) (e2:pd[i+1]? = some (sb,nb,pw')) (hs:sb=sa+na) (n0:0 < na) (m0:0 < nb) (hz:sb+nb<=a0.size)
  (u:Up rk (arrOf st) sa sb) (v:Up rk (arrOf st) sb (sb+nb))
  (h:∀ st',SB κ a0 ((pd.setIfInBounds i (sa,na+nb,pw)).eraseIdxIfInBounds (i+1)) st'->Up rk (arrOf st') sa (sb+nb)->(∀ t,(t < sa ∨ sb+nb<=t)->Kr rk (arrOf st') t=Kr rk (arrOf st) t)->Q true st'):wpS (model prog w) A E s (mergeAt' i) Q st:=by
 have sz:=b.sz
 rw [ae8]
 refine av3 (wpS_get ?_)
 rw [b.pd,e1,e2]
 dsimp only
 refine av3 (ae9 ?_)
 generalize hst:SortSt.mk' (kindOf st) (arrOf st) ((pd.setIfInBounds i (sa,na+nb,pw)).eraseIdxIfInBounds (i+1)) (gallopOf st) (failedOf st)=st1
 have b1:SB κ a0 ((pd.setIfInBounds i (sa,na+nb,pw)).eraseIdxIfInBounds (i+1)) st1:=by rw [<- hst]; exact⟨b.pm,b.kd,b.ok,rfl⟩
 have ar:arrOf st1=arrOf st:=by rw [<- hst]
 have oa:=b.all o
 have hsb:sb < (arrOf st).size:=by omega
 refine av3 (bV hsb (av3 (j8 c b1.kd (oa _ (ay8 hsb)) oa n0 (by omega) (hs ▸ u) fun k k1 k2 k3=>?_)))
 dsimp only
 have k2':∀ t,sa<=t->t < sa+k->Kr rk (arrOf st) t<=Kr rk (arrOf st) sb:=fun t t1 t2=>by
  have:=k2 (t - sa) (by omega)
  rw [jA,az9,show sa+(t - sa)=t by omega] at this
  rw [bF hsb]; exact this
 have k3':∀ t,sa+k<=t->t < sb->Kr rk (arrOf st) sb < Kr rk (arrOf st) t:=fun t t1 t2=>by
  have:=k3 (t - sa) (by omega) (by omega)
  rw [jA,aD5,show sa+(t - sa)=t by omega] at this
  rw [bF hsb]; omega
 by_cases ek:(na - k == 0)=true
 ·rw [if_pos ek]
  have ek:na - k=0:=by simpa using ek
  refine av9 (h st1 b1 ?_ fun t _=>by rw [ar])
  rw [ar]
  exact x6 u v (by omega) (by omega) (k2' (sb - 1) (by omega) (by omega))
 ·rw [if_neg ek]
  have ek:na - k ≠ 0:=by simpa using ek
  have el:sa+k+(na - k) - 1=sb - 1:=by omega
  rw [el]
  have hsl:sb - 1 < (arrOf st).size:=by omega
  refine av3 (bV hsl (av3 (j8 c b1.kd (oa _ (ay8 hsl)) oa (by omega) (by omega) v fun l l1 l2 l3=>?_)))
  dsimp only
  have l2':∀ t,sb<=t->t < sb+l->Kr rk (arrOf st) t < Kr rk (arrOf st) (sb - 1):=fun t t1 t2=>by
   have:=l2 (t - sb) (by omega)
   rw [jB,az9,show sb+(t - sb)=t by omega] at this
   rw [bF hsl]; exact this
  have l3':∀ t,sb+l<=t->t < sb+nb->Kr rk (arrOf st) (sb - 1)<=Kr rk (arrOf st) t:=fun t t1 t2=>by
   have:=l3 (t - sb) (by omega) (by omega)
   rw [jB,aD5,show sb+(t - sb)=t by omega] at this
   rw [bF hsl]; omega
  by_cases en:(l == 0)=true
  ·rw [if_pos en]
   have en:l=0:=by simpa using en
   subst en
   refine av9 (h st1 b1 ?_ fun t _=>by rw [ar])
   rw [ar]
   exact x6 u v (by omega) (by omega) (l3' sb (by omega) (by omega))
  ·rw [if_neg en]
   have en:l ≠ 0:=by simpa using en
   have sub:∀ p e,aX Ok ((arrOf st).extract p e):=fun p e z hz=>oa z (by
    have:z ∈ ((arrOf st).extract p e).toList:=Array.mem_toList_iff.mpr hz
    rw [iF] at this
    exact Array.mem_toList_iff.mp (aE6 (List.mem_of_mem_drop this)))
   have sx:Sd rk ((arrOf st).extract (sa+k) sb).toList:=x5 (fun i j h1 h2 h3=>u i j (by omega) h2 h3) (by omega)
   have sy:Sd rk ((arrOf st).extract sb (sb+l)).toList:=x5 (fun i j h1 h2 h3=>v i j h1 h2 (by omega)) (by omega)
   have x0:0 < ((arrOf st).extract (sa+k) sb).size:=by simp; omega
   have y0:0 < ((arrOf st).extract sb (sb+l)).size:=by simp; omega
   have hf:∀ t ∈ ((arrOf st).extract (sa+k) sb).toList,rk ((arrOf st).extract sb (sb+l))[0]<=rk t:=fun t ht=>by
    rw [iF] at ht
    obtain ⟨t',q1,q2,q3,q4⟩:=kT (rk:=rk) ht
    rw [q4,<- bF (rk:=rk) y0,x8 (by omega) (by omega)]
    exact Int.le_of_lt (k3' t' q1 q2)
   have hl:∀ t ∈ ((arrOf st).extract sb (sb+l)).toList,rk t<=rk ((arrOf st).extract (sa+k) sb)[((arrOf st).extract (sa+k) sb).size - 1]:=fun t ht=>by
    rw [iF] at ht
    obtain ⟨t',q1,q2,q3,q4⟩:=kT (rk:=rk) ht
    have e:((arrOf st).extract (sa+k) sb).size=sb - (sa+k):=by simp; omega
    rw [q4,<- bF (rk:=rk) (by omega),x8 (by omega) (by omega),e,show sa+k+(sb - (sa+k) - 1)=sb - 1 by omega]
    exact Int.le_of_lt (l2' t' q1 q2)
   have fin:∀ (m:Array Keyed) (st2:SortSt),Gq st1 st2->cM rk ((arrOf st).extract (sa+k) sb) ((arrOf st).extract sb (sb+l)) m->
     wpS (model prog w) A E s (do modify (fun z=>setArr z (m.toList.zipIdx.foldl (fun a (p,j)=>a.setIfInBounds (sa+k+j) p) (arrOf z))); return (failedOf (<- get)).isNone) Q st2:=fun m st2 g md=>by
    have b2:SB κ a0 ((pd.setIfInBounds i (sa,na+nb,pw)).eraseIdxIfInBounds (i+1)) st2:=⟨by rw [g.ar]; exact b1.pm,g.kd.trans b1.kd,g.ok.trans b1.ok,g.pd.trans b1.pd⟩
    have a2:arrOf st2=arrOf st:=g.ar.trans ar
    obtain ⟨r1,r2,r3,r4⟩:=af0 (by omega) (by omega) (by omega) md
    generalize hr:m.toList.zipIdx.foldl (fun a (q,j)=>a.setIfInBounds (sa+k+j) q) (arrOf st)=r at r1 r2 r3 r4
    refine av3 (wpS_modify (av3 (wpS_get (av9 ?_))))
    have b3:=b2.put (xs:=m.toList.zipIdx.foldl (fun a (q,j)=>a.setIfInBounds (sa+k+j) q) (arrOf st2)) (by rw [a2,hr]; exact r1)
    have er:arrOf (setArr st2 (m.toList.zipIdx.foldl (fun a (q,j)=>a.setIfInBounds (sa+k+j) q) (arrOf st2)))=r:=by rw [<- hr,a2]
    have tr:(failedOf (setArr st2 (m.toList.zipIdx.foldl (fun a (q,j)=>a.setIfInBounds (sa+k+j) q) (arrOf st2)))).isNone=true:=by rw [b3.ok]; rfl
    rw [tr]
    refine h _ b3 (fun i j hi hij hj=>?_) fun t ht=>?_
    ·rw [er]
     have bl:∀ t,sa<=t->t < sa+k->∀ t',sa+k<=t'->t' < sb+l->Kr rk (arrOf st) t<=Kr rk (arrOf st) t':=fun t t1 t2 t' t3 t4=>by
      rcases ay9 t' sb with z | z
      ·exact u t t' t1 (by omega) z
      ·have a1:=k2' t t1 t2
       have a2:=v sb t' (au7 _) z (by omega)
       omega
     have br:∀ t,sb+l<=t->t < sb+nb->∀ t',sa+k<=t'->t' < sb+l->Kr rk (arrOf st) t'<=Kr rk (arrOf st) t:=fun t t1 t2 t' t3 t4=>by
      rcases ay9 t' sb with z | z
      ·have a1:=u t' (sb - 1) (by omega) (by omega) (by omega)
       have a2:=l3' t t1 t2
       omega
      ·exact v t' t z (by omega) t2
     have blr:∀ t,sa<=t->t < sa+k->∀ t',sb+l<=t'->t' < sb+nb->Kr rk (arrOf st) t<=Kr rk (arrOf st) t':=fun t t1 t2 t' t3 t4=>by
      have a1:=bl t t1 t2 (sb - 1) (by omega) (by omega)
      have a2:=l3' t' t3 t4
      omega
     rcases ay9 i (sa+k) with z | z
     ·rw [r2 i (.inl z)]
      rcases ay9 j (sa+k) with y | y
      ·rw [r2 j (.inl y)]; exact u i j hi hij (by omega)
      ·rcases ay9 j (sb+l) with x | x
       ·obtain ⟨t',q1,q2,q3⟩:=r4 j y x
        rw [q3]; exact bl i hi z t' q1 q2
       ·rw [r2 j (.inr x)]; exact blr i hi z j x hj
     ·rcases ay9 j (sb+l) with x | x
      ·exact r3 i j z hij x
      ·rw [r2 j (.inr x)]
       rcases ay9 i (sb+l) with y | y
       ·obtain ⟨t',q1,q2,q3⟩:=r4 i z y
        rw [q3]; exact br j x hj t' q1 q2
       ·rw [r2 i (.inr y)]; exact v i j (by omega) hij hj
    ·rw [er]; exact r2 t (by omega)
   by_cases hle:na - k<=l
   ·rw [if_pos hle]
    exact av3 (ae3 c b1.kd (sub _ _) (sub _ _) sx sy x0 y0 hf hl fun m st2 g md=>fin m st2 g md)
   ·rw [if_neg hle]
    exact av3 (ae7 c b1.kd (sub _ _) (sub _ _) sx sy x0 y0 hf hl fun m st2 g md=>fin m st2 g md)
end
def Ch:Nat->List (Nat × Nat)->Nat->Prop
 | a,[],b=>a=b
 | a,(p,n) :: r,b=>p=a/\0 < n/\Ch (a+n) r b
theorem Ch.split:∀ {l l':List (Nat × Nat)}{a b:Nat},Ch a (l ++ l') b->∃ m,Ch a l m/\Ch m l' b
 | [],_,a,_,h=>⟨a,rfl,h⟩
 | (p,n) :: l,l',a,b,h=>by
  obtain ⟨h1,h2,h3⟩:=h
  obtain ⟨m,q1,q2⟩:=Ch.split h3
  exact⟨m,⟨h1,h2,q1⟩,q2⟩
theorem Ch.join:∀ {l l':List (Nat × Nat)}{a m b:Nat},Ch a l m->Ch m l' b->Ch a (l ++ l') b
 | [],_,a,m,_,h,h'=>by cases (show a=m from h); exact h'
 | (p,n) :: l,l',a,m,b,h,h'=>⟨h.1,h.2.1,Ch.join h.2.2 h'⟩
theorem Ch.len:∀ {l:List (Nat × Nat)}{a b:Nat},Ch a l b->a+l.length<=b
 | [],a,b,h=>by cases (show a=b from h); simp
 | (p,n) :: l,a,b,h=>by
  have:=Ch.len h.2.2
  have:=h.2.1
  simp; omega
theorem Ch.mem:∀ {l:List (Nat × Nat)}{a b:Nat}{r:Nat × Nat},Ch a l b->r ∈ l->a<=r.1/\r.1+r.2<=b/\0 < r.2
 | (p,n) :: l,a,b,r,h,hr=>by
  obtain ⟨h1,h2,h3⟩:=h
  have hb:=Ch.len h3
  rcases av8.mp hr with e | e
  ·subst e
   have h1:p=a:=h1
   refine⟨?_,?_,h2⟩
   ·show a<=p; omega
   ·show p+n<=b; omega
  ·have:=Ch.mem h3 e
   exact⟨by omega,this.2.1,this.2.2⟩
def sk (pd:Array (Nat × Nat × Nat)):List (Nat × Nat):=pd.toList.map fun r=>(r.1,r.2.1)
theorem nO (pd:Array (Nat × Nat × Nat)):(sk pd).length=pd.size:=by simp [sk]
structure Rn (rk:Keyed->Int) (a:Array Keyed) (l:List (Nat × Nat)) (lo:Nat):Prop where
 ch:Ch 0 l lo
 up:∀ r ∈ l,Up rk a r.1 (r.1+r.2)
variable {rk : Keyed → Int} {κ : SortKind} {a0 : Array Keyed} {pd : Array (Nat × Nat × Nat)} {st : SortSt} {prog : Program} {w : World} {A : Around} {E : Value → Shared → Prop} {s : Shared} {Ok : Keyed → Prop}
theorem Rn.same {a b:Array Keyed}{l:List (Nat × Nat)}{lo:Nat} (h:Rn rk a l lo) (e:∀ t,t < lo->Kr rk b t=Kr rk a t):Rn rk b l lo:=⟨h.ch,fun r hr i j hi hij hj=>by
 have:=(h.ch.mem hr).2.1
 rw [e i (by omega),e j (by omega)]
 exact h.up r hr i j hi hij hj⟩
theorem x9 (c:bL prog w A E s κ Ok rk) (o:aX Ok a0) (b:SB κ a0 pd st) {i lo:Nat}{Q:Bool->SortSt->Prop} (hi:i+1 < pd.size) (hz:lo<=a0.size) (rn:Rn rk (arrOf st) (sk pd) lo)
  (h:∀ pd' st',SB κ a0 pd' st'->pd'.size+1=pd.size->Rn rk (arrOf st') (sk pd') lo->(∀ t,lo<=t->Kr rk (arrOf st') t=Kr rk (arrOf st) t)->Q true st'):wpS (model prog w) A E s (mergeAt' i) Q st:=by
 obtain ⟨⟨sa,na,pw⟩,e1⟩:∃ r,pd[i]? = some r:=⟨pd[i],getElem?_pos pd i (by omega)⟩
 obtain ⟨⟨sb,nb,pw'⟩,e2⟩:∃ r,pd[i+1]? = some r:=⟨pd[i+1],getElem?_pos pd (i+1) hi⟩
 have d1:pd.toList=pd.toList.take i ++ (sa,na,pw) :: (sb,nb,pw') :: pd.toList.drop (i+2):=by
  have hl:i < pd.toList.length:=by simp; omega
  have hl2:i+1 < pd.toList.length:=by simpa using hi
  have g1:pd.toList[i]=(sa,na,pw):=by rw [getElem?_pos pd i (by omega)] at e1; simpa using e1
  have g2:pd.toList[i+1]=(sb,nb,pw'):=by rw [getElem?_pos pd (i+1) hi] at e2; simpa using e2
  have:=az1 i pd.toList
  rw [aE1 hl,aE1 hl2,g1,g2] at this
  exact this.symm
 have li:(pd.toList.take i).length=i:=by simp; omega
 have d2:((pd.setIfInBounds i (sa,na+nb,pw)).eraseIdxIfInBounds (i+1)).toList=pd.toList.take i ++ (sa,na+nb,pw) :: pd.toList.drop (i+2):=by
  have e:((pd.setIfInBounds i (sa,na+nb,pw)).eraseIdxIfInBounds (i+1)).toList=(pd.toList.set i (sa,na+nb,pw)).eraseIdx (i+1):=by
   unfold Array.eraseIdxIfInBounds
   rw [dif_pos (by rw [Array.size_setIfInBounds]; exact hi),Array.toList_eraseIdx,Array.toList_setIfInBounds]
  rw [e]
  conv=>lhs; rw [d1]
  rw [List.set_append_right _ _ (by omega),li,Nat.sub_self,List.set_cons_zero,List.eraseIdx_append_of_length_le (by omega),li,show i+1 - i=1 by omega]
  rfl
 have k1:sk pd=(pd.toList.take i).map (fun r=>(r.1,r.2.1)) ++ (sa,na) :: (sb,nb) :: (pd.toList.drop (i+2)).map (fun r=>(r.1,r.2.1)):=by
  unfold sk; conv=>lhs; rw [d1]
  simp
 have k2:sk ((pd.setIfInBounds i (sa,na+nb,pw)).eraseIdxIfInBounds (i+1))=(pd.toList.take i).map (fun r=>(r.1,r.2.1)) ++ (sa,na+nb) :: (pd.toList.drop (i+2)).map (fun r=>(r.1,r.2.1)):=by
  unfold sk; rw [d2]
  simp
 have ch:=rn.ch
 rw [k1] at ch
 obtain ⟨m,c1,c2⟩:=ch.split
 obtain ⟨f1,f2,f3,f4,f5⟩:=c2
 have f1:sa=m:=f1
 have f3:sb=m+na:=f3
 have up:=rn.up
 rw [k1] at up
 have lo2:=f5.len
 refine af1 c o b e1 e2 (by omega) f2 f4 (by omega) (by have:=up (sa,na) (by simp); rw [f3,<- f1]; exact this) (up (sb,nb) (by simp)) fun st' b' u' fr=>h _ st' b' ?_ ⟨?_,?_⟩ fun t ht=>fr t (by omega)
 ·rw [<- nO,<- nO,k1,k2]; simp; omega
 ·rw [k2]
  refine c1.join ⟨f1,by omega,?_⟩
  rw [<- Nat.add_assoc]; exact f5
 ·intro r hr
  rw [k2] at hr
  rcases ax5.mp hr with z | z
  ·intro p q h1 h2 h3
   have:=(c1.mem z).2.1
   rw [fr p (by omega),fr q (by omega)]
   exact up r (aG5 _ z) p q h1 h2 h3
  ·rcases av8.mp z with z | z
   ·subst z
    show Up rk (arrOf st') sa (sa+(na+nb))
    rw [show sa+(na+nb)=sb+nb by omega]; exact u'
   ·intro p q h1 h2 h3
    have:=(f5.mem z).1
    rw [fr p (by omega),fr q (by omega)]
    exact up r (ax9 _ (av1 _ (av1 _ z))) p q h1 h2 h3
abbrev RS:=Option Unit × Nat
def xA (sz pw:Nat):StateT SortSt Sem (Option Unit × Unit):=forIn [0:sz] ((none,()):Option Unit × Unit) fun _ _=>do
 let z <- get
 match (if (pendingOf z).size > 1 then (pendingOf z)[(pendingOf z).size - 2]? else none) with
 | some (_,_,o)=>if o<=pw then pure (.done (none,())) else do
   let q <- mergeAt' ((pendingOf z).size - 2)
   if (!q)=true then pure (.done (some (),())) else pure (.yield (none,()))
 | _=>pure (.done (none,()))
def jn (sz lo n:Nat):StateT SortSt Sem (ForInStep RS):=do
 let z <- get
 match (pendingOf z).back? with
 | some (s1,n1,_)=>do
  let r <- xA sz (power' sz (2 * s1+n1) (2 * s1+n1+n1+n) sz)
  match r.1 with
  | some u=>pure (.done (some u,lo))
  | none=>do
   modify fun s=>setPending s ((pendingOf s).modify ((pendingOf s).size - 1) fun x=>(x.1,x.2.1,power' sz (2 * s1+n1) (2 * s1+n1+n1+n) sz))
   modify fun s=>setPending s ((pendingOf s).push (lo,n,0))
   pure (.yield (none,lo+n))
 | _=>do
  modify fun s=>setPending s ((pendingOf s).push (lo,n,0))
  pure (.yield (none,lo+n))
def xB (sz mr lo:Nat):StateT SortSt Sem (ForInStep RS):=if lo >= sz then pure (.done (none,lo)) else do
 match <- countRun' lo (sz - lo) with
 | some n=>
  if n < mr then
   liftM (rule "list.sort.binary-insertion")
   let q <- binarySort' lo (min (sz - lo) mr) n
   if (!q)=true then pure (.done (some (),lo)) else jn sz lo (min (sz - lo) mr)
  else jn sz lo n
 | _=>pure (.done (some (),lo))
def xC (sz:Nat):StateT SortSt Sem (Option Unit × Unit):=forIn [0:sz] ((none,()):Option Unit × Unit) fun _ _=>do
 let z <- get
 if (pendingOf z).size<=1 then pure (.done (none,())) else do
  let q <- mergeAt' (if ((if (pendingOf z).size - 2 > 0 then (pendingOf z)[(pendingOf z).size - 2 - 1]?.map (·.2.1) else none).any (· < ((pendingOf z)[(pendingOf z).size - 2+1]?.elim 0 (·.2.1))))=true then (pendingOf z).size - 2 - 1 else (pendingOf z).size - 2)
  if (!q)=true then pure (.done (some (),())) else pure (.yield (none,()))
theorem af2:sortRuns'=(do
 let z <- get
 let r <- (forIn [0:(arrOf z).size] ((none,0):RS) fun _ r=>xB (arrOf z).size (minRun' (arrOf z).size (arrOf z).size 0) r.2)
 match r.1 with
 | some u=>pure u
 | none=>do
  let q <- xC (arrOf z).size
  match q.1 with
  | some u=>pure u
  | none=>pure ()):=by kernel_rfl
theorem xD {lo nn:Nat} (n1:0 < nn) {pd:Array (Nat × Nat × Nat)}{a:Array Keyed} (r:Rn rk a (sk pd) lo) (u:Up rk a lo (lo+nn)):Rn rk a (sk (pd.push (lo,nn,0))) (lo+nn):=by
 have e:sk (pd.push (lo,nn,0))=sk pd ++ [(lo,nn)]:=by simp [sk]
 refine⟨by rw [e]; exact r.ch.join ⟨rfl,n1,rfl⟩,fun q hq=>?_⟩
 rw [e] at hq
 rcases ax5.mp hq with z | z
 ·exact r.up q z
 ·rw [av2] at z
  subst z
  exact u
theorem xE (c:bL prog w A E s κ Ok rk) (o:aX Ok a0) (b:SB κ a0 pd st) {lo n:Nat}{Q:ForInStep RS->SortSt->Prop} (n1:1<=n) (n2:lo+n<=a0.size) (rn:Rn rk (arrOf st) (sk pd) lo) (u:Up rk (arrOf st) lo (lo+n))
  (h:∀ pd' st',SB κ a0 pd' st'->Rn rk (arrOf st') (sk pd') (lo+n)->Q (.yield (none,lo+n)) st'):wpS (model prog w) A E s (jn a0.size lo n) Q st:=by
 unfold jn
 refine av3 (wpS_get ?_)
 rw [b.pd]
 cases hb:pd.back? with
 | none=>exact av3 (wpS_modify (av9 (h (pd.push (lo,n,0)) _ ⟨b.pm,b.kd,b.ok,by show (pendingOf st).push _=_; rw [b.pd]⟩ (xD n1 rn u))))
 | some q=>
  obtain ⟨s1,m1,q3⟩:=q
  dsimp only
  generalize power' a0.size (2 * s1+m1) (2 * s1+m1+m1+n) a0.size=pw
  unfold xA
  refine av3 (aG7 (aA6
   (I:=fun _ r st'=>r=(none,())/\∃ pd,SB κ a0 pd st'/\Rn rk (arrOf st') (sk pd) lo/\Up rk (arrOf st') lo (lo+n))
   (Q:=fun r st'=>r=(none,())/\∃ pd,SB κ a0 pd st'/\Rn rk (arrOf st') (sk pd) lo/\Up rk (arrOf st') lo (lo+n)) ?_ (fun _ _ z=>z) ⟨rfl,pd,b,rn,u⟩) ?_)
  ·rintro t r st4 _ ht ⟨rfl,pd4,b4,r4,u4⟩
   refine av3 (wpS_get ?_)
   rw [b4.pd]
   cases ho:(if pd4.size > 1 then pd4[pd4.size - 2]? else none) with
   | none=>exact av9 ⟨rfl,pd4,b4,r4,u4⟩
   | some z=>
    obtain ⟨z1,z2,z3⟩:=z
    have h1:pd4.size > 1:=by
     by_cases y:pd4.size > 1
     ·exact y
     ·rw [if_neg y] at ho; cases ho
    dsimp only
    by_cases hp:z3<=pw
    ·rw [if_pos hp]
     exact av9 ⟨rfl,pd4,b4,r4,u4⟩
    ·rw [if_neg hp]
     refine av3 (x9 c o b4 (by omega) (by omega) r4 fun pd5 st5 b5 _ r5 f5=>?_)
     exact av9 ⟨rfl,pd5,b5,r5,fun i j hi hij hj=>by rw [f5 i hi,f5 j (by omega)]; exact u4 i j hi hij hj⟩
  ·rintro r st4 ⟨rfl,pd4,b4,r4,u4⟩
   refine av3 (wpS_modify (av3 (wpS_modify (av9 ?_))))
   have e:sk (pd4.modify (pd4.size - 1) fun x=>(x.1,x.2.1,pw))=sk pd4:=by
    unfold sk
    rw [Array.toList_modify]
    apply List.ext_getElem?
    intro t
    rw [aw3,aw3,List.getElem?_modify]
    cases pd4.toList[t]? with
    | none=>simp
    | some v=>by_cases y:pd4.size - 1=t <;> simp [y]
   refine h ((pd4.modify (pd4.size - 1) fun x=>(x.1,x.2.1,pw)).push (lo,n,0)) _ ⟨b4.pm,b4.kd,b4.ok,?_⟩ (xD n1 (by rw [e]; exact r4) u4)
   show ((pendingOf st4).modify ((pendingOf st4).size - 1) fun x=>(x.1,x.2.1,pw)).push _=_
   rw [b4.pd]
theorem af3 (c:bL prog w A E s κ Ok rk) (o:aX Ok a0) (b:SB κ a0 #[] st) {Q:Unit->SortSt->Prop} (h2:1<=a0.size)
  (h:∀ st',(arrOf st').Perm a0->failedOf st'=none->Up rk (arrOf st') 0 a0.size->Q () st'):wpS (model prog w) A E s sortRuns' Q st:=by
 rw [af2]
 refine av3 (wpS_get ?_)
 rw [b.sz]
 generalize minRun' a0.size a0.size 0=mr
 refine av3 (aG7 (aA6
  (I:=fun x r st'=>∃ lo pd,r=(none,lo)/\x<=lo/\lo<=a0.size/\SB κ a0 pd st'/\Rn rk (arrOf st') (sk pd) lo)
  (Q:=fun r st'=>∃ pd,r=(none,a0.size)/\SB κ a0 pd st'/\Rn rk (arrOf st') (sk pd) a0.size) ?_ ?_ ⟨0,#[],rfl,au7 _,ay4 _,b,⟨rfl,fun r hr=>absurd hr (by simp [sk])⟩⟩) ?_)
 ·rintro x r st1 _ hx ⟨lo,pd,rfl,xl,lz,b1,rn⟩
  unfold xB
  dsimp only
  by_cases hd:lo >= a0.size
  ·rw [if_pos hd]
   have e:lo=a0.size:=by omega
   subst e
   exact av9 ⟨pd,rfl,b1,rn⟩
  ·rw [if_neg hd]
   refine av3 (ad6 c o b1 (by omega) (by omega) fun n st2 b2 n1 n2 u2 l2=>?_)
   have rn2:=rn.same l2
   dsimp only
   by_cases hmr:n < mr
   ·rw [if_pos hmr]
    refine av3 (wpS_lift (aF9 ⟨rfl,?_⟩))
    refine av3 (ad7 c o b2 (by omega) (by omega) u2 fun st3 b3 u3 l3=>?_)
    rw [if_neg (by decide)]
    exact xE c o b3 (by omega) (by omega) (rn2.same l3) u3 fun pd' st' b' r'=>⟨_,pd',rfl,by omega,by omega,b',r'⟩
   ·rw [if_neg hmr]
    exact xE c o b2 n1 (by omega) rn2 u2 fun pd' st' b' r'=>⟨lo+n,pd',rfl,by omega,by omega,b',r'⟩
 ·rintro r st1 ⟨lo,pd,rfl,xl,lz,b1,rn⟩
  have e:lo=a0.size:=by omega
  subst e
  exact⟨pd,rfl,b1,rn⟩
 ·rintro r st1 ⟨pd,rfl,b1,rn⟩
  dsimp only
  unfold xC
  refine av3 (aG7 (aA6
   (I:=fun t r st'=>r=(none,())/\∃ pd,SB κ a0 pd st'/\Rn rk (arrOf st') (sk pd) a0.size/\(pd.size+t<=a0.size ∨ pd.size<=1))
   (Q:=fun r st'=>r=(none,())/\∃ pd,SB κ a0 pd st'/\Rn rk (arrOf st') (sk pd) a0.size/\pd.size<=1) ?_ ?_ ⟨rfl,pd,b1,rn,.inl (by have:=rn.ch.len; rw [nO] at this; omega)⟩) ?_)
  ·rintro t r st2 _ ht ⟨rfl,pd,b2,rn2,pr⟩
   refine av3 (wpS_get ?_)
   rw [b2.pd]
   by_cases h1:pd.size<=1
   ·rw [if_pos h1]
    exact av9 ⟨rfl,pd,b2,rn2,h1⟩
   ·rw [if_neg h1]
    refine av3 (x9 c o b2 ?_ (au7 _) rn2 fun pd' st3 b3 sz3 rn3 _=>?_)
    ·split <;> split <;> omega
    ·exact av9 ⟨rfl,pd',b3,rn3,by omega⟩
  ·rintro r st2 ⟨rfl,pd,b2,rn2,pr⟩
   exact⟨rfl,pd,b2,rn2,by omega⟩
  ·rintro r st2 ⟨rfl,pd,b2,rn2,pr⟩
   refine av9 (h st2 b2.pm b2.ok ?_)
   have ch:=rn2.ch
   have up:=rn2.up
   rw [<- nO] at pr
   cases e:sk pd with
   | nil=>rw [e] at ch; exact absurd (show 0=a0.size from ch) (by omega)
   | cons r l=>
    rw [e] at ch up pr
    have el:l = []:=List.eq_nil_of_length_eq_zero (by have:=pr; rw [aA8] at this; omega)
    subst el
    obtain ⟨p,n⟩:=r
    obtain ⟨q1,q2,q3⟩:=ch
    have q1:p=0:=q1
    have q3:0+n=a0.size:=q3
    subst q1
    have:=up (0,n) (by simp)
    rw [<- q3]; exact this
end SO
namespace L2
open PySem PySem.Spec PyProof.Rows SO
abbrev dI (h:Heap) (a:Addr) (vs:List Value):Heap:=((h.update a (Obj.mapSeq fun _=>#[])).push (seqObj "tuple" vs.toArray 0)).push (seqObj "list" #[] 0)
abbrev dS (h:Heap) (vs:List Value):Heap:=((h.push (seqObj "list" #[] 0)).update h.objs.size (Obj.mapSeq (· ++ vs.toArray))).push (seqObj "list" vs.toArray 0)
theorem af4 {h:Heap}{vs:List Value}{b:Addr}{o:Obj} (e:h.get? b=some o):(dS h vs).get? b=some o:=by
 have l:=aw2 e
 refine au6 _ ?_
 rw [Heap.get?_update_ne _ _ _ _ (ay1 l)]
 exact au6 _ e
theorem af5 {h:Heap}{vs:List Value}{a b:Addr}{o:Obj} (hb:b ≠ a) (e:h.get? b=some o):(dI h a vs).get? b=some o:=by
 refine au6 _ (au6 _ ?_)
 rw [Heap.get?_update_ne _ _ _ _ hb]; exact e
theorem af6 {prog:Program}{w:World}{A:Around}{E:Value->Shared->Prop}{s:Shared}{a:Addr}{vs:List Value}{n:Nat}{P:PySem.Fin->Shared->Prop}{κ:SortKind}{Ok:Keyed->Prop}{rk:Keyed->Int}
  (e:s.heap.get? a=some (seqObj "list" vs.toArray n)) (h2:2<=vs.length) (big:vs.length<=sizeLine)
  (hk:∀ Q:SortKind->Shared->Prop,Q κ { s with heap:=dI s.heap a vs }->wpAny (model prog w) A (keyKind' vs.toArray) Q E { s with heap:=dI s.heap a vs })
  (c:bL prog w A E { s with heap:=dI s.heap a vs } κ Ok rk) (o:∀ v ∈ vs,Ok (v,v))
  (q:∀ out:List Value,out.Perm vs->out.Pairwise (fun u v=>rk (u,u)<=rk (v,v))->P (.done (.ret .none)) { s with heap:=sortedHeap s.heap a vs out.toArray }):wpAny (model prog w) A (Builtin.«list.sort» ⟨[.ref a],[]⟩) P E s:=by
 have la:=aw2 e
 have cc : ¬ vs.toArray.size < 2:=by simpa using h2
 obtain ⟨k,ek⟩:∃ k,(s.heap.update a (Obj.mapSeq fun _=>#[])).get? a=some (seqObj "list" #[] k):=⟨_,get?_update_seq e fun _=>#[]⟩
 have there:(dI s.heap a vs).get? a=some (seqObj "list" #[] k):=au6 _ (au6 _ ek)
 rw [list_sort_plain]
 apply au5
 apply listItems_at e rfl
 apply au5
 refine listUpdate_at e rfl ?_ (by simpa using big) (ay4 _)
 apply au5
 apply seqEpoch_at ek rfl
 apply au5
 refine wpAny_newTuple ?_ big
 apply au5
 refine wpAny_newList ?_ (ay4 _)
 apply aG8
 simp only [cc,aA3]
 apply au5
 refine hk _ ?_
 have zl:(vs.toArray.zip vs.toArray).toList=vs.zip vs:=by simp
 apply au5
 refine aC6 (af3 (a0:=vs.toArray.zip vs.toArray) (Q:=fun _ st'=>(arrOf st').Perm (vs.toArray.zip vs.toArray)/\failedOf st'=none/\Up rk (arrOf st') 0 (vs.toArray.zip vs.toArray).size) c (fun x hx=>?_) ⟨Array.Perm.refl _,rfl,rfl,rfl⟩ (by simp; omega) fun st' a1 a2 a3=>⟨a1,a2,a3⟩) ?_ fun _ _ z=>z
 ·have hx':x ∈ vs.zip vs:=by rw [<- zl]; exact Array.mem_toList_iff.mpr hx
  obtain ⟨y1,y2⟩:=mem_zip_self hx'
  have:=o x.1 y2
  have ex:x=(x.1,x.1):=Prod.ext rfl y1.symm
  rw [ex]; exact this
 ·rintro ⟨⟨⟩,st'⟩ s' ⟨rfl,pm,ok,up⟩
  have lp:(arrOf st').toList.Perm (vs.zip vs):=by rw [<- zl]; exact Array.perm_iff_toList_perm.mp pm
  have out:(arrOf st').map (·.2)=((arrOf st').toList.map (·.2)).toArray:=by apply Array.toList_inj.mp; rw [Array.toList_map]
  have op:((arrOf st').toList.map (·.2)).Perm vs:=by
   have:=lp.map (·.2)
   rw [lY] at this; exact this
  have sz:(arrOf st').size=vs.length:=by rw [pm.size_eq]; simp
  dsimp only
  apply au5
  apply seqEpoch_at there rfl
  apply au5
  refine listUpdate_at there rfl ?_ (ay4 _) (by rw [Array.size_map,sz]; exact Nat.le_succ_of_le big)
  rw [ok]
  simp only [bne_self_eq_false,aw9,aA3]
  refine au9 ?_
  have hq:=q _ op ?_
  ·rw [<- out] at hq; exact hq
  ·rw [aA5,az3]
   intro i j hi hj hij
   have hi':i < (arrOf st').size:=by simpa using hi
   have hj':j < (arrOf st').size:=by simpa using hj
   have h1:=up i j (ay4 _) (aB7 hij) (by simp; omega)
   rw [bF hi',bF hj'] at h1
   have dg:∀ x ∈ (arrOf st').toList,(x.2,x.2)=x:=fun x hx=>Prod.ext (mem_zip_self (lp.mem_iff.mp hx)).1.symm rfl
   rw [dg _ (aC1 hi),dg _ (aC1 hj)]
   simpa using h1
theorem af7 {vs vs':List Value} (h:vs.Perm vs'):∀ {xs:List V},aG xs vs->∃ xs',xs'.Perm xs/\aG xs' vs':=by
 induction h with
 | nil=>intro xs r; exact⟨xs,List.Perm.refl _,r⟩
 | cons v _ ih=>
  intro xs r
  cases r with
  | cons r t=>
   obtain ⟨xs',p,r'⟩:=ih t
   exact⟨_ :: xs',p.cons _,.cons r r'⟩
 | swap u v l=>
  intro xs r
  cases r with
  | cons r t=>cases t with
   | cons r2 t2=>exact⟨_,List.Perm.swap _ _ _,.cons r2 (.cons r t2)⟩
 | trans _ _ ih1 ih2=>
  intro xs r
  obtain ⟨x1,p1,r1⟩:=ih1 r
  obtain ⟨x2,p2,r2⟩:=ih2 r1
  exact⟨x2,p2.trans p1,r2⟩
end L2
namespace L2
open PySem PySem.Spec PyProof.Rows
section
variable {X : Cx} {pins : List (Addr × Obj)} {σ : St} {H H1 H' : Hp} {s s1 s' : Shared} {B h2 : Heap} {a C : Addr}
abbrev Cx.suite (X:Cx) (a:Addr):Cx:={ X with A:=X.A.mark (some (.ref a)),calm:=false,xe:=fun _ _=>False }
end
abbrev TB:=dA->XK->St->Hp->Prop
end L2
namespace Core
open PySem L2 PP
theorem af8 {α β:Type}{l:List α}{f:α->β}{i:Nat}{x:α} (h:l[i]? = some x):(l.take (i+1)).map f=(l.take i).map f ++ [f x]:=by
 rw [aB1,h]; simp
def kin (ws:List Int) (ls:List (Int × Int)) (S:List Int) (h:Int):Bool:=!decide (h ∈ S) && decide (ws.getD h.toNat 0<=(((vC ls h).filter fun x=>decide (x ∈ S)).length:Int))
def nextOf (ws:List Int) (ls:List (Int × Int)) (S:List Int):List Int:=((List.range ws.length).map fun (i:Nat)=>(i:Int)).filter (kin ws ls S)
def kW (ws:List Int) (ls:List (Int × Int)) (S:List Int):Nat->List Int
 | 0=>S
 | k+1=>kW ws ls S k ++ nextOf ws ls (kW ws ls S k)
def after (ws:List Int) (ls:List (Int × Int)) (S:List Int) (m:Nat):List (List Int):=(List.range m).map fun k=>nextOf ws ls (kW ws ls S k)
def dA (ws:List Int) (ls:List (Int × Int)) (ns:List Int) (m:Nat):Prop:=(∀ k < m,nextOf ws ls (kW ws ls ns k) ≠ [])/\nextOf ws ls (kW ws ls ns m) = []
theorem nP {ns:List Int}{i:Nat}{x:PV} (h:(intz ns)[i]? = some x):∃ n,x = .int n/\ns[i]? = some n:=by
 rw [aw3] at h
 cases e:ns[i]? with
 | none=>rw [e] at h; cases h
 | some n=>rw [e] at h; exact⟨n,(ax4 h).symm,rfl⟩
theorem gT {lo:Int}{n i:Nat}{x:PV} (h:(fY lo n)[i]? = some x):x = .int (lo+i)/\i < n:=by
 have hi:i < n:=by
  have:=(av4.mp h).1
  rwa [eI] at this
 rw [vW hi] at h
 exact⟨(ax4 h).symm,hi⟩
def rng (n:Nat):List Int:=(List.range n).map fun (i:Nat)=>(i:Int)
theorem af9 {α:Type}{l:List α}{p:α->Bool}{i:Nat}{x:α} (h:l[i]? = some x):(l.take (i+1)).filter p=(l.take i).filter p ++ (if p x=true then [x] else []):=by
 rw [aB1,h,List.filter_append]
 congr 1
 cases e:p x <;> simp [e]
theorem gU (a b:List Int):intz (a ++ b)=intz a ++ intz b:=ay5
theorem b8 (a:List Int):(intz a).length=a.length:=au8 _
def bJ (ws:List Int) (ls:List (Int × Int)):PV:=.tup [.tup (intz ws),.tup (ls.map fun l=>.tup [.int l.1,.int l.2])]
structure Wb (ws:List Int) (ls:List (Int × Int)):Prop where
 few:ws.length<=40
 most:ls.length<=1700
 links:∀ l ∈ ls,(0<=l.1/\l.1 < ws.length)/\0<=l.2/\l.2 < ws.length
def dJ (x:PV) (ns:List Int):Prop:=x = .tup (intz ns) ∨ x = .lst (intz ns)
theorem dJ.seq {x:PV}{ns:List Int} (h:dJ x ns):fX x=some (intz ns):=by rcases h with rfl | rfl <;> rfl
theorem dJ.seqT {x:PV}{ns:List Int} (h:dJ x ns):seqT x=some (intz ns):=by rcases h with rfl | rfl <;> rfl
theorem iG:∀ (ls:List (Int × Int)),flats (ls.map fun l=>PV.tup [.int l.1,.int l.2])=true
 | []=>rfl
 | l :: r=>by
  show (flat (.tup [.int l.1,.int l.2]) && flats (r.map fun l=>PV.tup [.int l.1,.int l.2]))=true
  rw [iG r]; rfl
theorem ag0 (ws:List Int) (ls:List (Int × Int)):flat (bJ ws ls)=true:=by
 show flats [.tup (intz ws),.tup (ls.map fun l=>PV.tup [.int l.1,.int l.2])]=true
 show (flat (.tup (intz ws)) && (flat (.tup (ls.map fun l=>PV.tup [.int l.1,.int l.2])) && true))=true
 show (flats (intz ws) && (flats (ls.map fun l=>PV.tup [.int l.1,.int l.2]) && true))=true
 rw [cQ,iG]; rfl
theorem xF (ns:List Int):flat (.tup (intz ns))=true:=cQ ns
def nQ:bK:=fun xs Q=>∃ ws ls,xs = [bJ ws ls]/\Q (.int ws.length)
def xG:aQ:=(bY (aD cR (a7 (bR (a6 0) (qC (.int 0))) aA)))
abbrev cY (t:aQ) (N:List Str) (p:bK):Prop:=∀ xs Q,p xs Q->t { nx:=fun _=>Q .non,rt:=Q } (fI N xs)
theorem ag1:cY xG ["web"] nQ:=by
 rintro xs Q ⟨ws,ls,rfl,q⟩
 refine⟨_,rfl,_,_,_,rfl,rfl,rfl,_,_,rfl,rfl,trivial,?_⟩
 rw [b8]; exact q
def inB (n:Nat) (x:Int):Bool:=decide (0<=x) && decide (x < (n:Int))
theorem ag2 {x:PV}{ns:List Int} (h:dJ x ns):(Slot.sh (flat x) x).tag = .rd->flat x=true:=by
 cases flat x <;> intro z <;> cases z
theorem dJ.noscr {x:PV}{ns:List Int} (h:dJ x ns):∀ ms,([x]:List PV) ≠ [.scr ms]:=by
 rcases h with rfl | rfl <;> intro ms z <;> cases z
structure DS (ps:List (aH × PV)) (S:List Int):Prop where
 has:∀ i:Int,(mM ps (Sum.inl i:aH)).isSome=decide (i ∈ S)
 len:ps.length<=S.length
 fl:flats (ps.map (·.2))=true
section
variable {κ : Type} [DecidableEq κ]
theorem ag3 (kvs:List (κ × PV)) (k:κ) (v:PV):(dR kvs k v).length<=kvs.length+1:=by
 unfold dR
 split
 ·rw [au8]; omega
 ·rw [aw4,aA8,List.length_nil]; omega
end
theorem xH:∀ (xs:List PV),flats xs=true ↔ ∀ x ∈ xs,flat x=true
 | []=>by simp [flats]
 | x :: r=>by
  unfold flats
  rw [aE3,xH r]; simp
theorem ag4 {κ:Type} [DecidableEq κ] {ps:List (κ × PV)}{k:κ}{v:PV}{p:κ × PV} (h:p ∈ dR ps k v):p.2=v ∨ p ∈ ps:=by
 unfold dR at h
 split at h
 ·obtain ⟨q,hq,e⟩:=ax8.mp h
  split at e
  ·subst e; exact .inl rfl
  ·subst e; exact .inr hq
 ·rcases ax5.mp h with h | h
  ·exact .inr h
  ·rw [av2.mp h]; exact .inl rfl
theorem ag5 {κ:Type} [DecidableEq κ] {ps:List (κ × PV)}{k:κ}{v:PV} (h:flats (ps.map (·.2))=true) (hv:flat v=true):flats ((dR ps k v).map (·.2))=true:=by
 rw [xH] at h ⊢
 intro x hx
 obtain ⟨p,hp,rfl⟩:=ax8.mp hx
 rcases ag4 hp with e | e
 ·rw [e]; exact hv
 ·exact h _ (ax8.mpr ⟨p,e,rfl⟩)
theorem rK {ws:List Int}{h:Int} (h0:0<=h) (h1:h < (ws.length:Int)):atI (intz ws) h=some (.int (ws.getD h.toNat 0)):=by
 refine pW h0 ?_
 have:h.toNat < ws.length:=by omega
 rw [aw3,aw6,av0 this]; rfl
def tups (rs:List (List Int)):List PV:=rs.map fun r=>PV.tup (intz r)
theorem xI {rs:List (List Int)}{i:Nat}{x:PV} (h:(tups rs)[i]? = some x):∃ r,x = .tup (intz r)/\rs[i]? = some r:=by
 unfold tups at h
 rw [aw3] at h
 cases e:rs[i]? with
 | none=>rw [e] at h; cases h
 | some n=>rw [e] at h; exact⟨n,(ax4 h).symm,rfl⟩
theorem jC (rs:List (List Int)):(tups rs).length=rs.length:=au8 _
theorem rL:∀ (rs:List (List Int)),flats (tups rs)=true
 | []=>rfl
 | r :: t=>by
  show (flat (.tup (intz r)) && flats (tups t))=true
  rw [xF,rL t]; rfl
end Core
namespace PP
open PySem L2
def nR:List PV->(PV->Prop)->Prop:=fun xs Q=>∃ ys:List (List Int),xs = [.lst (ys.map fun r=>PV.tup (intz r))]/\ys.length < 64/\(∀ y ∈ ys,y ≠ [])/\∀ zs:List (List Int),zs.Perm ys->zs.Pairwise (fun u v=>HT.aY v u=false)->Q (.lst (zs.map fun r=>PV.tup (intz r)))
def nS:List PV->(PV->Prop)->Prop:=fun xs Q=>∃ ps:List (List aH × PV),xs = [.dT ps]/\Q (.lst (ps.map fun p=>PV.tup (p.1.map kP)))
end PP
namespace Core
open PySem L2 PP
theorem iH (g:Tg) (n:Int):Nw g (.int n):=by cases g <;> first | exact trivial | rfl
def fZ (x:PV) (ns:List Int):Prop:=x = .scr ns ∨ x = .lst (intz ns)
theorem fZ.seq {x:PV}{ns:List Int} (h:fZ x ns):fX x=some (intz ns):=by rcases h with rfl | rfl <;> rfl
theorem fZ.len {x:PV}{ns:List Int} (h:fZ x ns):qJ x=some ns.length:=by
 rcases h with rfl | rfl
 ·rfl
 ·show some (intz ns).length=_
  rw [b8]
def dU:bK:=fun xs Q=>∃ x ns k,xs = [x,.int k]/\fZ x ns/\0<=k/\Q (.int (ns.getD k.toNat 0))
def xJ:aQ:=(aM (cB (aW (mR (a6 1) (aD cR (a7 (a6 0) aA)))) (bY (bR (a6 0) (a6 1))) cA)
 (bY (qC (.int 0))))
theorem ag6:cY xJ ["script","k"] dU:=by
 rintro xs Q ⟨x,ns,k,rfl,hx,h0,q⟩
 refine⟨_,rfl,_,rfl,_,_,rfl,hx.len,_,_,rfl,rfl,_,rfl,?_⟩
 by_cases h:k < (ns.length:Int)
 ·rw [aw5 h]
  exact bX ⟨_,rfl,_,rfl,_,_,_,hx.seq,rfl,rK h0 h,iH _ _,q⟩
 ·rw [av7 h]
  rw [aw6,List.getElem?_eq_none (by omega)] at q
  exact bH ⟨trivial,q⟩
def c6 (ls:List (Int × Int)):List PV:=ls.map fun l=>PV.tup [.int l.1,.int l.2]
theorem nT (ls:List (Int × Int)):(c6 ls).length=ls.length:=au8 _
def gV (l m:Int × Int):Prop:=l.1 < m.1 ∨ (l.1=m.1/\l.2 < m.2)
structure fL (n:Int) (ls:List (Int × Int)) (a b:Int):Prop where
 inn:∀ l ∈ ls,0<=l.1/\l.1 < l.2/\l.2 < n
 ord:ls.Pairwise gV
 low:∀ l ∈ ls,gV l (a,b)
theorem fL.mono {n a b a' b':Int}{ls:List (Int × Int)} (h:fL n ls a b) (m:a < a' ∨ (a=a'/\b<=b')):fL n ls a' b':=
 ⟨h.inn,h.ord,fun l hl=>by have:=h.low l hl; unfold gV at *; dsimp only at *; omega⟩
theorem fL.add {n a b:Int}{ls:List (Int × Int)} (h:fL n ls a b) (h0:0<=a/\a < b/\b < n):fL n (ls ++ [(a,b)]) a (b+1):=by
 refine⟨fun l hl=>?_,?_,fun l hl=>?_⟩
 ·rcases ax5.mp hl with hl | hl
  ·exact h.inn l hl
  ·rw [av2.mp hl]; exact h0
 ·exact ay0.mpr ⟨h.ord,aA4 _ _,fun l hl m hm=>by rw [av2.mp hm]; exact h.low l hl⟩
 ·rcases ax5.mp hl with hl | hl
  ·have:=h.low l hl; unfold gV at *; dsimp only at *; omega
  ·rw [av2.mp hl]; unfold gV; dsimp only; omega
structure cC (n:Int) (ws:List Int) (ls:List (Int × Int)):Prop where
 many:(ws.length:Int)=n
 inn:∀ l ∈ ls,0<=l.1/\l.1 < l.2/\l.2 < n
 most:ls.length<=63
 ord:ls.Pairwise gV
 pos:∀ w ∈ ws,0<=w
def kX:bK:=fun xs Q=>∃ c d n m:Int,xs = [.int c,.int d,.int n,.int m]/\0<=n/\n<=8/\0 < m/\m < 1000/\∀ ws ls,cC n ws ls->Q (bJ ws ls)
def xK:aQ:=(aM (fW 4 (cW aA))
 (aM (cX (fH (a6 2)) (b7 5)
  (aM (i8 4 (bM (a6 0) (a6 3)))
  (aR 0 (cS (a6 0) (a6 3)))))
 (aM (fW 6 (cW aA))
 (aM (cX (fH (a6 2)) (b7 7)
  (cX (qN (mO (a6 7) (qC (.int 1))) (a6 2)) (b7 8)
   (aM (cB (aW (mS (bM (a6 1) (qC (.int 2))) (qC (.int 1)))) (i8 6 (dZ (a7 (a6 7) (a7 (a6 8) aA)))) cA)
   (aR 1 (cS (a6 1) (qC (.int 2)))))))
 (bY (dZ (a7 (aD gN (a7 (a6 4) aA)) (a7 (aD gN (a7 (a6 6) aA)) aA))))))))
abbrev si (n:Int):Option Slot:=some (.sh true (.int n))
theorem ag7 : cY xK ["wants_cell", "links_cell", "many", "most", "wants", "k", "links", "one", "other"] kX := by
  rintro xs Q ⟨c, d, n, m, rfl, n0, n1, m0, m1, q⟩
  refine ⟨by decide, rfl, rfl, rfl, ?_⟩
  refine ⟨_, rfl, n, rfl, by omega, by omega, fun i ρ => ∃ (c' : Int) (y : Option Slot) (ws : List Int), ρ = [si c', si d, si n, si m, some (.own (.lst (intz ws))), y, none, none, none] /\ ws.length = i /\ ∀ w ∈ ws, 0 <= w, ⟨c, none, [], rfl, rfl, fun _ h => nomatch h⟩, ?_, ?_⟩
  · rintro i y ρ hy ⟨c', y0, ws, rfl, hl, hp⟩
    obtain ⟨rfl, hi⟩ := gT hy
    refine ⟨_, rfl, _, rfl, _, rfl, _, _, rfl, rfl, m0, trivial, by rw [b8]; omega, ?_⟩
    refine ⟨_, rfl, _, rfl, _, _, rfl, rfl, ⟨m0, by omega⟩, trivial, ?_⟩
    refine ⟨c' / m, si (0 + (i : Int)), ws ++ [c' % m], ?_, by rw [aw4, hl]; rfl, fun w hw => ?_⟩
    · rw [gU]; rfl
    · rcases ax5.mp hw with hw | hw
      · exact hp w hw
      · rw [av2.mp hw]; exact aG4 _ (by omega)
  rintro ρ ⟨c', y0, ws, rfl, hl, hp⟩
  rw [eI] at hl
  refine ⟨by decide, rfl, rfl, rfl, ?_⟩
  refine ⟨_, rfl, n, rfl, by omega, by omega, fun i ρ => ∃ (d' : Int) (y z : Option Slot) (ls : List (Int × Int)), ρ = [si c', si d', si n, si m, some (.own (.lst (intz ws))), y0, some (.own (.lst (c6 ls))), y, z] /\ fL n ls i 0 /\ ls.length <= i * 7, ⟨d, none, none, [], rfl, ⟨(fun _ h => nomatch h), .nil, (fun _ h => nomatch h)⟩, ay4 _⟩, ?_, ?_⟩
  · rintro i y ρ hy ⟨d', y1, z, ls, rfl, hin, hll⟩
    obtain ⟨rfl, hi⟩ := gT hy
    refine ⟨_, rfl, _, _, rfl, rfl, _, rfl, _, _, rfl, rfl, by omega, fun j ρ => ∃ (d' : Int) (z : Option Slot) (ls : List (Int × Int)), ρ = [si c', si d', si n, si m, some (.own (.lst (intz ws))), y0, some (.own (.lst (c6 ls))), si (0 + (i : Int)), z] /\ fL n ls i (i + 1 + j) /\ ls.length <= i * 7 + j, ⟨d', z, ls, rfl, hin.mono (.inr ⟨rfl, by omega⟩), by omega⟩, ?_, ?_⟩
    · rintro j y ρ hy ⟨d2, z2, ls2, rfl, hin2, hl2⟩
      obtain ⟨rfl, hj⟩ := gT hy
      refine ⟨_, rfl, _, _, rfl, rfl, (by show (0 : Int) < 2; decide), .inl ⟨_, _, rfl, rfl, _, rfl, ?_⟩⟩
      have tail : ∀ ls3 : List (Int × Int), fL n ls3 i (i + 1 + (j + 1 : Nat)) -> ls3.length <= i * 7 + (j + 1) -> (aR 1 (cS (a6 1) (qC (.int 2)))) { nx := fun ρ => ∃ (d' : Int) (z : Option Slot) (ls : List (Int × Int)), ρ = [si c', si d', si n, si m, some (.own (.lst (intz ws))), y0, some (.own (.lst (c6 ls))), si (0 + (i : Int)), z] /\ fL n ls i (i + 1 + (j + 1 : Nat)) /\ ls.length <= i * 7 + (j + 1), rt := Q }
          [si c', si d2, si n, si m, some (.own (.lst (intz ws))), y0, some (.own (.lst (c6 ls3))), si (0 + (i : Int)), si (0 + (i : Int) + 1 + (j : Int))] := fun ls3 h3 h4 =>
        ⟨_, rfl, _, _, rfl, rfl, ⟨by decide, by decide⟩, trivial, _, _, ls3, rfl, h3, h4⟩
      by_cases h : d2 % 2 = 1
      · show if decide (d2 % 2 = 1) = true then _ else _
        rw [aw5 h]
        refine bX ⟨_, rfl, _, rfl, _, rfl, by show 2 <= 1000; decide, rfl, trivial, by rw [nT]; omega, ?_⟩
        have ad := hin2.add (by omega)
        have := tail (ls2 ++ [((i : Int), (i : Int) + 1 + (j : Int))]) (by have e : (i : Int) + 1 + ((j + 1 : Nat) : Int) = (i : Int) + 1 + (j : Int) + 1 := by omega
                                                                           rw [e]; exact ad) (by rw [aw4, aC9]; omega)
        unfold c6 at this
        rw [ay5] at this
        rw [show (0 : Int) + (i : Int) = (i : Int) by omega] at this ⊢
        exact this
      · show if decide (d2 % 2 = 1) = true then _ else _
        rw [av7 h]
        exact bH (tail ls2 (hin2.mono (.inr ⟨rfl, by omega⟩)) (by omega))
    · rintro ρ ⟨d2, z2, ls2, rfl, hin2, hl2⟩
      rw [eI] at hl2
      exact ⟨d2, _, z2, ls2, rfl, hin2.mono (.inl (by omega)), by omega⟩
  rintro ρ ⟨d', y1, z, ls, rfl, hin, hll⟩
  rw [eI] at hll
  refine ⟨_, rfl, ⟨_, _, rfl, rfl, cQ _, _, rfl, ⟨_, _, rfl, rfl, iG _, by show 2 <= 1000; decide, ?_, trivial, q ws ls ⟨by omega, hin.inn, by omega, hin.ord, hp⟩⟩, fun ns z => by cases z⟩, fun ns z => by cases z⟩
  show (flat (.tup (intz ws)) && (flat (.tup (c6 ls)) && true)) = true
  rw [xF]
  show (true && (flats (c6 ls) && true)) = true
  rw [show flats (c6 ls) = true from iG ls]; rfl
def nU:bK:=fun xs Q=>∃ i,xs = [.int i]/\Q (.bl true)
def xL (K:PySem.W.Frag):aQ:=(bY (qA (iA K "int" (a6 0)) (qB (iA K "bool" (a6 0)))))
theorem dJ.len {x:PV}{ns:List Int} (h:dJ x ns):qJ x=some ns.length:=by
 rcases h with rfl | rfl <;> (show some (intz ns).length=_; rw [b8])
theorem ag8 {K:PySem.W.Frag} (k1:PySem.W.kitOne K (.type "int") (.type "int")=some true) (k2:PySem.W.kitOne K (.type "int") (.type "bool")=some false):cY (xL K) ["found"] nU:=by
 rintro xs Q ⟨i,rfl,q⟩
 exact⟨_,rfl,_,_,rfl,k1,_,rfl,bX ⟨_,rfl,_,_,rfl,k2,_,rfl,trivial,q⟩⟩
end Core
namespace PP
open PySem L2 PyProof.Rows
section
variable {X : Cx} {a b e : Expr} {ta tb te : aB} {tr : bU} {pos p2 p3 pos2 : Pos}
theorem ag9:dP X nS (fun xs H Q=>∃ a kvs,xs = [.ref a]/\H a=some (.dT kvs)/\∀ l ys,H l=none->Paired (m3 H) ys (kvs.map (·.1))->Q (.ref l) (upd H l (.lst ys))):=by
 rintro H vs xs Q Q' r ⟨ps,rfl,q⟩ k
 obtain ⟨v,rfl,r1⟩:=r.one
 cases r1 with
 | @dT a kvs _ m h e r2=>
  refine⟨a,kvs,rfl,h,fun l ys hl pr=>k _ _ _ (aT hl _) (.lst hl aZ ?_) q⟩
  have kv:∀ (k:List aH),Reps X.K (fun a=>H a=none) H (k.map kV) (k.map kP):=fun k=>by
   induction k with
   | nil=>exact .nil
   | cons a r ih=>exact .cons (by cases a <;> constructor) ih
  have go:∀ {ys:List V}{ks:List (List aH)},Paired (m3 H) ys ks->Reps X.K (fun a=>H a=none) H ys (ks.map fun k=>PV.tup (k.map kP)):=fun {ys ks} pr=>by
   induction pr with
   | nil=>exact .nil
   | cons h t ih=>
    obtain ⟨q,rfl,hq⟩:=h
    exact .cons (.tup hq (kv _)) ih
  have e2:(ps.map fun p=>PV.tup (p.1.map kP))=(kvs.map (·.1)).map fun k=>PV.tup (k.map kP):=by rw [e,List.map_map]; rfl
  rw [e2]
  exact (go pr).same (aT hl _) fun _ z=>z
theorem ah0 (B:Bt X.mg) (hc:X.calm=true) (ha:QA X [e] tr) (hg:Gl X "list":=by rfl) (he:starEach [e] X.env=(false,eval e X.env) :: starEach [] X.env:=by rfl) (hpl:(backTo pos (starEach [] X.env)).any (·.1)=false:=by rfl):QE X (.Call (.Name "list" p2) [e] [] pos) (aD nS tr):=
 qT (T7 hc) ag9 hg B.list PyProof.Rows.boot_list ha (he:=he) (hpl:=hpl)
def jD:V->Int
 | .int i=>i
 | _=>0
def iI (H:Hp):V->List Int
 | .ref a=>match H a with
  | some (.tup us)=>us.map jD
  | _=>[]
 | _=>[]
theorem ah1 {H:Hp}{a:Addr}{ns:List Int} (h:H a=some (.tup (ns.map V.int))):iI H (.ref a)=ns:=by
 show (match H a with | some (.tup us)=>us.map jD | _=>[])=ns
 rw [h]
 show (ns.map V.int).map jD=ns
 rw [List.map_map]
 exact List.map_id _
theorem xM {K:PySem.W.Frag}{M:Addr->Prop}{H:Hp}:∀ {us:List V}{ys:List (List Int)},Reps K M H us (ys.map fun r=>PV.tup (intz r))->us.map (iI H)=ys/\∀ u ∈ us,∃ b,u = .ref b/\H b=some (.tup ((iI H u).map V.int))
 | _,[],.nil=>⟨rfl,fun u h=>nomatch h⟩
 | _,y :: ys,.cons r t=>by
  obtain ⟨a,us,rfl,h,r1⟩:=r.sqT
  obtain rfl:=r1.ofInts
  obtain ⟨h1,h2⟩:=xM t
  have hk:=ah1 h
  refine⟨by rw [az0,h1,hk],fun u hu=>?_⟩
  rcases av8.mp hu with rfl | hu
  ·exact⟨a,rfl,by rw [hk]; exact h⟩
  ·exact h2 u hu
theorem xN {K:PySem.W.Frag}{M:Addr->Prop}{H:Hp}:∀ {us:List V},(∀ u ∈ us,∃ b,u = .ref b/\H b=some (.tup ((iI H u).map V.int)))->Reps K M H us ((us.map (iI H)).map fun r=>PV.tup (intz r))
 | [],_=>.nil
 | u :: us,h=>by
  obtain ⟨b,rfl,hb⟩:=h u av5
  exact .cons (.tup hb (Reps.intz _)) (xN fun v hv=>h v (av1 _ hv))
theorem ah2:dP X nR (v9 X.K):=by
 rintro H vs xs Q Q' r ⟨ys,rfl,hl,hne,q⟩ k
 obtain ⟨v,rfl,r1⟩:=r.one
 obtain ⟨a,us,rfl,_,h,r2⟩:=r1.sqL
 obtain ⟨h1,h2⟩:=xM r2
 have lr:=r2.length
 rw [au8] at lr
 refine⟨a,us,iI H,rfl,aI.of h,by omega,fun y hy=>?_,fun l zs hl' pm so=>?_⟩
 ·obtain ⟨b,rfl,hb⟩:=h2 y hy
  refine⟨b,rfl,aC.of hb,hne _ ?_⟩
  rw [<- h1]; exact ax8.mpr ⟨_,hy,rfl⟩
 ·have hz:∀ u ∈ zs,∃ b,u = .ref b/\H b=some (.tup ((iI H u).map V.int)):=fun u hu=>h2 u (pm.mem_iff.mp hu)
  refine k _ _ _ (aT hl' _) (.lst hl' aZ ((xN hz).same (aT hl' _) fun _ z=>z)) (q _ ?_ ?_)
  ·rw [<- h1]; exact pm.map _
  ·rw [aA5]; exact so
theorem ah3 (B:Bt X.mg) (ha:QA X [e] tr) (hg:Gl X "sorted":=by rfl) (he:starEach [e] X.env=(false,eval e X.env) :: starEach [] X.env:=by rfl) (hpl:(backTo pos (starEach [] X.env)).any (·.1)=false:=by rfl):QE X (.Call (.Name "sorted" p2) [e] [] pos) (aD nR tr):=
 gR S9 ah2 hg B.sorted PyProof.Rows.boot_sorted ha (he:=he) (hpl:=hpl)
end
section
variable {P : Program} {w : World} {K : PySem.W.Frag} {mg : Str → Option Value} {base : Heap} {f : Addr} {fd : FuncData} {k : Nat}
theorem m5 {M:Addr->Prop}{H:Hp}:∀ {us:List V}{ls:List (Int × Int)},Reps K M H us (ls.map fun l=>PV.tup [.int l.1,.int l.2])->c9 H us ls
 | _,[],.nil=>.nil
 | _,l :: ls,.cons r t=>by
  obtain ⟨a,us,rfl,h,r1⟩:=r.sqT
  obtain ⟨u1,u2,rfl,q1,q2⟩:=r1.two
  cases q1; cases q2
  exact .cons ⟨a,rfl,h⟩ (m5 t)
theorem ah4 {M:Addr->Prop}{H:Hp}{v:V}{ws:List Int}{ls:List (Int × Int)} (r:aE K M H v (Core.bJ ws ls)):vB H v ws ls:=by
 obtain ⟨a,us,rfl,h,r1⟩:=aE.sqT r
 obtain ⟨u1,u2,rfl,q1,q2⟩:=r1.two
 obtain ⟨p,up,rfl,hp,rp⟩:=q1.sqT
 obtain ⟨q,uq,rfl,hq,rq⟩:=q2.sqT
 obtain rfl:=rp.ofInts
 exact⟨a,p,q,uq,rfl,h,hp,hq,m5 rq⟩
end
end PP
namespace Core
open PySem L2 PP
def two (l:Int × Int):List Int:=[l.1,l.2]
def kY (r:List Int):Int × Int:=(r.getD 0 0,r.getD 1 0)
theorem xO (ls:List (Int × Int)):c6 ls=(ls.map two).map fun r=>PV.tup (intz r):=by
 unfold c6
 rw [List.map_map]; rfl
theorem ah5 {zs:List (List Int)}{ls:List (Int × Int)} (h:zs.Perm (ls.map two)):∃ ls':List (Int × Int),zs=ls'.map two/\ls'.Perm ls:=by
 refine⟨zs.map kY,?_,?_⟩
 ·rw [List.map_map]
  have:∀ z ∈ zs,(two ∘ kY) z=z:=fun z hz=>by
   obtain ⟨l,_,rfl⟩:=ax8.mp (h.mem_iff.mp hz)
   rfl
  rw [List.map_congr_left this,List.map_id']
 ·have:=h.map kY
  rw [List.map_map] at this
  have e:ls.map (kY ∘ two)=ls:=by
   have:∀ l ∈ ls,(kY ∘ two) l=id l:=fun l _=>rfl
   rw [List.map_congr_left this,List.map_id]
  rw [e] at this
  exact this
theorem ah6 {ls:List (Int × Int)} (so:(ls.map two).Pairwise fun u v=>HT.aY v u=false) (nd:ls.Nodup):ls.Pairwise gV:=by
 rw [aA5] at so
 refine (List.pairwise_and_iff.mpr ⟨so,nd⟩).imp fun {a b} h=>?_
 obtain ⟨h1,h2⟩:=h
 unfold two at h1
 rw [HT.eR] at h1
 unfold gV
 by_cases e:b.1=a.1
 ·rw [if_pos e,HT.eR] at h1
  by_cases e2:b.2=a.2
  ·exact absurd (Prod.ext e.symm e2.symm) h2
  ·rw [if_neg e2] at h1
   have:=aF7 h1
   omega
 ·rw [if_neg e] at h1
  have:=aF7 h1
  omega
theorem cC.perm {n:Int}{ws:List Int}{ls ls':List (Int × Int)} (h1:(ws.length:Int)=n) (h2:∀ l ∈ ls,0<=l.1/\l.1 < l.2/\l.2 < n) (h3:ls.length<=63) (nd:ls.Nodup) (h4:∀ w ∈ ws,0<=w) (p:ls'.Perm ls) (so:(ls'.map two).Pairwise fun u v=>HT.aY v u=false):cC n ws ls':=
 ⟨h1,fun l hl=>h2 l (p.mem_iff.mp hl),by rw [p.length_eq]; exact h3,ah6 so (p.nodup_iff.mpr nd),h4⟩
theorem xP (ws:List Int) (ls:List (Int × Int)):flats [.tup (intz ws),.tup (c6 ls)]=true:=ag0 ws ls
def ah7:bK:=fun xs Q=>∃ x ns n wy,xs = [x,.int n,.int wy]/\fZ x ns/\ns.length<=63/\0<=n/\n<=40/\∀ ws ls,cC n ws ls->Q (bJ ws ls)
def xQ:aQ:=(aM (fW 3 (cW aA))
 (aM (cX (fH (a6 1)) (b7 4)
  (aM (aR 5 (aD dU (a7 (a6 0) (a7 (a6 4) aA))))
  (i8 3 (bR (cW (a7 (bM (cS (a6 5) (qC (.int 5))) (qC (.int 4))) (a7 (bM (cS (a6 5) (qC (.int 5))) (qC (.int 3))) (a7 (bM (cS (a6 5) (qC (.int 5))) (qC (.int 6))) (a7 (bM (cS (a6 5) (qC (.int 5))) (qC (.int 61))) aA))))) (bM (a6 2) (qC (.int 4)))))))
 (aM (fW 6 (qC (.dT [])))
 (aM (cX (cI (a6 0)) (b7 5)
  (cB (aW (j7 (a6 1) (qC (.int 1)))) (aM (aR 7 (bM (a6 5) (a6 1)))
   (aM (aR 8 (bM (cS (bM (w9 (bM (a6 5) (qC (.int 1000000007))) (qC (.int 48271))) (qC (.int 2147483647))) (qC (.int 89))) (a6 1)))
   (cB (aW (kE (a6 7) (a6 8))) (mN 6 (dZ (a7 (aD mG (a7 (a6 7) (a7 (a6 8) aA))) (a7 (aD mH (a7 (a6 7) (a7 (a6 8) aA))) aA))) (qC (.bl true))) cA))) cA))
 (bY (dZ (a7 (aD gN (a7 (a6 3) aA)) (a7 (aD gN (a7 (aD nR (a7 (aD nS (a7 (a6 6) aA)) aA)) aA)) aA))))))))
def ah8:aQ:=(aM (cB (mB (aW (mS (bM (cS (a6 2) (qC (.int 4))) (qC (.int 2))) (qC (.int 1)))) (aW (mR (a6 1) (qC (.int 9))))) (bY (aD kX (a7 (aD dU (a7 (a6 0) (a7 (qC (.int 0)) aA))) (a7 (aD dU (a7 (a6 0) (a7 (qC (.int 1)) aA))) (a7 (a6 1) (a7 (bR (cW (a7 (qC (.int 4)) (a7 (qC (.int 3)) (a7 (qC (.int 6)) (a7 (qC (.int 61)) aA))))) (bM (a6 2) (qC (.int 4)))) aA)))))) cA)
 xQ)
theorem ah9 {a b c d:PV}{i:Int} (h0:0<=i) (h1:i < 4):∃ z,atI [a,b,c,d] i=some z/\(z=a ∨ z=b ∨ z=c ∨ z=d):=by
 have:i=0 ∨ i=1 ∨ i=2 ∨ i=3:=by omega
 rcases this with rfl | rfl | rfl | rfl
 ·exact⟨a,rfl,.inl rfl⟩
 ·exact⟨b,rfl,.inr (.inl rfl)⟩
 ·exact⟨c,rfl,.inr (.inr (.inl rfl))⟩
 ·exact⟨d,rfl,.inr (.inr (.inr rfl))⟩
theorem xR {a b c d:Int}{i:Int} (h0:0<=i) (h1:i < 4):∃ z:Int,atI [PV.int a,PV.int b,PV.int c,PV.int d] i=some (.int z)/\(z=a ∨ z=b ∨ z=c ∨ z=d):=by
 obtain ⟨z,h,e⟩:=ah9 (a:=PV.int a) (b:=PV.int b) (c:=PV.int c) (d:=PV.int d) h0 h1
 rcases e with rfl | rfl | rfl | rfl
 ·exact⟨a,h,.inl rfl⟩
 ·exact⟨b,h,.inr (.inl rfl)⟩
 ·exact⟨c,h,.inr (.inr (.inl rfl))⟩
 ·exact⟨d,h,.inr (.inr (.inr rfl))⟩
def iJ (l:Int × Int):List aH:=[Sum.inl l.1,Sum.inl l.2]
structure DL (n:Int) (ps:List (List aH × PV)) (i:Nat):Prop where
 key:∀ p ∈ ps,∃ l:Int × Int,p.1=iJ l/\0<=l.1/\l.1 < l.2/\l.2 < n
 len:ps.length<=i
 fl:flats (ps.map (·.2))=true
 nd:(ps.map (·.1)).Nodup
theorem ai0 {κ:Type} [DecidableEq κ] {ps:List (κ × PV)} (k:κ) (v:PV) (h:(ps.map (·.1)).Nodup):((dR ps k v).map (·.1)).Nodup:=by
 unfold dR
 split
 ·rw [List.map_map]
  have:((fun x:κ × PV=>x.1) ∘ fun kv:κ × PV=>if kv.1=k then (kv.1,v) else kv)=fun x=>x.1:=by
   funext x
   show (if x.1=k then (x.1,v) else x).1=x.1
   split <;> rfl
  rw [this]; exact h
 ·rename_i hn
  rw [ay5]
  refine List.nodup_append.mpr ⟨h,aA4 _ _,fun x hx y hy e=>hn ?_⟩
  obtain ⟨p,hp,rfl⟩:=ax8.mp hx
  rw [av2.mp hy] at e
  exact List.any_eq_true.mpr ⟨p,hp,aw5 e⟩
theorem ai1 {κ:Type} [DecidableEq κ] {ps:List (κ × PV)}{k:κ}{v:PV}{p:κ × PV} (h:p ∈ dR ps k v):p.1=k ∨ ∃ q ∈ ps,q.1=p.1:=by
 unfold dR at h
 split at h
 ·obtain ⟨q,hq,e⟩:=ax8.mp h
  split at e
  ·subst e; exact .inr ⟨q,hq,rfl⟩
  ·subst e; exact .inr ⟨q,hq,rfl⟩
 ·rcases ax5.mp h with h | h
  ·exact .inr ⟨p,h,rfl⟩
  ·rw [av2.mp h]; exact .inl rfl
theorem DL.put {n:Int}{ps:List (List aH × PV)}{i:Nat} (h:DL n ps i) (l:Int × Int) (hl:0<=l.1/\l.1 < l.2/\l.2 < n):DL n (dR ps (iJ l) (.bl true)) (i+1):=by
 refine⟨fun p hp=>?_,?_,ag5 h.fl rfl,ai0 _ _ h.nd⟩
 ·rcases ai1 hp with e | ⟨q,hq,e⟩
  ·exact⟨l,e,hl⟩
  ·obtain ⟨l',e',h'⟩:=h.key q hq
   exact⟨l',e ▸ e',h'⟩
 ·have:=ag3 ps (iJ l) (.bl true)
  have:=h.len
  omega
theorem DL.links {n:Int}:∀ {ps:List (List aH × PV)},(∀ p ∈ ps,∃ l:Int × Int,p.1=iJ l/\0<=l.1/\l.1 < l.2/\l.2 < n)->∃ ls:List (Int × Int),(ps.map fun p=>PV.tup (p.1.map kP))=c6 ls/\(∀ l ∈ ls,0<=l.1/\l.1 < l.2/\l.2 < n)/\ls.length=ps.length/\ps.map (·.1)=ls.map iJ
 | [],_=>⟨[],rfl,(fun _ h=>nomatch h),rfl,rfl⟩
 | p :: ps,h=>by
  obtain ⟨l,e,hl⟩:=h p av5
  obtain ⟨ls,h1,h2,h3,h4⟩:=DL.links (ps:=ps) fun q hq=>h q (av1 _ hq)
  refine⟨l :: ls,?_,fun m hm=>?_,by rw [aA8,aA8,h3],by rw [az0,az0,h4,e]⟩
  ·rw [az0,h1,e]; rfl
  ·rcases av8.mp hm with rfl | hm
   ·exact hl
   ·exact h2 m hm
theorem ai2 {x:PV}{ns:List Int} (h:fZ x ns):(Slot.sh (flat x) x).tag = .rd->flat x=true:=by
 cases flat x <;> intro z <;> cases z
theorem ai3 {x:PV}{ns:List Int}{n wy:Int}{Q:PV->Prop} (hx:fZ x ns) (hns:ns.length<=63) (n0:0<=n) (n1:n<=40) (q:∀ ws ls,cC n ws ls->Q (bJ ws ls)):ah8 { nx:=fun _=>Q .non,rt:=Q } [some (.sh (flat x) x),si n,si wy,none,none,none,none,none,none]:=by
 have d4:(0:Int) < 4:=by decide
 have last:xQ { nx:=fun _=>Q .non,rt:=Q } [some (.sh (flat x) x),si n,si wy,none,none,none,none,none,none]:=by
  refine⟨by decide,rfl,rfl,rfl,?_⟩
  refine⟨_,rfl,n,rfl,by omega,by omega,fun i ρ=>∃ (y z:Option Slot) (ws:List Int),ρ = [some (.sh (flat x) x),si n,si wy,some (.own (.lst (intz ws))),y,z,none,none,none]/\ws.length=i/\∀ w ∈ ws,0<=w,⟨none,none,[],rfl,rfl,fun _ h=>nomatch h⟩,?_,?_⟩
  ·rintro i y ρ hy ⟨y0,z0,ws,rfl,hl,hp⟩
   obtain ⟨rfl,hi⟩:=gT hy
   refine⟨_,rfl,_,rfl,x,ns,_,rfl,hx,by omega,trivial,?_⟩
   generalize ns.getD ((0:Int)+(i:Int)).toNat 0=cell
   obtain ⟨z,hz,hzz⟩:=xR (a:=cell / 5 % 4) (b:=cell / 5 % 3) (c:=cell / 5 % 6) (d:=cell / 5 % 61) (i:=wy % 4) (aG4 _ (by decide)) (Int.emod_lt_of_pos _ d4)
   refine⟨_,rfl,_,rfl,_,_,rfl,rfl,⟨by decide,by decide⟩,_,_,rfl,rfl,d4,_,rfl,_,_,rfl,rfl,⟨by decide,by decide⟩,_,_,rfl,rfl,(by show (0:Int) < 3; decide),_,rfl,_,_,rfl,rfl,⟨by decide,by decide⟩,_,_,rfl,rfl,(by show (0:Int) < 6; decide),_,rfl,_,_,rfl,rfl,⟨by decide,by decide⟩,_,_,rfl,rfl,(by show (0:Int) < 61; decide),by show 4<=1000; decide,rfl,_,rfl,_,_,rfl,rfl,d4,_,_,_,rfl,rfl,hz,iH _ _,by rw [b8]; omega,?_⟩
   refine⟨si (0+(i:Int)),si cell,ws ++ [z],?_,by rw [aw4,hl]; rfl,fun w hw=>?_⟩
   ·rw [gU]; rfl
   ·rcases ax5.mp hw with hw | hw
    ·exact hp w hw
    ·rw [av2.mp hw]
     rcases hzz with e | e | e | e <;> rw [e] <;> exact aG4 _ (by decide)
  rintro ρ ⟨y0,z0,ws,rfl,hl,hp⟩
  rw [eI] at hl
  refine⟨rfl,rfl,?_⟩
  refine⟨_,rfl,_,hx.seq,ai2 hx,fun i ρ=>∃ (y z u:Option Slot) (ps:List (List aH × PV)),ρ = [some (.sh (flat x) x),si n,si wy,some (.own (.lst (intz ws))),y0,y,some (.own (.dT ps)),z,u]/\DL n ps i,⟨z0,none,none,[],rfl,⟨(fun _ h=>nomatch h),au7 _,rfl,.nil⟩⟩,?_,?_⟩
  ·rintro i y ρ hy ⟨y1,z1,u1,ps,rfl,dl⟩
   obtain ⟨cell,rfl,hc⟩:=nP hy
   have hi:i < ns.length:=(av4.mp hc).1
   generalize kC _ _=gg
   have dl1:DL n ps (i+1):=⟨dl.key,Nat.le_succ_of_le dl.len,dl.fl,dl.nd⟩
   refine⟨_,rfl,_,_,rfl,rfl,_,rfl,?_⟩
   by_cases h1:(1:Int) < n
   ·dsimp only
    rw [aw5 h1]
    have np:(0:Int) < n:=by omega
    refine bX ⟨_,rfl,_,rfl,_,_,rfl,rfl,np,trivial,?_⟩
    refine⟨_,rfl,_,_,rfl,rfl,(by show (0:Int) < 1000000007; decide),_,_,rfl,rfl,.inr ⟨by decide,by decide⟩,_,_,rfl,rfl,(by show (0:Int) < 2147483647; decide),_,_,rfl,rfl,⟨by decide,by decide⟩,_,rfl,_,_,rfl,rfl,np,trivial,?_⟩
    dsimp only
    generalize hone:cell % n=one
    generalize hoth:cell % 1000000007 * 48271 % 2147483647 / 89 % n=oth
    have o1:0<=one/\one < n:=by rw [<- hone]; exact⟨aG4 _ (by omega),Int.emod_lt_of_pos _ np⟩
    have o2:0<=oth/\oth < n:=by rw [<- hoth]; exact⟨aG4 _ (by omega),Int.emod_lt_of_pos _ np⟩
    refine⟨_,rfl,_,rfl,.inl ⟨_,_,rfl,rfl,_,rfl,?_⟩⟩
    by_cases h2:one=oth
    ·show if (!decide (one=oth))=true then _ else _
     rw [aw5 h2]
     exact bH ⟨some (.sh (gg || true) (.int cell)),si one,si oth,ps,rfl,dl1⟩
    ·show if (!decide (one=oth))=true then _ else _
     rw [av7 h2]
     refine bX ⟨_,rfl,_,rfl,_,rfl,_,_,rfl,_,rfl,_,rfl,_,_,rfl,by show 2<=1000; decide,rfl,iJ (if oth < one then oth else one,if oth > one then oth else one),rfl,trivial,by have:=dl.len; omega,?_⟩
     refine⟨some (.sh (gg || true) (.int cell)),si one,si oth,_,rfl,dl.put _ ?_⟩
     dsimp only
     split <;> split <;> omega
   ·dsimp only
    rw [av7 h1]
    exact bH ⟨some (.sh (gg || true) (.int cell)),z1,u1,ps,rfl,dl1⟩
  rintro ρ ⟨y1,z1,u1,ps,rfl,dl⟩
  rw [b8] at dl
  obtain ⟨ls,e1,e2,e3,e4⟩:=DL.links dl.key
  have lnd:ls.Nodup:=by
   have:=dl.nd
   rw [e4] at this
   exact (aA5.mp this).imp fun h e=>h (congrArg iJ e)
  have hlen:=dl.len
  refine⟨_,rfl,⟨_,_,rfl,rfl,cQ _,_,rfl,ps,rfl,ls.map two,?_,by rw [au8]; omega,?_,fun zs pz so=>?_⟩,fun ns z=>by cases z⟩
  ·show [PV.lst (ps.map fun p=>PV.tup (p.1.map kP))]=_
   rw [e1,xO]
  ·intro y hy z
   obtain ⟨l,_,rfl⟩:=ax8.mp hy
   cases z
  obtain ⟨ls',rfl,pl⟩:=ah5 pz
  rw [<- xO]
  exact⟨⟨_,_,rfl,rfl,iG _,by show 2<=1000; decide,xP _ _,trivial,q ws ls' (cC.perm (by omega) e2 (by omega) lnd hp pl so)⟩,fun ns z=>by cases z⟩
 refine⟨_,rfl,_,_,rfl,rfl,⟨by decide,by decide⟩,_,_,rfl,rfl,(by show (0:Int) < 2; decide),.inl ⟨_,_,rfl,rfl,_,rfl,?_⟩⟩
 cases hc:(decide (wy / 4 % 2=1)) with
 | false=>exact bH (bH last)
 | true=>
  refine bX ⟨_,rfl,_,_,rfl,rfl,_,rfl,?_⟩
  by_cases h:n < 9
  ·dsimp only
   rw [aw5 h]
   obtain ⟨z,hz,e⟩:=xR (a:=4) (b:=3) (c:=6) (d:=61) (i:=wy % 4) (aG4 _ (by decide)) (Int.emod_lt_of_pos _ d4)
   refine bX ⟨_,rfl,x,ns,0,rfl,hx,by decide,_,rfl,x,ns,1,rfl,hx,by decide,_,rfl,by show 4<=1000; decide,rfl,_,rfl,_,_,rfl,rfl,d4,_,_,_,rfl,rfl,hz,_,_,n,z,rfl,n0,by omega,by omega,by omega,fun ws ls w=>⟨trivial,q ws ls w⟩⟩
  ·dsimp only
   rw [av7 h]; exact bH last
theorem ai4 (ns:List Int) {k:Int} (h:0<=k):dD (intz ns) (some k) none=intz (ns.drop k.toNat):=by
 unfold dD
 have e1:HT.aL (intz ns).length 0 (some k)=min k.toNat (intz ns).length:=by
  have:=HT.K8 (intz ns).length 0 k.toNat
  rw [show ((k.toNat:Nat):Int)=k by omega] at this
  exact this
 have e2:HT.aL (intz ns).length (intz ns).length none=(intz ns).length:=rfl
 rw [e1,e2,b8]
 rw [ay7 (by rw [List.length_drop,b8]; omega)]
 show _=List.map PV.int _
 rw [List.map_drop]
 by_cases hk:k.toNat<=ns.length
 ·rw [Nat.min_eq_left hk]
 ·rw [Nat.min_eq_right (by omega),List.drop_of_length_le (by rw [b8]; omega),List.drop_of_length_le (by rw [b8]; omega)]
def xS:bK:=fun xs Q=>∃ ns:List Int,xs = [.scr ns]/\ns.length<=63/\Q (.bl true)
structure ai5 (K:PySem.W.Frag):Prop where
 ii:PySem.W.kitOne K (.type "int") (.type "int")=some true
 ib:PySem.W.kitOne K (.type "int") (.type "bool")=some false
 tt:PySem.W.kitOne K (.type "tuple") (.type "tuple")=some true
 ll:PySem.W.kitOne K (.type "list") (.type "list")=some true
 bb:PySem.W.kitOne K (.type "bool") (.type "bool")=some true
theorem rM (K:PySem.W.Frag):ai5 K:=by
 have same:∀ n:String,PySem.W.kitMeta n=true->True:=fun _ _=>trivial
 refine⟨?_,?_,?_,?_,?_⟩
 ·unfold PySem.W.kitOne; rw [if_pos (by decide)]
 ·have e:(if PySem.W.kitMeta "bool" = true then (fastBuiltinMro "int").map (·.contains (Value.type "bool")) else none)=some false:=by decide +kernel
  unfold PySem.W.kitOne
  rw [if_neg (by decide)]
  exact e
 ·unfold PySem.W.kitOne; rw [if_pos (by decide)]
 ·unfold PySem.W.kitOne; rw [if_pos (by decide)]
 ·unfold PySem.W.kitOne; rw [if_pos (by decide)]
theorem cC.wb {n:Int}{ws:List Int}{ls:List (Int × Int)} (h:cC n ws ls) (hn:n<=40):Wb ws ls:=
 ⟨by have:=h.many; omega,by have:=h.most; omega,fun l hl=>by have:=h.inn l hl; have:=h.many; omega⟩
end Core
namespace PP
open PySem L2 PyProof.Rows
theorem ai6 {P:Program}{w:World}{K:PySem.W.Frag}{mg:Str->Option Value}{base:Heap}{k:Nat}{x:Str}{ps N:List Str}{p:bK}{st:Stmt}{f:Addr}{fd:FuncData} (F:eV K x x st f fd) (S:FnScope N ps (aU st))
  (len:∀ xs Q,p xs Q->xs.length=ps.length)
  (body:∀ (cdv:Value) (A:Around) (outer:List Env) (s:Shared) (H:Hp) (E:XK),bT k (A.deeper (envOfC x (aU st) s.heap.objs.size f cdv))->
   ∃ t,eJ (fQ cV P w K mg base N x (aU st) f cdv A outer s H E).nox (eC st) t/\∀ xs Q,p xs Q->t { nx:=fun _=>Q .non,rt:=Q } (fI N xs)):cG P w K mg base cV (k+1) f fd ps (kB K p):=by
 refine F.ok S (fun vs H Q E h=>?_) (fun cdv A outer s H vs Q E hr h=>?_)
 ·obtain ⟨xs,Qp,r,q,_⟩:=h
  rw [r.length]; exact len xs Qp q
 ·obtain ⟨xs,Qp,r,q,k⟩:=h
  obtain ⟨t,ht,hq⟩:=body cdv A outer s H E hr
  refine⟨_,ht,fun _=>False,fI N xs,_,wM r,hq xs Qp q,?_,?_,?_,?_⟩
  ·exact fun W' σ' H' ρ' e px q=>k _ _ _ px.same .non q
  ·exact fun v H' x s r q=>k _ _ _ s r q
  ·exact fun W' σ' H' ρ' e px q=>q
  ·exact fun W' σ' H' ρ' e px q=>q
def nV (K:PySem.W.Frag):Sp:=fun vs H Q _=>∃ (a:Addr) (ns:List Int),vs = [.ref a]/\fV K H a ns/\ns.length<=63/\∀ H',Q (.bl true) H'
theorem ai7 {P:Program}{w:World}{K:PySem.W.Frag}{mg:Str->Option Value}{base:Heap}{k:Nat}{f:Addr}{fd:FuncData} (F:cG P w K mg base cV k f fd ["script"] (kB K Core.xS)):cG P w K mg base cV k f fd ["script"] (nV K):=
 F.imp fun vs H Q E h=>by
  obtain ⟨a,ns,rfl,hs,hl,q⟩:=h
  refine⟨[.scr ns],fun z=>z = .bl true,.cons (.scr hs) .nil,⟨ns,rfl,hl,rfl⟩,?_⟩
  rintro v H' x _ r rfl
  cases r
  exact q H'
theorem ai8 {K:PySem.W.Frag}{H:Hp}{a:Addr}{ns:List Int} (hO:lP H) (h:aI K H a (ns.map V.int)):fV K H a ns:=by
 rcases h with (h | ⟨o,h⟩) | h
 ·rcases hO a with e | ⟨o,xs,e⟩ <;> (rw [h] at e; cases e)
 ·exact .inl ⟨o,h⟩
 ·exact .inr h
end PP
namespace PyProof.Rows
open PySem
end PyProof.Rows
namespace PP
open PySem L2 PyProof.Rows
section
variable {X : Cx} {a b e : Expr} {ta tb te : aB} {tr : bU} {pos p2 : Pos}
def xT:PV->Tg->PV->Tg->PK->Prop:=fun x _ y _ Q=>∃ xs ys,x = .lst xs/\y = .lst ys/\flats xs=true/\flats ys=true/\xs.length+ys.length<=16000000/\Q (.lst (xs ++ ys)) .fr
abbrev jE (ta tb:aB):aB:=q2 xT ta tb
theorem ai9:dB X xT pB:=by
 rintro W Hs H u v x y g g' Q Q' s n r1 r2 ⟨xs,ys,rfl,rfl,f1,f2,hl,q⟩ k
 obtain ⟨a,us,rfl,_,h1,q1⟩:=r1.sqL
 obtain ⟨b,ws,rfl,_,h2,q2⟩:=r2.sqL
 have l1:=q1.length
 have l2:=q2.length
 refine⟨a,b,us,ws,rfl,rfl,h1,h2,lim (by omega),fun p hp=>k _ _ _ .fr (aT hp _) (.lst (s.free hp) aZ (((q1.flat f1).append (q2.flat f2)).same (aT hp _) fun _ z=>z)) q⟩
theorem rN (ha:QE X a ta) (hb:QE X b tb):QE X (.BinOp a .Add b pos) (jE ta tb):=gO uC ai9 ha hb
end
end PP
namespace Zp
open PySem PyProof.Rows
theorem aj0 (t b:Addr) (xs ys:Array Value) (n n2:Nat) (dd dd2:Option Addr) (sl sl2:Array (Option Value)) (hx:xs.isEmpty=true):Meets (Builtin.«tuple.__add__» ⟨[.ref t,.ref b],[]⟩)
  (fun _ R s=>s.heap.get? t=some { cls:=.type "tuple",dict:=dd,data:=.seq xs n,slots:=sl }/\s.heap.get? b=some { cls:=.type "tuple",dict:=dd2,data:=.seq ys n2,slots:=sl2 }/\R (.ok (.ret (.ref b))) s):=
 .of_wp fun prog w A R s h=>by
  obtain ⟨h1,h2,h⟩:=h
  have sub:isSubtype (Value.type "tuple") (Value.type "tuple")=pure true:=rfl
  wp_walk
  exact⟨_,rfl,h⟩
end Zp
namespace L2
open PySem PySem.Spec PyProof.Rows
section
variable {X : Cx}
def xU (K:PySem.W.Frag):R2:=fun x y H Q=>∃ a b xs ys,x = .ref a/\y = .ref b/\aC K H a xs/\aC K H b ys/\xs.length+ys.length<=sizeLine/\
 (xs = []->Q (.ref b) H)/\(xs ≠ []->ys = []->Q (.ref a) H)/\(xs ≠ []->ys ≠ []->∀ p,H p=none->Q (.ref p) (upd H p (.tup (xs ++ ys))))
theorem aj1:bN X (binaryOp .Add) (xU X.K):=by
 intro pins s σ H x y v u Q I rx ry h
 obtain ⟨a,b,xs,ys,ex,ey,ha,hb,hz,q0,q1,q2⟩:=h
 by_cases hx:xs = []
 ·subst ex ey
  cases rx
  cases ry
  obtain ⟨its,r1,p1,_⟩:=I.tuple ha
  obtain ⟨its2,r2,p2,_⟩:=I.tuple hb
  have hi:its = []:=r1.nil_iff.mpr hx
  obtain ⟨⟨cls,dd,data,sl⟩,ho,hc,n,hd⟩:=id p1
  obtain ⟨⟨cls2,dd2,data2,sl2⟩,ho2,hc2,n2,hd2⟩:=id p2
  simp only at hc hd hc2 hd2
  subst hc hd hc2 hd2
  exact concat_meets ⟨_,ho,rfl⟩ ⟨_,ho2,rfl⟩ noFill_tuple_add seq_tuple_add PySem.F.slot_tuple_add PySem.F.entry_tuple_add (PySem.F.args_tuple_add_2 _ _)
   (Zp.aj0 a b its.toArray its2.toArray n n2 dd dd2 sl sl2 (by simp [hi])) ⟨ho,ho2,⟨.ref b,H,I,rfl,q0 hx⟩⟩
 ·exact M4 pins s σ H x y v u Q I rx ry ⟨a,b,xs,ys,ex,ey,ha,hb,hx,hz,q1 hx,q2 hx⟩
end
end L2
namespace PP
open PySem L2 PyProof.Rows
section
variable {X : Cx} {e : Expr} {te : aB} {pos p2 : Pos} {scope : Scope} {N : List Str} {fr : List (Option Nat)} {x y : Str} {tp xp yp : Pos} {kt : Nat} {iter elt : Expr} {ti : dQ}
abbrev rO (x y:Str) (xp yp:Pos) (kt:Nat) (tp:Pos):Expr:=.Tuple [.Name x xp,.Name y yp] kt tp
theorem aj2 {ifs:List Expr}{tcs:bO} (hc:X.calm=true) (he:∀ (s:Shared) (H:Hp) (C:Addr) (fp:List Addr),QE (bA X scope N s H C fp c8) elt te) (hi:∀ (s:Shared) (H:Hp) (C:Addr) (fp:List Addr),gJ (bA X scope N s H C fp c8) ifs (LT (bA X scope N s H C fp c8) tcs))
  (hN:N.Nodup) (h0:N[0]? = some x) (h1:N[1]? = some y) (hl:∀ (s:Shared) (H:Hp) (C:Addr) (fp:List Addr),(bA X scope N s H C fp c8).env.scope.names.lookup x=some .local) (hl2:∀ (s:Shared) (H:Hp) (C:Addr) (fp:List Addr),(bA X scope N s H C fp c8).env.scope.names.lookup y=some .local) (s:Shared) (H:Hp) :
  iR X scope N (rO x y xp yp kt tp) ifs elt s H (lE X.K 2 (hU (cO 0) (hU (cO 1) lC))) (LT (X.frm H) tcs) (LE (X.frm H) te):=
 ⟨fun C fp=>sZ (X:=bA X scope N s H C fp c8) hc (lD (hJ hN h0 (.inl (hl s H C fp)) (.inr (hl s H C fp))) (lD (hJ hN h1 (.inl (hl2 s H C fp)) (.inr (hl2 s H C fp))) sY)),fun C fp=>hi s H C fp,fun C fp=>he s H C fp⟩
theorem xV (hi:QI X (rO x y xp yp kt tp) iter ti) (he:∀ (s:Shared) (H:Hp) (C:Addr) (fp:List Addr),QE (bA X scope N s H C fp c8) elt te)
  (hc:X.calm=true:=by rfl) (S:cH X scope N fr:=by exact cH.of rfl rfl) (hN:N.Nodup:=by decide +kernel) (h0:N[0]? = some x:=by rfl) (h1:N[1]? = some y:=by rfl) (hl:∀ (s:Shared) (H:Hp) (C:Addr) (fp:List Addr),(bA X scope N s H C fp c8).env.scope.names.lookup x=some .local:=by intro _ _ _ _; rfl) (hl2:∀ (s:Shared) (H:Hp) (C:Addr) (fp:List Addr),(bA X scope N s H C fp c8).env.scope.names.lookup y=some .local:=by intro _ _ _ _; rfl) (hf:fr[0]? = some none:=by rfl) (hf2:fr[1]? = some none:=by rfl)
  (hs:∀ x,foldedSetIterable iter X.env x=pure x:=by intro _; rfl):QE X (.ListComp elt [⟨rO x y xp yp kt tp,iter,[],0⟩] scope pos) (cJ ti fr (mK 0 1) cK te):=
 bQ (pO (gh:=fun _=>lE X.K 2 (hU (cO 0) (hU (cO 1) lC))) (tch:=fun H=>LT (X.frm H) cK) (teh:=fun H=>LE (X.frm H) te) hc S hi (aj2 hc he (fun _ _ _ _=>qY) hN h0 h1 hl hl2) hs) fun _ _ _=>mL (Z3 _ 0 1) (fun i e=>by rcases e with e | e <;> (subst e; assumption))
end
section
variable {X : Cx} {a b e o f : Expr} {ta tb te td tk tx : aB} {pos p2 apos cpos : Pos} {σ : L2.St} {H : Hp} {Q' : VK}
theorem aj3 {x:Str}{n:Int}{t:Nat} (hg:Gl X x) (hm:X.mg x=some (.int n t)) (hd:(x == ("__debug__" : Str))=false:=by decide):QE X (.Name x pos) (qC (.int n)):=
 bQ (C0 (v:=.int n) hg hm ⟨t,rfl⟩ hd) fun _ _ _=>m8 fun _=>.int n
end
section
variable {X : Cx} {a b : Expr} {ta tb : aB} {pos : Pos}
def xW:PV->Tg->PV->Tg->PK->Prop:=fun x _ y _ Q=>∃ xs ys,x = .tup xs/\y = .tup ys/\flats xs=true/\flats ys=true/\xs.length+ys.length<=16000000/\Q (.tup (xs ++ ys)) .fr
abbrev nW (ta tb:aB):aB:=q2 xW ta tb
theorem aj4:dB X xW (xU X.K):=by
 rintro W Hs H u v x y g g' Q Q' s n r1 r2 ⟨xs,ys,rfl,rfl,f1,f2,hl,q⟩ k
 obtain ⟨a,us,rfl,h1,q1⟩:=r1.sqT
 obtain ⟨b,ws,rfl,h2,q2⟩:=r2.sqT
 have l1:=q1.length
 have l2:=q2.length
 refine⟨a,b,us,ws,rfl,rfl,aC.of h1,aC.of h2,lim (by omega),fun z=>?_,fun _ z=>?_,fun _ _ p hp=>k _ _ _ .fr (aT hp _) (.tup aZ (((q1.flat f1).append (q2.flat f2)).same (aT hp _) fun _ z=>z)) q⟩
 ·obtain rfl:xs = []:=by cases xs with
   | nil=>rfl
   | cons _ _=>rw [z] at l1; cases l1
  exact k _ _ _ .fr (a8.refl _) (.tup h2 (q2.flat f2)) q
 ·obtain rfl:ys = []:=by cases ys with
   | nil=>rfl
   | cons _ _=>rw [z] at l2; cases l2
  rw [aD2] at q
  exact k _ _ _ .fr (a8.refl _) (.tup h1 (q1.flat f1)) q
theorem xX (ha:QE X a ta) (hb:QE X b tb):QE X (.BinOp a .Add b pos) (nW ta tb):=gO aj1 aj4 ha hb
end
end PP
namespace Core
open PySem L2 PP
section
variable {ws : List Int} {ls : List (Int × Int)} {os ns : List Int}
def aj5 (ws:List Int) (ls:List (Int × Int)) (T:List Int):Prop:=∀ h ∈ rng ws.length,kin ws ls T h=false
end
def g6:Option Int->PV
 | none=>.non
 | some h=>.int h
theorem rP {i:Nat}{h:Int}{g:Bool}{ρ:aV}{Q:aV->Prop} (q:Q (ρ.set i (some (.sh true (.int h))))):b7 i (.int h) g ρ Q:=by
 show Q (ρ.set i (some (.sh (g || true) (.int h))))
 rw [Bool.or_true]; exact q
def aj6 (ns S:List Int):Int:=(ns.length:Int) - (((ns.filter fun x=>decide (x ∈ S)).length:Nat):Int)
def aj7 (ws:List Int) (ls:List (Int × Int)) (S:List Int) (h:Int):Bool:=decide (aj6 (vC ls h) S < ws.getD h.toNat 0)
def stay (ws:List Int) (ls:List (Int × Int)) (S:List Int):List Int:=S.filter (aj7 ws ls S)
theorem aj8 {xs:List PV}{w:Int} (h:0<=w):dD xs none (some w)=xs.take w.toNat:=by
 unfold dD
 rw [HT.K7,List.drop_zero,Nat.sub_zero]
 have:HT.aL xs.length xs.length (some w)=min w.toNat xs.length:=by
  show (if w < 0 then (w+(xs.length:Int)).toNat else min w.toNat xs.length)=_
  rw [if_neg (by omega)]
 rw [this,<- List.take_take,aC2]
theorem aj9 {n:Int}{ws:List Int}{ls:List (Int × Int)} (w:cC n ws ls) (k:Nat):0<=ws.getD k 0:=by
 rw [aw6]
 cases e:ws[k]? with
 | none=>exact aD9 _
 | some x=>exact w.pos x (ax0 e)
end Core
namespace L2
open PySem PySem.Spec PyProof.Rows
theorem xY:∀ (n:Nat) (ns:List Int),n<=ns.length->preSum (fun i=>ns.getD i 0) n=(ns.take n).sum
 | 0,_,_=>by simp [preSum]
 | n+1,ns,h=>by
  show preSum (fun i=>ns.getD i 0) n+ns.getD n 0=_
  have h1:ns[n]? = some (ns[n]'(by omega)):=av0 (by omega)
  have h2:ns.take (n+1)=ns.take n ++ [ns[n]'(by omega)]:=by rw [aB1,h1]; rfl
  have h3:ns.getD n 0=ns[n]'(by omega):=by rw [aw6,h1]; rfl
  rw [xY n ns (by omega),h2,h3,List.sum_append,List.sum_cons,List.sum_nil]
  omega
section
variable {X : Cx}
theorem ak0 (hc:X.calm=true):bS X (.builtin "sum") (fun xs H Q=>∃ (a:Addr) (ns:List Int),xs = [.ref a]/\(aI X.K H a (ns.map V.int) ∨ aC X.K H a (ns.map V.int))/\Q (.int ns.sum) H):=by
 intro pins s σ H xs us Q I r h
 obtain ⟨a,ns,rfl,hq,q⟩:=h
 obtain ⟨u,rfl,ru⟩:=eB r
 cases ru
 have hh:X.A.in1.handled=none:=I.ok.hd hc
 have fin:∀ (its:List Value) (o:Obj) (wr:List Addr) (hw:∀ b ∈ wr,s.heap.objs.size<=b),aG (ns.map V.int) its->∀ s' t',Moved wr (fun a b=>b=a) { s with heap:=s.heap.push o } s'->
   ∃ x H',a5 X pins σ H' s'/\aO x (.int (preSum (fun i=>ns.getD i 0) its.toArray.size) t')/\Q x H':=fun its o wr hw rv s' t' hm=>by
  have hl:=rv.length
  rw [au8] at hl
  have e:=Moved.eq_with hm
  have e2:preSum (fun i=>ns.getD i 0) its.toArray.size=ns.sum:=by rw [aw1,<- hl,xY _ _ (au7 _),aC2]
  rw [e2,e]
  refine⟨.int ns.sum,H,I.kept (t':=s'.toks) (h':=s'.heap) fun b o' eb=>hm.heap b o' (fun z=>?_) (au6 _ eb),⟨t',rfl⟩,q⟩
  exact absurd (aw2 eb) (Nat.not_lt.mpr (hw b z))
 have val:∀ (its:List Value),aG (ns.map V.int) its->∀ (i:Nat) (v:Value),its.toArray[i]? = some v->∃ t,v = .int (ns.getD i 0) t:=fun its rv i v hv=>by
  have hi:its[i]? = some v:=by simpa using hv
  have hl:=rv.length
  rw [au8] at hl
  have hil:i < ns.length:=by rw [hl]; exact (av4.mp hi).1
  obtain ⟨u,e1,e2⟩:=rv.get (i:=i) (x:=.int ns[i]) (by simp [hil])
  rw [hi] at e1; cases e1
  obtain ⟨t,rfl⟩:=e2
  exact⟨t,by rw [aw6,av0 hil]; rfl⟩
 rcases hq with hq | hq
 ·obtain ⟨its,rv,p,hz⟩:=I.list hq
  have hlt:a < s.heap.objs.size:=by obtain ⟨o,e,_⟩:=p.isList; exact aw2 e
  refine call_sum_walkAnyS (wpAny_pyIter_list p.isList ?_)
  refine⟨s.heap.objs.size,_,_,_,_,_,_,fun i=>ns.getD i 0,rfl,(Walks.list hh s.heap.objs.size a (ay1 hlt) its.toArray).toS,⟨⟨_,aw8 _ rfl,rfl,rfl⟩,p.isList.push _⟩,?_,val its rv,fun s' t' hm=>fin its _ _ ?_ rv s' t' hm⟩
  ·intro b hb
   have hs:(s.heap.push { cls:=.type "list_iterator",data:=.fields #[.ref a,.int 0 0] }).objs.size=s.heap.objs.size+1:=size_push' _ _
   show b < (s.heap.push _).objs.size
   rw [size_push']
   rcases av8.mp hb with rfl | hb
   ·exact Nat.lt_succ_self _
   ·rw [av2.mp hb]; exact Nat.lt_succ_of_lt hlt
  ·intro b hb
   rw [av2.mp hb]; exact au7 _
 ·obtain ⟨its,rv,p,hz⟩:=I.tuple hq
  have hlt:a < s.heap.objs.size:=by obtain ⟨o,e,_⟩:=p; exact aw2 e
  refine call_sum_walkAnyS (aF5 p ?_)
  refine⟨s.heap.objs.size,_,_,_,_,_,_,fun i=>ns.getD i 0,rfl,(Walks.tuple hh s.heap.objs.size a (ay1 hlt) its.toArray).toS,⟨⟨_,aw8 _ rfl,rfl,rfl⟩,?_⟩,?_,val its rv,fun s' t' hm=>fin its _ _ ?_ rv s' t' hm⟩
  ·obtain ⟨o,e,h⟩:=p
   exact⟨o,au6 _ e,h⟩
  ·intro b hb
   show b < (s.heap.push _).objs.size
   rw [size_push']
   rcases av8.mp hb with rfl | hb
   ·exact Nat.lt_succ_self _
   ·rw [av2.mp hb]; exact Nat.lt_succ_of_lt hlt
  ·intro b hb
   rw [av2.mp hb]; exact au7 _
theorem ak1 (hc:X.calm=true):bS X (.builtin "any") (fun xs H Q=>∃ (a:Addr) (bs:List Bool),xs = [.ref a]/\aI X.K H a (bs.map V.bl)/\Q (.bl (bs.any id)) H):=by
 intro pins s σ H xs us Q I r h
 obtain ⟨a,bs,rfl,hq,q⟩:=h
 obtain ⟨u,rfl,ru⟩:=eB r
 cases ru
 obtain ⟨its,rv,p,hz⟩:=I.list hq
 have hl:=rv.length
 rw [au8] at hl
 have hlt:a < s.heap.objs.size:=by obtain ⟨o,e,_⟩:=p.isList; exact aw2 e
 refine call_any_walk (wpAny_pyIter_list p.isList ?_)
 have hh:X.A.in1.handled=none:=I.ok.hd hc
 refine⟨s.heap.objs.size,_,_,_,_,_,fun i=>bs.getD i false,rfl,Walks.list hh s.heap.objs.size a (ay1 hlt) its.toArray,⟨⟨_,aw8 _ rfl,rfl,rfl⟩,p.isList.push _⟩,?_,fun h' tk kp=>?_⟩
 ·intro i v s' Q' E' hP hQ'
  have hi:its[i]? = some v:=by simpa using hP
  have hil:i < bs.length:=by rw [hl]; exact (av4.mp hi).1
  obtain ⟨u,e1,e2⟩:=rv.get (i:=i) (x:=.bl bs[i]) (by simp [hil])
  rw [hi] at e1; cases e1
  cases e2
  have:bs.getD i false=bs[i]:=by rw [aw6,av0 hil]; rfl
  have hQ2:Q' (bs.getD i false) s':=hQ'
  rw [this] at hQ2
  exact aE8 hQ2
 ·have any_eq:(List.range its.toArray.size).any (fun i=>bs.getD i false)=bs.any id:=by
   rw [aw1,<- hl]
   clear q rv hz hl hq hlt p hh kp
   induction bs with
   | nil=>rfl
   | cons b r ih=>
    rw [aA8,List.range_succ_eq_map,aG9,List.any_map,aG9,<- ih]
    rfl
  rw [any_eq]
  refine⟨.bl (bs.any id),H,I.kept (t':=tk) (h':=h') fun b o e=>kp b o (fun z=>?_) (au6 _ e),rfl,q⟩
  rw [av2.mp z] at e
  exact absurd (aw2 e) (az5 _)
end
end L2
namespace Zp
open PySem PyProof.Rows
def e7 (h:Heap) (t u:Addr):Heap:=
 ((((h.push { cls:=.type "tuple_iterator",data:=.fields #[.ref t,.int 0 0] }).push { cls:=.type "list_iterator",data:=.fields #[.ref u,.int 0 0] }).push { cls:=.type "tuple",data:=.seq #[.ref h.objs.size,.ref (h.objs.size+1)] }).push
  { cls:=.type "tuple",data:=.seq #[.none,.none] }).push { cls:=.type "zip",data:=.fields #[.none,.bool false,.bool false,.ref (h.objs.size+2),.ref (h.objs.size+3)] }
theorem ak2 (t u:Addr) (xs ys:Array Value):Meets (Builtin.«zip.__new__» ⟨[.type "zip",.ref t,.ref u],[]⟩) (fun _ R s=>s.heap.IsTuple t xs/\s.heap.IsList u ys/\R (.ok (.ret (.ref (s.heap.objs.size+4)))) { s with heap:=e7 s.heap t u }):=
 .of_wp fun prog w A R s h=>by
  obtain ⟨hp,g,d,tk,os⟩:=s
  obtain ⟨ht,hu,h⟩:=h
  have sub:=sub_zip
  have a1:Heap.IsTuple (Shared.heap ⟨hp,g,d,tk,os⟩) t xs:=ht
  have a2:Heap.IsList (Shared.heap ⟨hp.push { cls:=.type "tuple_iterator",data:=.fields #[.ref t,.int 0 0] },g,d,tk,os⟩) u ys:=hu.push _
  wp_walk using aF5 a1,wpAny_pyIter_list a2
  have e:∀ (o:Obj) (k:Heap),(k.push o).objs.size=k.objs.size+1:=fun o k=>aE5 ..
  refine⟨_,rfl,?_⟩
  simp only [e7,e] at h ⊢
  exact h
section
variable {prog : Program} {w : World} {A : Around} {E : Value → Shared → Prop} {s : Shared}
theorem xZ {t u:Addr}{xs ys:Array Value}{Q:Value->Shared->Prop} (ht:s.heap.IsTuple t xs) (hu:s.heap.IsList u ys)
  (q:∀ h',IsZip h' (s.heap.objs.size+4) (s.heap.objs.size+2) (s.heap.objs.size+3) .none->IsPair h' (s.heap.objs.size+2) (.ref s.heap.objs.size) (.ref (s.heap.objs.size+1))->
   IsPair h' (s.heap.objs.size+3) .none .none->h'.IsTupleIter s.heap.objs.size t 0->h'.IsListIter (s.heap.objs.size+1) u 0->(∀ c o,s.heap.get? c=some o->h'.get? c=some o)->Q (.ref (s.heap.objs.size+4)) { s with heap:=h' }) :
  wpAny (model prog w) A (call (.type "zip") [.ref t,.ref u]) Q E s:=by
 refine callType_new PySem.F.called_zip (by decide) (PySem.F.typeCall_zip_2 _ _) (PySem.F.newCall_zip_2 _ _) (fun obj=>PySem.F.args_object_init_3 obj _ _) PySem.F.entry_zip_new (ak2 t u xs ys) ⟨ht,hu,?_⟩
 have e:∀ (o:Obj) (k:Heap),(k.push o).objs.size=k.objs.size+1:=fun o k=>aE5 ..
 have p0:∀ (k:Heap) (o:Obj) (m:Nat),o.isFreed=false->m=k.objs.size->(k.push o).get? m=some o:=fun k o m f z=>by rw [z]; exact aw8 _ f
 have g0:(e7 s.heap t u).get? s.heap.objs.size=some { cls:=.type "tuple_iterator",data:=.fields #[.ref t,.int 0 0] }:=by
  unfold e7
  exact au6 _ (au6 _ (au6 _ (au6 _ (p0 _ _ _ rfl rfl))))
 have g1:(e7 s.heap t u).get? (s.heap.objs.size+1)=some { cls:=.type "list_iterator",data:=.fields #[.ref u,.int 0 0] }:=by
  unfold e7
  exact au6 _ (au6 _ (au6 _ (p0 _ _ _ rfl (by simp only [e]))))
 have g2:(e7 s.heap t u).get? (s.heap.objs.size+2)=some { cls:=.type "tuple",data:=.seq #[.ref s.heap.objs.size,.ref (s.heap.objs.size+1)] }:=by
  unfold e7
  exact au6 _ (au6 _ (p0 _ _ _ rfl (by simp only [e])))
 have g3:(e7 s.heap t u).get? (s.heap.objs.size+3)=some { cls:=.type "tuple",data:=.seq #[.none,.none] }:=by
  unfold e7
  exact au6 _ (p0 _ _ _ rfl (by simp only [e]))
 have g4:(e7 s.heap t u).get? (s.heap.objs.size+4)=some { cls:=.type "zip",data:=.fields #[.none,.bool false,.bool false,.ref (s.heap.objs.size+2),.ref (s.heap.objs.size+3)] }:=by
  unfold e7
  exact p0 _ _ _ rfl (by simp only [e])
 refine⟨⟨_,g4,rfl⟩,q _ g4 g2 g3 ⟨_,g0,rfl,rfl⟩ ⟨_,g1,rfl,rfl⟩ fun c o z=>?_⟩
 unfold e7
 exact au6 _ (au6 _ (au6 _ (au6 _ (au6 _ z))))
end
end Zp
namespace L2
open PySem PySem.Spec PyProof.Rows
def nX (K:PySem.W.Frag) (a b:Addr):It:=
  ⟨fun i H=>∃ xs ys x y,aC K H a xs/\aI K H b ys/\xs[i]? = some x/\ys[i]? = some y,
   fun i H v H'=>∃ T x y,H T=none/\v = .ref T/\H'=upd H T (.tup [x,y])/\∀ xs ys,aC K H a xs->aI K H b ys->xs[i]? = some x/\ys[i]? = some y,
   fun i H=>∃ xs ys,aC K H a xs/\aI K H b ys/\(i=xs.length ∨ (i < xs.length/\i=ys.length))⟩
abbrev ak3:=pY true false
theorem y7 {P:Program}{w:World}{K:PySem.W.Frag}{elts:List Expr}{k:Nat}{pos:Pos} (a b z TI TO i1 i2:Addr) (d : [z,TI,TO,i1,i2].Nodup) :
  gD P w K (.Tuple elts k pos) (nX K a b) [z,TI,TO,i1,i2] z (ak3 z TI TO i1 i2 a b):=vF true false a b z TI TO i1 i2 d
section
variable {X : Cx}
def ak4 (K:PySem.W.Frag) (ta:TA):TI:=fun σ H R=>ta σ H fun vs H1=>∃ a b xs ys,vs = [.ref a,.ref b]/\aC K H1 a xs/\aI K H1 b ys/\R (nX K a b) H1
theorem au3 {elts:List Expr}{kt:Nat}{pt:Pos}{a b:Expr}{ta:TA}{p pos:Pos} (hg:Gl X "zip") (hm:X.mg "zip" = none) (ha:PA X [a,b] ta) (hs:starEach [a,b] X.env = [(false,eval a X.env),(false,eval b X.env)]:=by rfl) (hs2:starEach [b] X.env = [(false,eval b X.env)]:=by rfl) :
  PI X (.Tuple elts kt pt) (.Call (.Name "zip" p) [a,b] [] pos) (ak4 X.K ta):=by
 intro pins s σ H R I h
 refine Call_ (gC I hg hm PyProof.Rows.boot_zip (aA9 (aJ (ha pos pins s σ H _ I h) fun us s1 ⟨vs,H1,I1,r1,q1⟩=>?_) (by rw [hs,hs2]) (by rw [hs2]; rfl)))
 obtain ⟨a',b',xs,ys,e,h1,h2,q⟩:=q1
 subst e
 cases r1 with
 | cons r rr=>
  cases rr with
  | cons r' rr=>
   cases rr
   cases r
   cases r'
   obtain ⟨us,_,p1,_⟩:=I1.tuple h1
   obtain ⟨ws,_,p2,_⟩:=I1.list h2
   refine Zp.xZ p1 p2.isList fun h' z ti to s1' s2' kp=>wpAny_pyIter_zip z ?_
   have fresh:∀ k,H1 (s1.heap.objs.size+k)=none:=fun k=>I1.hok.fresh (ax2 _ _)
   refine⟨s1.heap.objs.size+4,[s1.heap.objs.size+4,s1.heap.objs.size+2,s1.heap.objs.size+3,s1.heap.objs.size,s1.heap.objs.size+1],_,_,H1,rfl,I1.kept (t':=s1.toks) kp,
    y7 a' b' _ _ _ _ _ (by simp),⟨z,ti,⟨_,_,to⟩,s1',s2'⟩,fun c hc=>?_,q⟩
   simp only [av8,ax6,aE2] at hc
   rcases hc with rfl | rfl | rfl | rfl | rfl
   ·exact I1.fpOk (ax2 _ _) (fresh 4)
   ·exact I1.fpOk (ax2 _ _) (fresh 2)
   ·exact I1.fpOk (ax2 _ _) (fresh 3)
   ·exact I1.fpOk (au7 _) (fresh 0)
   ·exact I1.fpOk (ax2 _ _) (fresh 1)
end
section
variable {X : Cx}
def y9 (K:PySem.W.Frag) (ta:TA):TI:=fun σ H R=>ta σ H fun vs H1=>∃ a b,vs = [.ref a,.ref b]/\((∃ xs ys,aC K H1 a xs/\aC K H1 b ys/\R (i7 K a b) H1) ∨ ∃ xs ys,aC K H1 a xs/\aI K H1 b ys/\R (nX K a b) H1)
theorem ak5 {elts:List Expr}{kt:Nat}{pt:Pos}{a b:Expr}{ta:TA}{p pos:Pos} (hg:Gl X "zip") (hm:X.mg "zip" = none) (ha:PA X [a,b] ta) (hs:starEach [a,b] X.env = [(false,eval a X.env),(false,eval b X.env)]:=by rfl) (hs2:starEach [b] X.env = [(false,eval b X.env)]:=by rfl) :
  PI X (.Tuple elts kt pt) (.Call (.Name "zip" p) [a,b] [] pos) (y9 X.K ta):=by
 intro pins s σ H R I h
 refine Call_ (gC I hg hm PyProof.Rows.boot_zip (aA9 (aJ (ha pos pins s σ H _ I h) fun us s1 ⟨vs,H1,I1,r1,q1⟩=>?_) (by rw [hs,hs2]) (by rw [hs2]; rfl)))
 obtain ⟨a',b',e,q1⟩:=q1
 rcases q1 with ⟨xs,ys,h1,h2,q⟩ | ⟨xs,ys,h1,h2,q⟩
 ·subst e
  cases r1 with
  | cons r rr=>
   cases rr with
   | cons r' rr=>
    cases rr
    cases r
    cases r'
    obtain ⟨us,_,p1,_⟩:=I1.tuple h1
    obtain ⟨ws,_,p2,_⟩:=I1.tuple h2
    refine Zp.vD p1 p2 fun h' z ti to s1' s2' kp=>wpAny_pyIter_zip z ?_
    have fresh:∀ k,H1 (s1.heap.objs.size+k)=none:=fun k=>I1.hok.fresh (ax2 _ _)
    refine⟨s1.heap.objs.size+4,[s1.heap.objs.size+4,s1.heap.objs.size+2,s1.heap.objs.size+3,s1.heap.objs.size,s1.heap.objs.size+1],_,_,H1,rfl,I1.kept (t':=s1.toks) kp,
     vG a' b' _ _ _ _ _ (by simp),⟨z,ti,⟨_,_,to⟩,s1',s2'⟩,fun c hc=>?_,q⟩
    simp only [av8,ax6,aE2] at hc
    rcases hc with rfl | rfl | rfl | rfl | rfl
    ·exact I1.fpOk (ax2 _ _) (fresh 4)
    ·exact I1.fpOk (ax2 _ _) (fresh 2)
    ·exact I1.fpOk (ax2 _ _) (fresh 3)
    ·exact I1.fpOk (au7 _) (fresh 0)
    ·exact I1.fpOk (ax2 _ _) (fresh 1)
 ·subst e
  cases r1 with
  | cons r rr=>
   cases rr with
   | cons r' rr=>
    cases rr
    cases r
    cases r'
    obtain ⟨us,_,p1,_⟩:=I1.tuple h1
    obtain ⟨ws,_,p2,_⟩:=I1.list h2
    refine Zp.xZ p1 p2.isList fun h' z ti to s1' s2' kp=>wpAny_pyIter_zip z ?_
    have fresh:∀ k,H1 (s1.heap.objs.size+k)=none:=fun k=>I1.hok.fresh (ax2 _ _)
    refine⟨s1.heap.objs.size+4,[s1.heap.objs.size+4,s1.heap.objs.size+2,s1.heap.objs.size+3,s1.heap.objs.size,s1.heap.objs.size+1],_,_,H1,rfl,I1.kept (t':=s1.toks) kp,
     y7 a' b' _ _ _ _ _ (by simp),⟨z,ti,⟨_,_,to⟩,s1',s2'⟩,fun c hc=>?_,q⟩
    simp only [av8,ax6,aE2] at hc
    rcases hc with rfl | rfl | rfl | rfl | rfl
    ·exact I1.fpOk (ax2 _ _) (fresh 4)
    ·exact I1.fpOk (ax2 _ _) (fresh 2)
    ·exact I1.fpOk (ax2 _ _) (fresh 3)
    ·exact I1.fpOk (au7 _) (fresh 0)
    ·exact I1.fpOk (ax2 _ _) (fresh 1)
end
end L2
namespace PP
open PySem L2 PyProof.Rows
section
variable {X : Cx} {a b e : Expr} {ta tb te : aB} {tr : bU} {pos p2 : Pos}
def iK:List PV->(PV->Prop)->Prop:=fun xs Q=>∃ x ns,xs = [x]/\fX x=some (intz ns)/\Q (.int ns.sum)
theorem ak6:dP X iK (fun xs H Q=>∃ (a:Addr) (ns:List Int),xs = [.ref a]/\(aI X.K H a (ns.map V.int) ∨ aC X.K H a (ns.map V.int))/\Q (.int ns.sum) H):=by
 rintro H vs xs Q Q' r ⟨x,ns,rfl,e,q⟩ k
 obtain ⟨v,rfl,r1⟩:=r.one
 obtain ⟨a,us,rfl,hs,r2⟩:=r1.seq e
 obtain rfl:=r2.ofInts
 exact⟨a,ns,rfl,hs,k _ _ _ (a8.refl _) (.int _) q⟩
theorem kZ (B:Bt X.mg) (hc:X.calm=true) (ha:QA X [e] tr) (hg:Gl X "sum":=by rfl) (he:starEach [e] X.env=(false,eval e X.env) :: starEach [] X.env:=by rfl) (hpl:(backTo pos (starEach [] X.env)).any (·.1)=false:=by rfl):QE X (.Call (.Name "sum" p2) [e] [] pos) (aD iK tr):=
 gR (ak0 hc) ak6 hg B.sum PyProof.Rows.boot_sum ha (he:=he) (hpl:=hpl)
def rQ:List PV->(PV->Prop)->Prop:=fun xs Q=>∃ bs:List Bool,xs = [.lst (bs.map PV.bl)]/\Q (.bl (bs.any id))
theorem ak7:dP X rQ (fun xs H Q=>∃ (a:Addr) (bs:List Bool),xs = [.ref a]/\aI X.K H a (bs.map V.bl)/\Q (.bl (bs.any id)) H):=by
 rintro H vs xs Q Q' r ⟨bs,rfl,q⟩ k
 obtain ⟨v,rfl,r1⟩:=r.one
 obtain ⟨a,us,rfl,_,h,r2⟩:=r1.sqL
 obtain rfl:=r2.ofBls
 exact⟨a,bs,rfl,aI.of h,k _ _ _ (a8.refl _) (.bl _) q⟩
theorem ak8 (B:Bt X.mg) (hc:X.calm=true) (ha:QA X [e] tr) (hg:Gl X "any":=by rfl) (he:starEach [e] X.env=(false,eval e X.env) :: starEach [] X.env:=by rfl) (hpl:(backTo pos (starEach [] X.env)).any (·.1)=false:=by rfl):QE X (.Call (.Name "any" p2) [e] [] pos) (aD rQ tr):=
 gR (ak1 hc) ak7 hg B.any PyProof.Rows.boot_any ha (he:=he) (hpl:=hpl)
end
def g9 (xs ys:List PV):List PV:=List.zipWith (fun x y=>PV.tup [x,y]) xs ys
theorem nY (xs ys:List PV):(g9 xs ys).length=min xs.length ys.length:=by unfold g9; rw [List.length_zipWith]
theorem yA {xs ys:List PV}{i:Nat}{x y:PV} (h:xs[i]? = some x) (h':ys[i]? = some y):(g9 xs ys)[i]? = some (.tup [x,y]):=by
 unfold g9; rw [List.getElem?_zipWith,h,h']
theorem ak9 {xs ys:List PV}{i:Nat}{z:PV} (h:(g9 xs ys)[i]? = some z):∃ x y,xs[i]? = some x/\ys[i]? = some y/\z = .tup [x,y]:=by
 unfold g9 at h
 rw [List.getElem?_zipWith] at h
 cases e:xs[i]? with
 | none=>rw [e] at h; cases h
 | some x=>
  cases e':ys[i]? with
  | none=>rw [e,e'] at h; cases h
  | some y=>rw [e,e'] at h; exact⟨x,y,rfl,rfl,(ax4 h).symm⟩
def rR (ta tb:aB):dQ:=fun ρ Q=>ta ρ fun x _=>tb ρ fun y g=>∃ xs ys,x = .tup xs/\flats xs=true/\(y = .lst ys ∨ y = .tup ys)/\(g = .rd->flat y=true)/\Q (g9 xs ys) (kC g ys)
theorem al0 {K:PySem.W.Frag}{H0:Hp}{W:Addr->Prop}{g:Bool}{H1:Hp}{a b:Addr}{us vs:List V}{xs ys:List PV} (tw:∀ a,W a->∃ o,H1 a=some o/\eW o=true) (ha:∀ W' H',Ev W H1 W' H'->aC K H' a us) (hb:∀ W' H',Ev W H1 W' H'->aC K H' b vs)
  (r:Reps K (Ms H0 W g) H1 us xs) (r':Reps K (Ms H0 W g) H1 vs ys):iW K H0 W g H1 (i7 K a b) (g9 xs ys):=by
 have lr:=r.length
 have lr':=r'.length
 have ll:=nY xs ys
 refine⟨fun W' H' i e hi=>⟨us,vs,us[i]'(by omega),vs[i]'(by omega),ha W' H' e,hb W' H' e,by simp,by simp⟩,fun W' H' i v H2 e y hi=>?_,fun W' H' e=>⟨us,vs,ha W' H' e,hb W' H' e,by omega⟩⟩
 obtain ⟨T,x,y',hT,rfl,rfl,y⟩:=y
 obtain ⟨h1,h2⟩:=y us vs (ha W' _ e) (hb W' _ e)
 obtain ⟨z,hz,rz⟩:=r.get h1
 obtain ⟨z',hz',rz'⟩:=r'.get h2
 have sm:=aT hT (HO.tup [x,y'])
 exact⟨sm,_,yA hz hz',.tup aZ (.cons ((rz.keep (e.keep tw)).same sm fun _ q=>q) (.cons ((rz'.keep (e.keep tw)).same sm fun _ q=>q) .nil))⟩
theorem al1 {K:PySem.W.Frag}{H0:Hp}{W:Addr->Prop}{g:Bool}{H1:Hp}{a b:Addr}{us vs:List V}{xs ys:List PV} (tw:∀ a,W a->∃ o,H1 a=some o/\eW o=true) (ha:∀ W' H',Ev W H1 W' H'->aC K H' a us) (hb:∀ W' H',Ev W H1 W' H'->aI K H' b vs)
  (r:Reps K (Ms H0 W g) H1 us xs) (r':Reps K (Ms H0 W g) H1 vs ys):iW K H0 W g H1 (nX K a b) (g9 xs ys):=by
 have lr:=r.length
 have lr':=r'.length
 have ll:=nY xs ys
 refine⟨fun W' H' i e hi=>⟨us,vs,us[i]'(by omega),vs[i]'(by omega),ha W' H' e,hb W' H' e,by simp,by simp⟩,fun W' H' i v H2 e y hi=>?_,fun W' H' e=>⟨us,vs,ha W' H' e,hb W' H' e,by omega⟩⟩
 obtain ⟨T,x,y',hT,rfl,rfl,y⟩:=y
 obtain ⟨h1,h2⟩:=y us vs (ha W' _ e) (hb W' _ e)
 obtain ⟨z,hz,rz⟩:=r.get h1
 obtain ⟨z',hz',rz'⟩:=r'.get h2
 have sm:=aT hT (HO.tup [x,y'])
 exact⟨sm,_,yA hz hz',.tup aZ (.cons ((rz.keep (e.keep tw)).same sm fun _ q=>q) (.cons ((rz'.keep (e.keep tw)).same sm fun _ q=>q) .nil))⟩
section
variable {X : Cx} {σ : L2.St} {H : Hp} {ta tb : aB} {R : It → Hp → Prop}
theorem al2 (h:LI X (rR ta tb) σ H R):y9 X.K (fC (LE X ta) (fC (LE X tb) gF)) σ H R:=by
 obtain ⟨W,ρ,Q,px,q,k⟩:=h
 refine⟨W,ρ,_,px,q,fun v0 H0 x0 g0 s0 r0 q0=>⟨W,ρ,_,px.mono s0,q0,?_⟩⟩
 rintro v H1 x g s r ⟨xs,ys,rfl,fx,hy,hg,q⟩
 have S:=s0.trans s
 have px1:=px.mono S
 have tw:∀ a,W a->∃ o,H1 a=some o/\eW o=true:=fun a z=>(px1.wm a z).2
 obtain ⟨a,us,rfl,h1,ra⟩:=(r0.same (M':=fun _=>True) s fun _ _=>trivial).sqT
 have ra2:Reps X.K (Ms X.H₀ W (kC g ys)) H1 us xs:=ra.flat fx
 have sta:∀ W' H',Ev W H1 W' H'->aC X.K H' a us:=fun W' H' e=>aC.of (e _ _ h1 fun z=>by obtain ⟨o,h',mu⟩:=tw _ z; rw [h1] at h'; cases h'; cases mu).1
 have rr:=r.same (M':=Mg X.H₀ W H g) (a8.refl _) fun c hc=>by
  cases g with
  | fr=>exact s0.free hc
  | nw=>exact hc
  | sh=>exact hc
  | rd=>exact hc
 rcases hy with rfl | rfl
 ·obtain ⟨b,vs,rfl,m,h,rb⟩:=rr.sqL
  have wa : ¬ W b:=by
   cases g with
   | fr=>exact (px.new m).1
   | nw=>exact m.1
   | sh=>exact m
   | rd=>have:=hg rfl; unfold flat at this; cases this
  exact⟨a,b,rfl,.inr ⟨us,vs,aC.of h1,aI.of h,k _ _ _ _ S (al1 tw sta (fun W' H' e=>aI.of (e _ _ h wa).1) ra2 (iX px (fun z=>by have:=hg z; unfold flat at this; cases this) rb)) q⟩⟩
 ·obtain ⟨b,vs,rfl,h,rb⟩:=rr.sqT
  refine⟨a,b,rfl,.inl ⟨us,vs,aC.of h1,aC.of h,k _ _ _ _ S (al0 tw sta (fun W' H' e=>aC.of (e _ _ h fun z=>?_).1) ra2 (iX px (fun z=>by have:=hg z; unfold flat at this; exact this) rb)) q⟩⟩
  obtain ⟨o,h',mu⟩:=tw _ z; rw [h] at h'; cases h'; cases mu
theorem al3 {elts:List Expr}{kt:Nat}{pt p2 pos:Pos}{a b:Expr} (B:Bt X.mg) (ha:QE X a ta) (hb:QE X b tb) (hg:Gl X "zip":=by rfl) (hs:starEach [a,b] X.env = [(false,eval a X.env),(false,eval b X.env)]:=by rfl) (hs2:starEach [b] X.env = [(false,eval b X.env)]:=by rfl):QI X (.Tuple elts kt pt) (.Call (.Name "zip" p2) [a,b] [] pos) (rR ta tb):=
 mU (ak5 hg B.zip (bW ha (bW hb cU hs2) (by rw [hs,hs2])) hs hs2) fun _ _ _=>al2
end
end PP
namespace Core
open PySem L2 PP
def rS:bK:=fun xs Q=>∃ (x:PV) (ns:List Int) (m:Nat),xs = [x,.int m]/\dJ x ns/\ns.length=m/\m<=1000000/\(∀ w ∈ ns,0<=w)/\Q (.tup (intz ns))
def yB:aQ:=(aM (cB (aW (kE (aD cR (a7 (a6 0) aA)) (a6 1))) mT cA)
 (aM (cB (aW (aD rQ (a7 (cJ (cI (a6 0)) [none] (b7 0) cK (mR (a6 0) (qC (.int 0)))) aA))) mT cA)
 (bY (aD gN (a7 (a6 0) aA)))))
theorem al4:cY yB ["prices","many"] rS:=by
 rintro xs Q ⟨x,ns,m,rfl,hx,hl,hm,hp,q⟩
 refine⟨_,rfl,_,_,rfl,hx.len,_,rfl,.inl ⟨_,_,rfl,rfl,_,rfl,?_⟩⟩
 show if (!decide ((ns.length:Int)=(m:Int)))=true then _ else _
 rw [aw5 (by omega)]
 refine bH ⟨_,rfl,_,hx.seq,ag2 hx,by rw [b8]; omega,fun i acc=>acc=List.replicate i (PV.bl false),rfl,?_,?_⟩
 ·rintro i y acc hy rfl
  obtain ⟨n,rfl,hn⟩:=nP hy
  refine⟨_,rfl,_,_,rfl,rfl,trivial,?_⟩
  dsimp only
  rw [av7 (by have:=hp n (ax0 hn); omega),List.replicate_succ']
 ·rintro acc rfl
  refine⟨List.replicate (intz ns).length false,by rw [List.map_replicate]; rfl,_,rfl,?_⟩
  have:(List.replicate (intz ns).length false).any id=false:=by
   rw [List.any_eq_false]; intro x hx; rw [(List.mem_replicate.mp hx).2]; decide
  rw [this]
  exact bH ⟨_,rfl,⟨_,_,rfl,hx.seqT,cQ _,trivial,q⟩,hx.noscr⟩
def bI (zs:List ((Int × Int) × Int)) (k:Int):List (Int × Int):=zs.flatMap fun z=>(if z.1.1=k then [(z.1.2,z.2)] else []) ++ (if z.1.2=k then [(z.1.1,z.2)] else [])
theorem al5 {zs:List ((Int × Int) × Int)}{i:Nat}{z:(Int × Int) × Int} (h:zs[i]? = some z) (k:Int):bI (zs.take (i+1)) k=bI (zs.take i) k ++ ((if z.1.1=k then [(z.1.2,z.2)] else []) ++ (if z.1.2=k then [(z.1.1,z.2)] else [])):=by
 rw [aB1,h]
 unfold bI; rw [List.flatMap_append]; simp
theorem rT (k:Int):∀ zs:List ((Int × Int) × Int),(bI zs k).length<=2 * zs.length
 | []=>au7 _
 | z :: r=>by
  have e:bI (z :: r) k=((if z.1.1=k then [(z.1.2,z.2)] else []) ++ (if z.1.2=k then [(z.1.1,z.2)] else [])) ++ bI r k:=rfl
  have ih:=rT k r
  rw [e,aw4,aw4,aA8]
  have h1:(if z.1.1=k then [(z.1.2,z.2)] else []).length<=1:=by split <;> simp
  have h2:(if z.1.2=k then [(z.1.1,z.2)] else []).length<=1:=by split <;> simp
  omega
def nZ (n:Nat) (zs:List ((Int × Int) × Int)):List PV:=(List.range n).map fun (k:Nat)=>PV.lst (c6 (bI zs k))
def rV:bK:=fun xs Q=>∃ ws ls x wts,xs = [bJ ws ls,x]/\Wb ws ls/\dJ x wts/\wts.length=ls.length/\(∀ w ∈ wts,0<=w)/\Q (.lst (nZ ws.length (ls.zip wts)))
end Core
namespace L2
open PySem Core
structure eM (H H':Hp) (r:Addr) (bs:List Addr) (f:Nat->List (Int × Int)):Prop where
 new:H r=none
 news:∀ b ∈ bs,H b=none/\b ≠ r
 nd:bs.Nodup
 row:H' r=some (.lst (bs.map V.ref))
 rows:∀ (k:Nat) (b:Addr),bs[k]? = some b->∃ us,H' b=some (.lst us)/\c9 H' us (f k)
 same:a8 H H'
theorem eM.congr {H H':Hp}{r:Addr}{bs:List Addr}{f g:Nat->List (Int × Int)} (h:eM H H' r bs f) (e:∀ k,k < bs.length->f k=g k):eM H H' r bs g:=
 ⟨h.new,h.news,h.nd,h.row,fun k b hb=>by rw [<- e k (av4.mp hb).1]; exact h.rows k b hb,h.same⟩
theorem eM.mono {H H' H2:Hp}{r:Addr}{bs:List Addr}{f:Nat->List (Int × Int)} (h:eM H H' r bs f) (s:a8 H' H2):eM H H2 r bs f:=
 ⟨h.new,h.news,h.nd,s _ _ h.row,fun k b hb=>let ⟨us,h1,h2⟩:=h.rows k b hb; ⟨us,s _ _ h1,h2.mono s⟩,h.same.trans s⟩
theorem c9.upd {H:Hp}{b:Addr}{o:HO}{vs:List V} (hb:H b=some (.lst vs)):∀ {ys:List V}{ls:List (Int × Int)},c9 H ys ls->c9 (upd H b o) ys ls
 | _,_,.nil=>.nil
 | _,_,.cons ⟨c,h1,h2⟩ t=>.cons ⟨c,h1,by rw [aN (fun z=>by rw [z,hb] at h2; cases h2)]; exact h2⟩ (c9.upd hb t)
theorem eM.app {H H':Hp}{r:Addr}{bs:List Addr}{f:Nat->List (Int × Int)} (h:eM H H' r bs f) {k:Nat}{b T:Addr}{us:List V} (hb:bs[k]? = some b) (hu:H' b=some (.lst us)) (hl:c9 H' us (f k)) {x:Int × Int} (hT:H' T=some (.tup [.int x.1,.int x.2])) :
  eM H (upd H' b (.lst (us ++ [V.ref T]))) r bs (fun j=>if j=k then f j ++ [x] else f j):=by
 have hm:b ∈ bs:=ax0 hb
 refine⟨h.new,h.news,h.nd,by rw [aN (Ne.symm (h.news b hm).2)]; exact h.row,fun j c hc=>?_,fun c o e=>by rw [aN (cE e (h.news b hm).1)]; exact h.same c o e⟩
 by_cases hj:j=k
 ·subst hj
  rw [hb] at hc; cases hc
  refine⟨us ++ [V.ref T],aZ,?_⟩
  rw [if_pos rfl]
  have h1:=c9.upd (o:=.lst (us ++ [V.ref T])) hu hl
  have h2:c9 (L2.upd H' b (.lst (us ++ [V.ref T]))) [V.ref T] [x]:=.cons ⟨T,rfl,by rw [aN (fun z=>by rw [z,hu] at hT; cases hT)]; exact hT⟩ .nil
  generalize L2.upd H' b (.lst (us ++ [V.ref T]))=H2 at h1 h2
  clear hl hu
  generalize f j=l at h1
  induction h1 with
  | nil=>exact h2
  | cons a t ih=>exact .cons a ih
 ·rw [if_neg hj]
  have ne:c ≠ b:=fun z=>by
   subst z
   obtain ⟨i1,e1⟩:=av4.mp hb
   obtain ⟨i2,e2⟩:=av4.mp hc
   refine hj (Nat.le_antisymm (aF4 fun z=>?_) (aF4 fun z=>?_))
   ·exact az3.mp h.nd _ _ i1 i2 z (e1.trans e2.symm)
   ·exact az3.mp h.nd _ _ i2 i1 z (e2.trans e1.symm)
  obtain ⟨vs,h1,h2⟩:=h.rows j c hc
  exact⟨vs,by rw [aN ne]; exact h1,h2.upd hu⟩
theorem al6 {K:PySem.W.Frag}{a b:Addr}{xs ys:List V}{g:TG}{tb:TS}{D:dA}{σ:St}{H:Hp} (Pv:Nat->St->Hp->Prop) (hxy:ys.length=xs.length) (h0:Pv 0 σ H) (hl:∀ i σ H,i<=xs.length->Pv i σ H->aC K H a xs/\aC K H b ys)
  (hs:∀ i x y T σ H H',xs[i]? = some x->ys[i]? = some y->H T=none->H'=upd H T (.tup [x,y])->Pv i σ H->g (.ref T) σ H' fun σ2 H2=>tb { D with nx:=Pv (i+1),ct:=Pv (i+1),bk:=D.nx } σ2 H2) (hd:∀ σ H,Pv xs.length σ H->D.nx σ H) :
  ∃ W:Nat->Nat->St->Hp->Prop,(∃ m,W 0 m σ H)/\∀ i m σ H,W i m σ H->
   ((i7 K a b).stop i H/\D.nx σ H) ∨ ((i7 K a b).go i H/\∃ N:St->Hp->Prop,(∀ σ' H',N σ' H'->∃ m',m' < m/\W (i+1) m' σ' H')/\∀ x H',(i7 K a b).yld i H x H'->g x σ H' fun σ2 H2=>tb { D with nx:=N,ct:=N,bk:=D.nx } σ2 H2):=by
 refine⟨fun i m σ H=>m=xs.length - i/\i<=xs.length/\Pv i σ H,⟨xs.length,by simp,ay4 _,h0⟩,?_⟩
 rintro i m σ H ⟨rfl,hi,p⟩
 obtain ⟨q1,q2⟩:=hl i σ H hi p
 by_cases hlt:i < xs.length
 ·refine .inr ⟨⟨xs,ys,xs[i],ys[i]'(by omega),q1,q2,by simp,by simp⟩,Pv (i+1),fun σ' H' p'=>⟨xs.length - (i+1),by omega,rfl,hlt,p'⟩,fun x H' y=>?_⟩
  obtain ⟨T,x,y',hT,rfl,e,y⟩:=y
  obtain ⟨h1,h2⟩:=y xs ys q1 q2
  exact hs i x y' T σ H H' h1 h2 hT e p
 ·have e:i=xs.length:=by omega
  subst e
  exact .inl ⟨⟨xs,ys,q1,q2,.inl rfl⟩,hd σ H p⟩
end L2
namespace PP
open PySem L2 Core
def yC (K:PySem.W.Frag):Sp:=fun vs H Q _=>∃ v x px ws ls wts,vs = [v,x]/\vB H v ws ls/\aE K (fun _=>True) H x px/\dJ px wts/\wts.length=ls.length/\(∀ y ∈ wts,0<=y)/\ws.length<=1000/\ls.length<=2000/\(∀ l ∈ ls,(0<=l.1/\l.1 < ws.length)/\0<=l.2/\l.2 < ws.length)/\
 ∀ (r:Addr) (bs:List Addr) (H':Hp),bs.length=ws.length->eM H H' r bs (fun k=>bI (ls.zip wts) k)->Q (.ref r) H'
theorem yD {K:PySem.W.Frag}{M:Addr->Prop}{H:Hp}:∀ {us:List V}{l:List (Int × Int)},c9 H us l->Reps K M H us (c6 l)
 | _,_,.nil=>.nil
 | _,_,.cons ⟨b,h1,h2⟩ t=>.cons (by rw [h1]; exact .tup h2 (.cons (.int _) (.cons (.int _) .nil))) (yD t)
theorem yE {K:PySem.W.Frag}{M:Addr->Prop}{H:Hp}{zs:List ((Int × Int) × Int)}:∀ {bs:List Addr} (off:Nat),(∀ b ∈ bs,M b)->(∀ (k:Nat) b,bs[k]? = some b->∃ us,H b=some (.lst us)/\c9 H us (bI zs ((off+k:Nat):Int)))->Reps K M H (bs.map V.ref) ((List.range' off bs.length).map fun (k:Nat)=>PV.lst (c6 (bI zs k)))
 | [],_,_,_=>.nil
 | b :: bs,off,hm,h=>by
  obtain ⟨us,h1,h2⟩:=h 0 b rfl
  refine .cons (.lst (hm b av5) h1 (yD h2)) (yE (off+1) (fun c hc=>hm c (av1 _ hc)) fun k c hk=>?_)
  have:=h (k+1) c (by rw [aD4]; exact hk)
  rw [show off+1+k=off+(k+1) by omega]; exact this
section
variable {P : Program} {w : World} {K : PySem.W.Frag} {mg : Str → Option Value} {base : Heap} {f : Addr} {fd : FuncData} {k : Nat}
theorem al7 (F:cG P w K mg base cV k f fd ["web","weights"] (yC K)) (b:hV K fd ["web","weights"] []) (kp:PySem.W.keepIn K (.ref f)=true) (m:mg "weighted_lists" = some (.ref f)):Df P w K mg base k "weighted_lists" ["web","weights"] rV:=by
 refine⟨f,fd,F.imp fun vs H Q E h=>?_,b,kp,m⟩
 obtain ⟨xs,Qp,r,⟨ws,ls,x,wts,rfl,wb,hx,hwl,hwp,q⟩,k⟩:=h
 obtain ⟨v,u,rfl,r1,r2⟩:=r.two
 have:=wb.few
 have:=wb.most
 refine⟨v,u,x,ws,ls,wts,rfl,ah4 r1,r2,hx,hwl,hwp,by omega,by omega,wb.links,fun t bs H' hb R=>k _ H' _ R.same (.lst R.new R.row ?_) q⟩
 have:=yE (K:=K) (M:=fun a=>H a=none) (H:=H') (bs:=bs) (zs:=ls.zip wts) 0 (fun b hb=>(R.news b hb).1) fun k b hk=>by rw [Nat.zero_add]; exact R.rows k b hk
 rw [hb,<- List.range_eq_range'] at this
 exact this
end
end PP
namespace Core
open PySem L2 PP
def cN (want:Int) (hs:List Int) (c:PV):Prop:=((hs.length:Int) < want/\c = .non) ∨ (want<=(hs.length:Int)/\∃ zs:List Int,zs.Perm hs/\zs.Pairwise (· <= ·)/\c = .int (zs.take want.toNat).sum)
theorem cN.eq {want:Int}{hs:List Int}{c d:PV} (h:cN want hs c) (g:cN want hs d):c=d:=by
 rcases h with ⟨h1,rfl⟩ | ⟨h1,zs,p,o,rfl⟩ <;> rcases g with ⟨g1,rfl⟩ | ⟨g1,ys,p',o',rfl⟩
 ·rfl
 ·omega
 ·omega
 ·rw [(p.trans p'.symm).eq_of_pairwise (fun x y _ _ h1 h2=>Int.le_antisymm h1 h2) o o']
theorem rW {ns:List Int}{w:Int} (h:0<=w):dD (intz ns) none (some w)=intz (ns.take w.toNat):=by
 rw [aj8 h]; exact List.map_take.symm
def o0:bK:=fun xs Q=>∃ want l,xs = [.int want,.lst (c6 l)]/\l.length < 64/\0<=want/\∀ c,cN want (l.map (·.2)) c->Q c
def yF:aQ:=(aM (cB (aW (j7 (a6 0) (aD cR (a7 (a6 1) aA)))) (bY (qC .non)) cA)
 (bY (aD iK (a7 (j6 (aD iV (a7 (cJ (cI (a6 1)) [none,none] (mK 0 1) cK (a6 1)) aA)) j4 (j5 (a6 0))) aA))))
theorem al8:cY yF ["want","beside"] o0:=by
 rintro xs Q ⟨want,l,rfl,hl,w0,q⟩
 refine⟨_,rfl,_,rfl,_,_,rfl,rfl,_,_,rfl,rfl,_,rfl,?_⟩
 rw [nT]
 by_cases h:(l.length:Int) < want
 ·dsimp only
  rw [aw5 h]
  exact bX ⟨trivial,q _ (.inl ⟨by rw [au8]; exact h,rfl⟩)⟩
 ·dsimp only
  rw [av7 h]
  refine bH ⟨_,rfl,_,rfl,(fun z=>by cases z),by rw [nT]; omega,fun i acc=>acc=intz ((l.take i).map (·.2)),rfl,?_,?_⟩
  ·rintro i y acc hy rfl
   unfold c6 at hy
   rw [aw3] at hy
   cases ht:l[i]? with
   | none=>rw [ht] at hy; cases hy
   | some z=>
    rw [ht] at hy
    cases hy
    refine⟨_,_,rfl,_,rfl,iH _ _,?_⟩
    show intz _ ++ [PV.int z.2]=intz ((l.take (i+1)).map (·.2))
    rw [af8 ht,gU]; rfl
  ·rintro acc rfl
   rw [nT,aC2]
   refine⟨_,rfl,by rw [au8]; exact hl,fun zs zp zo=>⟨_,rfl,_,rfl,_,rfl,cQ _,?_⟩⟩
   refine⟨_,zs.take want.toNat,rfl,congrArg some (rW w0),trivial,q _ (.inr ⟨by rw [au8]; omega,zs,zp,zo,rfl⟩)⟩
def o4:bK:=fun xs Q=>∃ ws ls x wts,xs = [bJ ws ls,x]/\cC (ws.length:Int) ws ls/\ws.length<=40/\dJ x wts/\wts.length=ls.length/\(∀ w ∈ wts,0<=w)/\
 ∀ cs,cs.length=ws.length->(∀ h:Nat,h < ws.length->∃ c,cs[h]? = some c/\cN (ws.getD h 0) ((bI (ls.zip wts) h).map (·.2)) c)->Q (.lst cs)
def yG:aQ:=(bY (cJ (rR (bR (a6 0) (qC (.int 0))) (aD rV (a7 (a6 0) (a7 (a6 1) aA)))) [none,none] (mK 0 1) cK (aD o0 (a7 (a6 0) (a7 (a6 1) aA)))))
theorem yH {zs:List ((Int × Int) × Int)}{k:Int} (h:∀ z ∈ zs,z.1.1 ≠ z.1.2):(bI zs k).map (·.2)=(zs.filter fun z=>decide (k ∈ [z.1.1,z.1.2])).map (·.2):=by
 induction zs with
 | nil=>rfl
 | cons z r ih=>
  have e:bI (z :: r) k=((if z.1.1=k then [(z.1.2,z.2)] else []) ++ (if z.1.2=k then [(z.1.1,z.2)] else [])) ++ bI r k:=rfl
  have h0:=h z av5
  rw [e,ay5,ih fun y hy=>h y (av1 _ hy),List.filter_cons]
  by_cases e1:z.1.1=k
  ·rw [if_pos e1,if_neg (fun e2=>h0 (e1.trans e2.symm)),if_pos (aw5 (by rw [e1]; exact av5))]; rfl
  ·by_cases e2:z.1.2=k
   ·rw [if_neg e1,if_pos e2,if_pos (aw5 (by rw [e2]; exact av1 _ av5))]; rfl
   ·rw [if_neg e1,if_neg e2,if_neg (by simp; exact⟨fun q=>e1 q.symm,fun q=>e2 q.symm⟩)]; rfl
theorem yI {n:Int}{ws:List Int}{ls:List (Int × Int)}{wts:List Int} (w:cC n ws ls) (k:Int):(bI (ls.zip wts) k).length<=63:=by
 have h:∀ z ∈ ls.zip wts,z.1.1 ≠ z.1.2:=fun z hz=>by
  have:=w.inn z.1 (List.of_mem_zip hz).1
  omega
 have e:=congrArg List.length (yH (k:=k) h)
 rw [au8,au8] at e
 have:=List.length_filter_le (fun z=>decide (k ∈ [z.1.1,z.1.2])) (ls.zip wts)
 rw [List.length_zip] at this
 have:=w.most
 omega
theorem al9:cY yG ["web","weights"] o4:=by
 rintro xs Q ⟨ws,ls,x,wts,rfl,w,few,hx,hwl,hwp,q⟩
 have wb:=w.wb (by omega)
 refine⟨_,rfl,_,_,_,rfl,rfl,rfl,_,rfl,_,rfl,ws,ls,x,wts,rfl,wb,hx,hwl,hwp,_,_,rfl,cQ _,.inl rfl,(fun z=>by cases z),?_,fun i acc=>acc.length=i/\∀ h:Nat,h < i->∃ c,acc[h]? = some c/\cN (ws.getD h 0) ((bI (ls.zip wts) h).map (·.2)) c,⟨rfl,fun h z=>absurd z (Nat.not_lt_zero _)⟩,?_,?_⟩
 ·rw [nY,b8]; omega
 ·rintro i y acc hy ⟨hl,ha⟩
  obtain ⟨a,b,h1,h2,rfl⟩:=ak9 hy
  obtain ⟨n,rfl,hn⟩:=nP h1
  have il:i < ws.length:=(av4.mp hn).1
  unfold nZ at h2
  rw [aw3,List.getElem?_range il] at h2
  cases h2
  have n63:=yI (wts:=wts) w (i:Int)
  have gd:ws.getD i 0=n:=by rw [aw6,hn]; rfl
  refine⟨_,_,rfl,_,rfl,_,rfl,n,bI (ls.zip wts) i,rfl,by omega,w.pos n (ax0 hn),fun c hc=>⟨trivial,?_⟩⟩
  refine⟨by rw [aw4,hl]; rfl,fun h hh=>?_⟩
  by_cases e:h=i
  ·subst e
   exact⟨c,by rw [aA2 (by omega),hl,Nat.sub_self]; rfl,by rw [gd]; exact hc⟩
  ·obtain ⟨c',h1,h2⟩:=ha h (by omega)
   exact⟨c',by rw [ay2 (by omega)]; exact h1,h2⟩
 ·rintro acc ⟨hl,ha⟩
  rw [nY,b8] at hl ha
  have ln:(nZ ws.length (ls.zip wts)).length=ws.length:=by unfold nZ; rw [au8,aG6]
  exact⟨trivial,q acc (by omega) fun h hh=>ha h (by omega)⟩
def o5:bK:=ah7
def yJ:aQ:=(aM (cB (mB (aW (mS (bM (cS (a6 2) (qC (.int 4))) (qC (.int 2))) (qC (.int 1)))) (aW (mR (a6 1) (qC (.int 9))))) (bY (aD kX (a7 (aD dU (a7 (a6 0) (a7 (qC (.int 0)) aA))) (a7 (aD dU (a7 (a6 0) (a7 (qC (.int 1)) aA))) (a7 (a6 1) (a7 (bR (cW (a7 (qC (.int 4)) (a7 (qC (.int 3)) (a7 (qC (.int 6)) (a7 (qC (.int 61)) aA))))) (bM (a6 2) (qC (.int 4)))) aA)))))) cA)
 (aM (fW 3 (cW aA))
 (aM (cX (fH (a6 1)) (b7 4)
  (aM (aR 5 (aD dU (a7 (a6 0) (a7 (a6 4) aA))))
  (i8 3 (bR (cW (a7 (bM (cS (a6 5) (qC (.int 5))) (qC (.int 4))) (a7 (bM (cS (a6 5) (qC (.int 5))) (qC (.int 3))) (a7 (bM (cS (a6 5) (qC (.int 5))) (qC (.int 6))) (a7 (bM (cS (a6 5) (qC (.int 5))) (qC (.int 61))) aA))))) (bM (a6 2) (qC (.int 4)))))))
 (aM (fW 6 (qC (.dT [])))
 (aM (cX (cI (a6 0)) (b7 5)
  (cB (aW (j7 (a6 1) (qC (.int 1)))) (aM (aR 7 (bM (a6 5) (a6 1)))
   (aM (aR 8 (bM (cS (bM (w9 (bM (a6 5) (qC (.int 1000000007))) (qC (.int 48271))) (qC (.int 2147483647))) (qC (.int 89))) (a6 1)))
   (cB (aW (kE (a6 7) (a6 8))) (mN 6 (dZ (a7 (aD mG (a7 (a6 7) (a7 (a6 8) aA))) (a7 (aD mH (a7 (a6 7) (a7 (a6 8) aA))) aA))) (qC (.bl true))) cA))) cA))
 (bY (dZ (a7 (aD gN (a7 (a6 3) aA)) (a7 (aD gN (a7 (aD nR (a7 (aD nS (a7 (a6 6) aA)) aA)) aA)) aA)))))))))
theorem am0:cY yJ ["flow","many","way","wants","k","cell","pairs","one","other"] o5:=by
 rintro xs Q ⟨x,ns,n,wy,rfl,hx,hns,n0,n1,q⟩
 exact ai3 hx hns n0 n1 q
def o6:bK:=fun xs Q=>∃ ws ls wts,xs = [bJ ws ls,.lst (intz wts)]/\cC (ws.length:Int) ws ls/\ws.length<=40/\wts.length=ls.length/\
 ∀ cs,cs.length=ws.length->(∀ h:Nat,h < ws.length->∃ c,cs[h]? = some c/\cN (ws.getD h 0) ((bI (ls.zip wts) h).map (·.2)) c)->Q (.lst cs)
def yK:aQ:=(aM (fW 2 (cW aA))
 (aM (cX (fH (aD cR (a7 (bR (a6 0) (qC (.int 0))) aA))) (b7 3)
  (aM (aR 4 (aD iV (a7 (cJ (fH (aD cR (a7 (a6 1) aA))) [none,some 3,some 0,some 1] (b7 0) (aW (q2 (qO false) (a6 1) (bR (bR (a6 2) (qC (.int 1))) (a6 0)))) (bR (a6 3) (a6 0))) aA)))
  (aM (aR 5 (qC .non))
  (aM (cB (aW (qLe (bR (bR (a6 0) (qC (.int 0))) (a6 3)) (aD cR (a7 (a6 4) aA)))) (aR 5 (aD iK (a7 (j6 (a6 4) j4 (j5 (bR (bR (a6 0) (qC (.int 0))) (a6 3)))) aA))) cA)
  (i8 2 (a6 5))))))
 (kA 2)))
theorem am1:cY yK ["web","weights","found","hearth","own","due"] o6:=by
 rintro xs Q ⟨ws,ls,wts,rfl,w,few,hwl,q⟩
 have most:=w.most
 have lz:(ls.zip wts).length=ls.length:=by rw [List.length_zip]; omega
 refine⟨by decide,rfl,rfl,rfl,?_⟩
 refine⟨_,rfl,_,_,_,rfl,rfl,rfl,_,_,rfl,rfl,_,rfl,by rw [b8]; omega,by rw [b8]; omega,fun i ρ=>∃ (cs:List PV) (y3 y4 y5:Option Slot),ρ = [some (.sh (flat (bJ ws ls)) (bJ ws ls)),some (.sh (flat (.lst (intz wts))) (.lst (intz wts))),some (.own (.lst cs)),y3,y4,y5]/\cs.length=i/\∀ h:Nat,h < i->∃ c,cs[h]? = some c/\cN (ws.getD h 0) ((bI (ls.zip wts) h).map (·.2)) c,
  ⟨[],none,none,none,rfl,rfl,fun h z=>absurd z (Nat.not_lt_zero _)⟩,?_,?_⟩
 ·rintro i y ρ hy ⟨cs,y3,y4,y5,rfl,hl,hd⟩
  obtain ⟨rfl,hi⟩:=gT hy
  have il:i < ws.length:=by simpa using hi
  rw [show (0:Int)+(i:Int)=(i:Int) by omega]
  refine rP ?_
  refine⟨_,rfl,_,_,rfl,rfl,_,rfl,by rw [b8]; omega,by rw [b8]; omega,by rw [eI,b8]; omega,fun j acc=>acc=intz ((((ls.zip wts).take j).filter fun z=>decide ((i:Int) ∈ [z.1.1,z.1.2])).map (·.2)),rfl,?_,?_⟩
  ·rintro j y acc hy rfl
   obtain ⟨rfl,hj⟩:=gT hy
   rw [show (0:Int)+(j:Int)=(j:Int) by omega]
   have jw:j < wts.length:=by rw [b8] at hj; omega
   have jl:j < ls.length:=by omega
   have hz:(ls.zip wts)[j]? = some (ls[j],wts[j]):=List.getElem?_zip_eq_some.mpr ⟨av0 jl,av0 jw⟩
   have tk:=af9 (p:=fun z:(Int × Int) × Int=>decide ((i:Int) ∈ [z.1.1,z.1.2])) hz
   have al:atI (ls.map fun l=>PV.tup [.int l.1,.int l.2]) (j:Int)=some (.tup (intz [ls[j].1,ls[j].2])):=jS (by rw [aw3,av0 jl]; rfl)
   have aw:atI (intz wts) (j:Int)=some (.int wts[j]):=jS (by rw [aw3,av0 jw]; rfl)
   refine⟨_,rfl,_,rfl,_,_,_,rfl,rfl,rfl,_,rfl,_,_,_,rfl,rfl,al,(i:Int),[ls[j].1,ls[j].2],rfl,rfl,_,rfl,?_⟩
   show if decide ((i:Int) ∈ [ls[j].1,ls[j].2])=true then _ else _
   by_cases hm:(i:Int) ∈ [ls[j].1,ls[j].2]
   ·rw [if_pos (aw5 hm)] at tk
    rw [aw5 hm]
    refine bX ⟨_,rfl,_,rfl,_,_,_,rfl,rfl,aw,iH _ _,?_⟩
    show _=_
    rw [tk,ay5,gU]; rfl
   ·rw [if_neg (by simpa using hm),aD2] at tk
    rw [av7 hm]
    refine bH ?_
    show _=_
    rw [tk]
  ·rintro acc rfl
   rw [eI,b8,ay7 (by omega)]
   have ne:∀ z ∈ ls.zip wts,z.1.1 ≠ z.1.2:=fun z hz=>by
    have:=w.inn z.1 (List.of_mem_zip hz).1
    omega
   rw [<- yH ne]
   have n63:=yI (wts:=wts) w (i:Int)
   refine⟨_,rfl,by rw [au8]; omega,fun zs zp zo=>⟨trivial,?_⟩⟩
   refine⟨trivial,?_⟩
   have wp:=aj9 w i
   have zl:=zp.length_eq
   have nx:∀ (d:PV) (y3 y4 y5:Option Slot),cN (ws.getD i 0) ((bI (ls.zip wts) i).map (·.2)) d->∃ (cs':List PV) (z3 z4 z5:Option Slot),[some (Slot.sh (flat (bJ ws ls)) (bJ ws ls)),some (.sh (flat (.lst (intz wts))) (.lst (intz wts))),some (.own (.lst (cs ++ [d]))),y3,y4,y5] = [some (.sh (flat (bJ ws ls)) (bJ ws ls)),some (.sh (flat (.lst (intz wts))) (.lst (intz wts))),some (.own (.lst cs')),z3,z4,z5]/\cs'.length=i+1/\∀ h:Nat,h < i+1->∃ c,cs'[h]? = some c/\cN (ws.getD h 0) ((bI (ls.zip wts) h).map (·.2)) c:=fun d y3 y4 y5 hd'=>by
    refine⟨cs ++ [d],_,_,_,rfl,by rw [aw4,hl]; rfl,fun h hh=>?_⟩
    by_cases e:h=i
    ·subst e
     exact⟨d,by rw [aA2 (by omega),hl,Nat.sub_self]; rfl,hd'⟩
    ·obtain ⟨c',h1,h2⟩:=hd h (by omega)
     exact⟨c',by rw [ay2 (by omega)]; exact h1,h2⟩
   refine⟨_,rfl,_,_,_,rfl,rfl,rfl,_,rfl,_,_,_,rfl,rfl,rK (by omega) (by omega),_,rfl,_,_,rfl,rfl,_,_,rfl,rfl,_,rfl,?_⟩
   dsimp only
   rw [b8,zl,show ((i:Int)).toNat=i from rfl]
   by_cases h:ws.getD i 0<=((((bI (ls.zip wts) i).map (·.2)).length:Nat):Int)
   ·rw [aw5 h]
    refine bX ⟨_,rfl,_,rfl,_,_,_,rfl,rfl,rfl,_,rfl,_,_,_,rfl,rfl,rK (by omega) (by omega),_,rfl,_,rfl,cQ _,?_⟩
    refine⟨_,zs.take (ws.getD i 0).toNat,rfl,congrArg some (rW wp),trivial,?_⟩
    exact⟨_,rfl,_,rfl,iH _ _,by omega,nx _ _ _ _ (.inr ⟨h,zs,zp,zo,rfl⟩)⟩
   ·rw [av7 h]
    exact bH ⟨_,rfl,_,rfl,trivial,by omega,nx _ _ _ _ (.inl ⟨by omega,rfl⟩)⟩
 ·rintro ρ ⟨cs,y3,y4,y5,rfl,hl,hd⟩
  rw [eI,b8] at hl hd
  exact⟨_,rfl,trivial,q cs (by omega) fun h hh=>hd h (by omega)⟩
theorem rX:∀ {l:List Int},(∀ x ∈ l,0<=x)->0<=l.sum
 | [],_=>by simp
 | x :: r,h=>by
  have h1:=h x av5
  have h2:=rX fun y hy=>h y (av1 _ hy)
  rw [List.sum_cons]; omega
theorem yL {l:List Int}{i:Nat} (h:i < l.length):(l.take (i+1)).sum=(l.take i).sum+l[i]:=by
 rw [aB1,av0 h,List.sum_append]; simp
theorem yM {zs:List Int} (hp:∀ x ∈ zs,0<=x) {i j:Nat} (h:i<=j):(zs.take i).sum<=(zs.take j).sum:=by
 induction h with
 | refl=>exact aD9 _
 | @step k _ ih=>
  by_cases hk:k < zs.length
  ·rw [yL hk]
   have:=hp _ (aC1 hk)
   omega
  ·have e1:zs.take (k+1)=zs:=ay7 (by omega)
   have e2:zs.take k=zs:=ay7 (by omega)
   rw [e1]; rw [e2] at ih; exact ih
def fM (zs:List Int) (s:Int):Nat:=((List.range zs.length).filter fun i=>decide ((zs.take (i+1)).sum<=s)).length
theorem am2 (n k:Nat) (p:Nat->Bool) (h:∀ i,i < k->p i=true) (hk:k<=n):k<=((List.range n).filter p).length:=by
 have e:List.range n=List.range k ++ (List.range' k (n - k)):=by
  have:=List.range'_append_1 (s:=0) (m:=k) (n:=n - k)
  rw [Nat.zero_add,show k+(n - k)=n by omega] at this
  rw [List.range_eq_range',List.range_eq_range']; exact this.symm
 rw [e,List.filter_append,aw4,List.filter_eq_self.mpr fun i hi=>h i (List.mem_range.mp hi),aG6]
 exact ax2 _ _
theorem am3 (n k:Nat) (p:Nat->Bool) (h:∀ i,i < n->k<=i->p i=false):((List.range n).filter p).length<=k:=by
 induction n with
 | zero=>exact ay4 _
 | succ n ih=>
  rw [List.range_succ,List.filter_append,aw4]
  by_cases hk:k<=n
  ·have : [n].filter p = []:=by rw [List.filter_cons,h n (by omega) hk]; rfl
   rw [this]
   exact ih fun i hi hki=>h i (by omega) hki
  ·have h1:=List.length_filter_le p (List.range n)
   have h2:=List.length_filter_le p [n]
   rw [aG6] at h1
   rw [aC9] at h2
   omega
theorem am4 {zs:List Int}{s:Int} (hp:∀ x ∈ zs,0<=x) {k:Nat} (hk:k<=zs.length) (h:(zs.take k).sum<=s):k<=fM zs s:=
 am2 _ _ _ (fun i hi=>aw5 (Int.le_trans (yM hp (by omega)) h)) hk
theorem am5 {zs:List Int}{s:Int} (hp:∀ x ∈ zs,0<=x) {k:Nat} (h:k < zs.length->s < (zs.take (k+1)).sum):fM zs s<=k:=
 am3 _ _ _ fun i hi hk=>av7 (by
  have h1:=h (by omega)
  have h2:=yM hp (show k+1<=i+1 by omega)
  omega)
theorem am6 (zs:List Int) (s:Int):fM zs s<=zs.length:=by
 have:=List.length_filter_le (fun i=>decide ((zs.take (i+1)).sum<=s)) (List.range zs.length)
 rwa [aG6] at this
structure gW (ws:List Int) (ls:List (Int × Int)) (wts:List Int) (os:List (Option Int)):Prop where
 len:os.length=ws.length
 due:∀ h:Nat,h < ws.length->∃ o,os[h]? = some o/\cN (ws.getD h 0) ((bI (ls.zip wts) h).map (·.2)) (g6 o)
theorem cN.opt {want:Int}{hs:List Int}{c:PV} (h:cN want hs c):∃ o,c=g6 o:=by
 rcases h with ⟨_,rfl⟩ | ⟨_,zs,_,_,rfl⟩
 ·exact⟨none,rfl⟩
 ·exact⟨some _,rfl⟩
theorem am7 {P:Nat->PV->Prop} (hP:∀ h c,P h c->∃ o,c=g6 o):∀ {cs:List PV},(∀ h:Nat,h < cs.length->∃ c,cs[h]? = some c/\P h c)->∃ os:List (Option Int),cs=os.map g6:=by
 intro cs
 have key:∀ (cs:List PV) (off:Nat),(∀ h:Nat,h < cs.length->∃ c,cs[h]? = some c/\P (off+h) c)->∃ os:List (Option Int),cs=os.map g6:=fun cs=>by
  induction cs with
  | nil=>exact fun _ _=>⟨[],rfl⟩
  | cons c r ih=>
   intro off h
   obtain ⟨c',e,p⟩:=h 0 (by rw [aA8]; omega)
   cases e
   obtain ⟨o,rfl⟩:=hP _ _ p
   obtain ⟨os,rfl⟩:=ih (off+1) fun k hk=>by
    obtain ⟨c',e,p⟩:=h (k+1) (by rw [aA8]; omega)
    exact⟨c',by rw [aD4] at e; exact e,by rw [show off+1+k=off+(k+1) by omega]; exact p⟩
   exact⟨o :: os,rfl⟩
 intro h
 exact key cs 0 fun k hk=>by
  obtain ⟨c,e,p⟩:=h k hk
  exact⟨c,e,by rw [Nat.zero_add]; exact p⟩
theorem yN {ws:List Int}{ls:List (Int × Int)}{wts:List Int}{cs:List PV} (cl:cs.length=ws.length) (hc:∀ h:Nat,h < ws.length->∃ c,cs[h]? = some c/\cN (ws.getD h 0) ((bI (ls.zip wts) h).map (·.2)) c):∃ os,cs=os.map g6/\gW ws ls wts os:=by
 obtain ⟨os,rfl⟩:=am7 (P:=fun h c=>cN (ws.getD h 0) ((bI (ls.zip wts) h).map (·.2)) c) (fun h c p=>p.opt) (cs:=cs) (fun h hh=>hc h (by omega))
 rw [au8] at cl
 refine⟨os,rfl,cl,fun h hh=>?_⟩
 obtain ⟨c,e,p⟩:=hc h hh
 rw [aw3] at e
 cases q:os[h]? with
 | none=>rw [q] at e; cases e
 | some o=>rw [q] at e; cases e; exact⟨o,rfl,p⟩
theorem gW.eq {ws:List Int}{ls:List (Int × Int)}{wts:List Int}{os ps:List (Option Int)} (h:gW ws ls wts os) (g:gW ws ls wts ps):os=ps:=by
 apply List.ext_getElem?
 intro i
 by_cases hi:i < ws.length
 ·obtain ⟨o,e1,d1⟩:=h.due i hi
  obtain ⟨p,e2,d2⟩:=g.due i hi
  have:=d1.eq d2
  rw [e1,e2]
  cases o <;> cases p <;> cases this <;> rfl
 ·rw [List.getElem?_eq_none (by have:=h.len; omega),List.getElem?_eq_none (by have:=g.len; omega)]
theorem cN.pos {want:Int}{hs:List Int}{v:Int} (h:cN want hs (.int v)) (hp:∀ x ∈ hs,0<=x):0<=v:=by
 rcases h with ⟨_,e⟩ | ⟨_,zs,p,_,e⟩
 ·cases e
 ·cases e
  exact rX fun x hx=>hp x (p.mem_iff.mp (aE6 hx))
theorem am8 {ls:List (Int × Int)}{wts:List Int} (hp:∀ w ∈ wts,0<=w) (k:Int):∀ x ∈ (bI (ls.zip wts) k).map (·.2),0<=x:=by
 intro x hx
 obtain ⟨p,hp',rfl⟩:=ax8.mp hx
 unfold bI at hp'
 obtain ⟨z,hz,h⟩:=List.mem_flatMap.mp hp'
 have:=hp z.2 (List.of_mem_zip hz).2
 rcases ax5.mp h with h | h
 ·split at h
  ·rw [av2.mp h]; exact this
  ·cases h
 ·split at h
  ·rw [av2.mp h]; exact this
  ·cases h
theorem gW.pos {ws:List Int}{ls:List (Int × Int)}{wts:List Int}{os:List (Option Int)} (h:gW ws ls wts os) (hp:∀ w ∈ wts,0<=w):∀ v ∈ os.filterMap id,0<=v:=by
 intro v hv
 obtain ⟨o,ho,e⟩:=List.mem_filterMap.mp hv
 obtain ⟨i,hi,e2⟩:=aC7 ho
 obtain ⟨o',h1,h2⟩:=h.due i (by have:=h.len; omega)
 rw [av0 hi,e2] at h1
 cases h1
 cases o with
 | none=>cases e
 | some w=>
  cases e
  exact cN.pos h2 (am8 hp _)
theorem yO {os:List (Option Int)}{i:Nat}{o:Option Int} (h:os[i]? = some o):(os.take (i+1)).filterMap id=(os.take i).filterMap id ++ o.toList:=by
 rw [aB1,h,List.filterMap_append]
 cases o <;> rfl
def o7:bK:=fun xs Q=>∃ ws ls x wts,xs = [bJ ws ls,x]/\cC (ws.length:Int) ws ls/\ws.length<=40/\dJ x wts/\wts.length=ls.length/\(∀ w ∈ wts,0<=w)/\
 ∀ os zs,gW ws ls wts os->zs.Perm (os.filterMap id)->zs.Pairwise (· <= ·)->Q (.int (fM zs wts.sum))
def yP:aQ:=(aM (aR 2 (aD iV (a7 (cJ (cI (aD o4 (a7 (a6 0) (a7 (a6 1) aA)))) [none] (b7 0) (aW (wA (a6 0) (qC .non))) (a6 0)) aA)))
 (aM (aR 3 (qC (.int 0)))
 (aM (aR 4 (aD iK (a7 (a6 1) aA)))
 (aM (cX (cI (a6 2)) (b7 5)
  (aM (aR 4 (mQ (a6 4) (a6 5)))
  (cB (aW (qGe (a6 4) (qC (.int 0)))) (aR 3 (mO (a6 3) (qC (.int 1)))) cA)))
 (kA 3)))))
theorem rY {os:List (Option Int)}:(os.filterMap id).length<=os.length:=List.length_filterMap_le _ _
theorem am9:cY yP ["web","weights","known","many","left","due"] o7:=by
 rintro xs Q ⟨ws,ls,x,wts,rfl,w,few,hx,hwl,hwp,q⟩
 refine⟨_,rfl,_,rfl,ws,ls,x,wts,rfl,w,few,hx,hwl,hwp,fun cs cl hc=>⟨_,rfl,(fun z=>by cases z),by omega,?_⟩⟩
 obtain ⟨os,rfl,ds⟩:=yN cl hc
 have ol:=ds.len
 refine⟨fun i acc=>acc=intz ((os.take i).filterMap id),rfl,?_,?_⟩
 ·rintro i y acc hy rfl
  rw [aw3] at hy
  cases ho:os[i]? with
  | none=>rw [ho] at hy; cases hy
  | some o=>
   rw [ho] at hy
   cases hy
   have tk:=yO ho
   cases o with
   | none=>
    refine⟨_,rfl,rfl,_,rfl,bH ?_⟩
    show _=_
    rw [tk]; simp
   | some v=>
    refine⟨_,rfl,rfl,_,rfl,bX ⟨_,rfl,iH _ _,?_⟩⟩
    show _=_
    rw [tk,gU]; rfl
 ·rintro acc rfl
  rw [au8,aC2]
  have fl:=rY (os:=os)
  refine⟨_,rfl,by omega,fun zs zp zo=>⟨trivial,?_⟩⟩
  have zl:=zp.length_eq
  refine⟨trivial,?_⟩
  refine⟨_,rfl,_,_,rfl,hx.seq,trivial,?_⟩
  refine⟨_,rfl,_,rfl,(fun z=>by cases z),fun i ρ=>∃ y,ρ = [some (.sh (flat (bJ ws ls)) (bJ ws ls)),some (.sh (flat x) x),some (.sh true (.lst (intz zs))),si (((List.range i).filter fun j=>decide ((zs.take (j+1)).sum<=wts.sum)).length:Nat),si (wts.sum - (zs.take i).sum),y],⟨none,?_⟩,?_,?_⟩
  ·show _ = [_,_,_,_,si (wts.sum - ([]:List Int).sum),_]
   rw [List.sum_nil,Int.sub_zero]; rfl
  ·rintro i y ρ hy ⟨y0,rfl⟩
   obtain ⟨v,rfl,hv⟩:=nP hy
   have il:i < zs.length:=(av4.mp hv).1
   have ev:zs[i]=v:=(av4.mp hv).2
   have ts:=yL il
   rw [ev] at ts
   have rs:(List.range (i+1)).filter (fun j=>decide ((zs.take (j+1)).sum<=wts.sum))=(List.range i).filter (fun j=>decide ((zs.take (j+1)).sum<=wts.sum)) ++ (if decide ((zs.take (i+1)).sum<=wts.sum)=true then [i] else []):=by
    rw [List.range_succ,List.filter_append]
    congr 1
    cases e:decide ((zs.take (i+1)).sum<=wts.sum) <;> simp [e]
   refine rP ?_
   refine⟨_,rfl,_,rfl,_,_,rfl,rfl,trivial,?_⟩
   refine⟨_,rfl,_,_,rfl,rfl,_,rfl,?_⟩
   dsimp only
   have e4:wts.sum - (zs.take i).sum - v=wts.sum - (zs.take (i+1)).sum:=by omega
   rw [e4]
   by_cases h:(zs.take (i+1)).sum<=wts.sum
   ·rw [if_pos (aw5 h)] at rs
    rw [aw5 (by omega)]
    refine bX ⟨_,rfl,_,_,rfl,rfl,trivial,si v,?_⟩
    rw [rs,aw4]
    show [_,_,_,some (Slot.sh _ (.int _)),_,_] = [_,_,_,si (((_:Nat):Int)),_,_]
    rw [show ((((List.range i).filter fun j=>decide ((zs.take (j+1)).sum<=wts.sum)).length + [i].length:Nat):Int)=(((List.range i).filter fun j=>decide ((zs.take (j+1)).sum<=wts.sum)).length:Int)+1 by rw [aC9]; omega]
    rfl
   ·rw [if_neg (by simpa using h),aD2] at rs
    rw [av7 (by omega)]
    refine bH ⟨si v,?_⟩
    rw [rs]
    rfl
  ·rintro ρ ⟨y,rfl⟩
   rw [b8]
   exact⟨_,rfl,trivial,q os zs ds zp zo⟩
theorem lY {ls:List (Int × Int)}{wts:List Int} (e:wts.length=ls.length):(ls.zip wts).map (·.2)=wts:=by
 rw [List.map_snd_zip]; omega
structure gX (ws:List Int) (ls:List (Int × Int)) (wts zs:List Int):Prop where
 ex:∃ os,gW ws ls wts os/\zs.Perm (os.filterMap id)/\zs.Pairwise (· <= ·)
theorem gX.eq {ws:List Int}{ls:List (Int × Int)}{wts zs ys:List Int} (h:gX ws ls wts zs) (g:gX ws ls wts ys):zs=ys:=by
 obtain ⟨os,d1,p1,o1⟩:=h.ex
 obtain ⟨ps,d2,p2,o2⟩:=g.ex
 obtain rfl:=d1.eq d2
 exact (p1.trans p2.symm).eq_of_pairwise (fun x y _ _ h1 h2=>Int.le_antisymm h1 h2) o1 o2
theorem gX.len {ws:List Int}{ls:List (Int × Int)}{wts zs:List Int} (h:gX ws ls wts zs):zs.length<=ws.length:=by
 obtain ⟨os,d1,p1,o1⟩:=h.ex
 have:=rY (os:=os)
 have:=p1.length_eq
 have:=d1.len
 omega
def o8:bK:=fun xs Q=>∃ ws ls x wts,xs = [bJ ws ls,x]/\cC (ws.length:Int) ws ls/\ws.length<=40/\dJ x wts/\wts.length=ls.length/\(∀ w ∈ wts,0<=w)/\∀ zs,gX ws ls wts zs->Q (.int ((ws.length:Int) - (fM zs wts.sum:Int)))
def yQ:aQ:=(bY (mQ (aD nQ (a7 (a6 0) aA)) (aD o7 (a7 (a6 0) (a7 (a6 1) aA)))))
theorem an0:cY yQ ["web","weights"] o8:=by
 rintro xs Q ⟨ws,ls,x,wts,rfl,w,few,hx,hwl,hwp,q⟩
 exact⟨_,rfl,ws,ls,rfl,_,rfl,_,rfl,ws,ls,x,wts,rfl,w,few,hx,hwl,hwp,fun os zs d p o=>⟨_,_,rfl,rfl,trivial,q zs ⟨os,d,p,o⟩⟩⟩
def o9:bK:=fun xs Q=>∃ (os:List (Option Int)) (room:Int),xs = [.lst (os.map g6),.int room]/\os.length<=40/\(∀ v ∈ os.filterMap id,0<=v)/\0<=room/\∀ zs,zs.Perm (os.filterMap id)->zs.Pairwise (· <= ·)->Q (.int ((os.length:Int) - (fM zs room:Int)))
def yR:aQ:=(aM (aR 2 (aD iV (a7 (cJ (cI (a6 0)) [none] (b7 0) (aW (wA (a6 0) (qC .non))) (a6 0)) aA)))
 (aM (aR 3 (mQ (aD cR (a7 (a6 0) aA)) (aD cR (a7 (a6 2) aA))))
 (aM (qG (aW (j7 (aD iK (a7 (j6 (a6 2) j4 (j5 (mQ (aD cR (a7 (a6 0) aA)) (a6 3)))) aA)) (a6 1)))
  (aR 3 (mO (a6 3) (qC (.int 1)))))
 (kA 3))))
theorem an1:cY yR ["own","room","there","bound"] o9:=by
 rintro xs Q ⟨os,room,rfl,ol,op,r0,q⟩
 have fl:=rY (os:=os)
 refine⟨_,rfl,_,rfl,(fun z=>by cases z),by rw [au8]; omega,fun i acc=>acc=intz ((os.take i).filterMap id),rfl,?_,?_⟩
 ·rintro i y acc hy rfl
  rw [aw3] at hy
  cases ho:os[i]? with
  | none=>rw [ho] at hy; cases hy
  | some o=>
   rw [ho] at hy
   cases hy
   have tk:=yO ho
   cases o with
   | none=>
    refine⟨_,rfl,rfl,_,rfl,bH ?_⟩
    show _=_
    rw [tk]; simp
   | some v=>
    refine⟨_,rfl,rfl,_,rfl,bX ⟨_,rfl,iH _ _,?_⟩⟩
    show _=_
    rw [tk,gU]; rfl
 ·rintro acc rfl
  rw [au8,aC2]
  refine⟨_,rfl,by omega,fun zs zp zo=>⟨trivial,?_⟩⟩
  have zl:=zp.length_eq
  have zpos:∀ x ∈ zs,0<=x:=fun x hx=>op x (zp.mem_iff.mp hx)
  refine⟨_,rfl,_,_,rfl,rfl,_,rfl,_,_,rfl,rfl,_,_,rfl,rfl,trivial,?_⟩
  rw [au8,b8]
  refine⟨fun m ρ=>∃ k:Nat,m=k/\k<=zs.length/\ρ = [some (.sh (flat (.lst (os.map g6))) (.lst (os.map g6))),si room,some (.sh true (.lst (intz zs))),si ((os.length:Int) - (k:Int))]/\(k < zs.length->room < (zs.take (k+1)).sum),⟨zs.length,zs.length,rfl,au7 _,rfl,fun h=>absurd h (az5 _)⟩,?_⟩
  rintro k ρ ⟨_,rfl,hk,rfl,hgt⟩
  refine⟨_,rfl,_,rfl,_,_,rfl,rfl,_,rfl,_,_,rfl,rfl,_,rfl,_,rfl,cQ _,?_⟩
  refine⟨_,zs.take k,rfl,?_,_,rfl,_,_,rfl,rfl,_,rfl,?_⟩
  ·rw [au8]
   show some (dD (intz zs) none (some ((os.length:Int) - ((os.length:Int) - (k:Int)))))=_
   rw [show (os.length:Int) - ((os.length:Int) - (k:Int))=(k:Int) by omega,rW (by omega)]; rfl
  dsimp only
  by_cases h:room < (zs.take k).sum
  ·rw [aw5 h]
   have kp:0 < k:=by
    cases k with
    | zero=>rw [List.take_zero,List.sum_nil] at h; omega
    | succ k=>omega
   refine bX ⟨_,rfl,_,_,rfl,rfl,trivial,k - 1,by omega,k - 1,rfl,by omega,?_,fun _=>by rw [show k - 1+1=k by omega]; exact h⟩
   show [_,_,_,some (Slot.sh _ (.int _))] = [_,_,_,si _]
   rw [show (os.length:Int) - (k:Int)+1=(os.length:Int) - ((k - 1:Nat):Int) by omega]
   rfl
  ·rw [av7 h]
   refine bH ⟨_,rfl,trivial,?_⟩
   have b1:=am4 zpos hk (show (zs.take k).sum<=room by omega)
   have b2:=am5 zpos hgt
   have:=q zs zp zo
   rw [show fM zs room=k by omega] at this
   exact this
section
variable {ws : List Int} {ls : List (Int × Int)} {ns wts : List Int} {m : Nat}
def loose (ls:List (Int × Int)) (wts ns:List Int):List ((Int × Int) × Int):=(ls.zip wts).filter fun z=>!(decide (z.1.1 ∈ ns) && decide (z.1.2 ∈ ns))
end
def oA:bK:=fun xs Q=>∃ ns k m,xs = [.scr ns,.int k,.int m]/\ns.length<=63/\0<=k/\0<=m/\m<=39/\∀ n ws ls,0<=n->n<=m->cC n ws ls->Q (bJ ws ls)
def yS:aQ:=(aM (aR 3 (bM (aD dU (a7 (a6 0) (a7 (qC (.int 0)) aA))) (mO (a6 2) (qC (.int 1)))))
 (bY (aD o5 (a7 (j6 (a6 0) (j5 (a6 1)) j4) (a7 (a6 3) (a7 (cS (aD dU (a7 (a6 0) (a7 (qC (.int 0)) aA))) (qC (.int 1476))) aA))))))
theorem an2:cY yS ["script","at","most","many"] oA:=by
 rintro xs Q ⟨ns,k,m,rfl,hl,k0,m0,m1,q⟩
 refine⟨_,rfl,_,ns,0,rfl,.inl rfl,by decide,_,rfl,_,_,rfl,rfl,_,_,rfl,rfl,(by show (0:Int) < m+1; omega),trivial,?_⟩
 have a1:=aG4 (ns.getD (0:Int).toNat 0) (show m+1 ≠ 0 by omega)
 have a2:=Int.emod_lt_of_pos (ns.getD (0:Int).toNat 0) (show (0:Int) < m+1 by omega)
 refine⟨_,rfl,_,rfl,_,rfl,_,rfl,cQ _,_,rfl,_,rfl,_,ns,0,rfl,.inl rfl,by decide,_,_,rfl,rfl,⟨by decide,by decide⟩,_,ns.drop k.toNat,_,_,rfl,?_,by rw [List.length_drop]; omega,a1,by omega,fun ws ls w=>⟨trivial,q _ ws ls a1 (by omega) w⟩⟩
 show fZ (.lst (dD (intz ns) (some k) none)) _
 rw [ai4 ns k0]
 exact .inr rfl
end Core
set_option maxHeartbeats 1000000
set_option maxHeartbeats 1000000
set_option maxHeartbeats 1000000
set_option maxHeartbeats 1000000
namespace PP
open PySem L2 PyProof.Rows
section
variable {X : Cx} {σ : L2.St} {H : Hp} {D : dA} {tr : bU} {Q' : VK} {a b c e : Expr} {es : List Expr} {pos p2 cp np hp : Pos} {t : aQ} {te : aB} {tc : bO}
def lN:V->Value
 | .ref a=>.ref a
 | .ty n=>.type n
 | _=>.none
end
end PP
namespace PP
open PySem L2
theorem jF {us:List Value} (h:us.length=1):∃ a,us = [a]:=List.length_eq_one_iff.mp h
theorem iL {us:List Value} (h:us.length=2):∃ a b,us = [a,b]:=by
 cases us with
 | nil=>cases h
 | cons a r=>
  obtain ⟨b,rfl⟩:=jF (us:=r) (by simpa using h)
  exact⟨a,b,rfl⟩
theorem yT {us:List Value} (h:us.length=3):∃ a b c,us = [a,b,c]:=by
 cases us with
 | nil=>cases h
 | cons a r=>
  obtain ⟨b,c,rfl⟩:=iL (us:=r) (by simpa using h)
  exact⟨a,b,c,rfl⟩
theorem us4 {us:List Value} (h:us.length=4):∃ a b c d,us = [a,b,c,d]:=by
 cases us with
 | nil=>cases h
 | cons a r=>
  obtain ⟨b,c,d,rfl⟩:=yT (us:=r) (by simpa using h)
  exact⟨a,b,c,d,rfl⟩
end PP
namespace Core
open PySem L2 PP
section
variable {ws : List Int} {ls : List (Int × Int)}
def cne (ws:List Int) (ls:List (Int × Int)) (S:List Int):Bool:=!decide (S = []) && decide (stay ws ls S=S)
theorem an3 {a b:List (List Int)} (h:a.Perm b) (ha:a.Pairwise fun u v=>HT.aY v u=false) (hb:b.Pairwise fun u v=>HT.aY v u=false):a=b:=
 h.eq_of_pairwise (fun x y _ _ h1 h2=>pV h2 h1) ha hb
end
def far (ns S:List Int):Bool:=decide (((S.filter fun x=>decide (x ∈ ns)).length:Int)=0)
def yU (ws:List Int) (ls:List (Int × Int)):List Int->List Int->Bool
 | _,[]=>true
 | B,h :: R=>inB ws.length h && (kin ws ls B h && yU ws ls (B ++ [h]) R)
end Core
namespace Raw
open PySem PySem.W PySem.Calls PyProof.Rows
theorem rZ {xs:List Nat} (a:xs.Pairwise (· < ·)) {i k:Nat} (hk:k < xs.length) (h:i<=k):xs.getD i 0<=xs.getD k 0:=by
 rcases ay9 i k with z | z
 ·have:=az3.mp a i k (by omega) hk z
  rw [aw6,aw6,av0 (by omega),av0 hk]
  exact aB7 this
 ·rw [Nat.le_antisymm h z]; exact au7 _
theorem an4 {xs:Array Nat}{i j:Nat} (h:i < xs.size):xs.getD i j=xs.toList.getD i 0:=by
 rw [aw6,aD0,aD6,Array.getElem?_eq_getElem h]; rfl
theorem sA {xs:Array Nat}{j:Nat} (a:xs.toList.Pairwise (· < ·)):∀ (fuel lo hi:Nat),lo<=hi->hi<=xs.size->hi - lo<=fuel->(∀ i,i < lo->xs.toList.getD i 0 < j)->(∀ i,hi<=i->i < xs.size->j<=xs.toList.getD i 0)->
  SetTable.below.go xs j fuel lo hi<=xs.size/\(∀ i,i < SetTable.below.go xs j fuel lo hi->xs.toList.getD i 0 < j)/\∀ i,SetTable.below.go xs j fuel lo hi<=i->i < xs.size->j<=xs.toList.getD i 0
 | 0,lo,hi,h1,h2,h3,h4,h5=>by
  have e:lo=hi:=by omega
  subst e
  exact⟨h2,h4,h5⟩
 | fuel+1,lo,hi,h1,h2,h3,h4,h5=>by
  have sz:xs.toList.length=xs.size:=az6
  unfold SetTable.below.go
  by_cases lt:lo < hi
  ·rw [if_pos lt]
   dsimp only
   have m1:lo<=(lo+hi) / 2:=by omega
   have m2:(lo+hi) / 2 < hi:=by omega
   rw [an4 (by omega)]
   by_cases c:xs.toList.getD ((lo+hi) / 2) 0 < j
   ·rw [if_pos c]
    exact sA a fuel _ _ (by omega) h2 (by omega) (fun i hi'=>Nat.lt_of_le_of_lt (rZ a (by omega) (by omega)) c) h5
   ·rw [if_neg c]
    exact sA a fuel _ _ (by omega) (by omega) (by omega) h4 fun i h6 h7=>ay6 (aF4 c) (rZ a (by omega) h6)
  ·rw [if_neg lt]
   have e:lo=hi:=by omega
   subst e
   exact⟨h2,h4,h5⟩
theorem an5 {xs:Array Nat}{j:Nat} (a:xs.toList.Pairwise (· < ·)):SetTable.below xs j<=xs.size/\(∀ i,i < SetTable.below xs j->xs.toList.getD i 0 < j)/\∀ i,SetTable.below xs j<=i->i < xs.size->j<=xs.toList.getD i 0:=
 sA a xs.size 0 xs.size (ay4 _) (au7 _) (by omega) (fun i h=>absurd h (Nat.not_lt_zero _)) fun i h1 h2=>absurd h2 (by omega)
theorem an6 {α:Type} (xs:Array α) (p:Nat) (x:α):(SetTable.insertAt xs p x).toList=xs.toList.take p ++ x :: xs.toList.drop p:=by
 unfold SetTable.insertAt
 simp
 exact ay7 (by simp)
theorem an7 {xs:Array Nat}{j:Nat} (a:xs.toList.Pairwise (· < ·)) (ne:xs[SetTable.below xs j]? ≠ some j):(SetTable.insertAt xs (SetTable.below xs j) j).toList.Pairwise (· < ·):=by
 obtain ⟨b1,b2,b3⟩:=an5 (j:=j) a
 have sz:xs.toList.length=xs.size:=az6
 rw [an6]
 refine ay0.mpr ⟨a.sublist (List.take_sublist _ _),List.pairwise_cons.mpr ⟨fun x hx=>?_,a.sublist (List.drop_sublist _ _)⟩,fun x hx y hy=>?_⟩
 ·obtain ⟨i,hi,e⟩:=aC7 hx
  rw [List.length_drop] at hi
  rw [List.getElem_drop] at e
  have h1:=b3 (SetTable.below xs j) (au7 _) (by omega)
  have h2:=rZ a (i:=SetTable.below xs j) (k:=SetTable.below xs j+i) (by omega) (by omega)
  have h3:xs.toList.getD (SetTable.below xs j+i) 0=x:=by rw [aw6,av0 (by omega),e]; rfl
  rcases ay9 j x with z | z
  ·exact z
  ·exfalso
   have h4:xs.toList.getD (SetTable.below xs j) 0=j:=by omega
   rw [aw6,av0 (by omega)] at h4
   refine ne ?_
   rw [<- aD0,av0 (by omega)]
   exact congrArg some h4
 ·have hx':x < j:=by
   obtain ⟨i,hi,e⟩:=aC7 hx
   rw [aF3] at hi
   rw [List.getElem_take] at e
   have:=b2 i (by omega)
   rw [aw6,av0 (by omega),e] at this
   exact this
  rcases av8.mp hy with e | hy
  ·rw [e]; exact hx'
  ·obtain ⟨i,hi,e⟩:=aC7 hy
   rw [List.length_drop] at hi
   rw [List.getElem_drop] at e
   have:=b3 (SetTable.below xs j+i) (by omega) (by omega)
   rw [aw6,av0 (by omega),e] at this
   exact av6 hx' this
structure fA (b:Bool) (t:SetTable):Prop where
 asc:t.place.toList.Pairwise (· < ·)
 dm:t.dummies = #[]
 led:t.led=b
theorem yV (j:Nat):SetTable.has #[] j=false:=by
 unfold SetTable.has
 simp
theorem yW {t:SetTable} (dm:t.dummies = #[]) {h:Int}{j:Nat}{d:Option Nat}:∀ (fuel:Nat) (p:SetTable.Probe),p.dummy=none->SetTable.probe.go t (fun _=>h+1) h fuel p=some (.empty j d)->d=none/\t.slot j = .empty
 | 0,p,_,e=>by cases e
 | fuel+1,p,hp,e=>by
  unfold SetTable.probe.go at e
  have adv:∀ p:SetTable.Probe,p.dummy=none->(t.advance p).dummy=none:=fun p hp=>by
   unfold SetTable.advance
   split <;> exact hp
  cases hs:t.slot p.j with
  | empty=>
   rw [hs] at e
   cases e
   exact⟨hp,hs⟩
  | dummy=>
   exfalso
   unfold SetTable.slot at hs
   dsimp only at hs
   rw [dm,yV] at hs
   split at hs <;> cases hs
  | live i=>
   rw [hs] at e
   dsimp only at e
   rw [if_neg (by simp; omega)] at e
   exact yW dm fuel _ (adv p hp) e
theorem an8 {t:SetTable} (dm:t.dummies = #[]) {h:Int}{sl:Nat}{d:Bool} (e:t.freeSlot h=some (sl,d)):t.slot sl = .empty:=by
 unfold SetTable.freeSlot at e
 split at e
 ·rename_i j dummy hm
  obtain ⟨e1,e2⟩:=yW dm _ _ rfl hm
  subst e1
  cases e
  exact e2
 ·cases e
theorem oB {b:Bool}{t:SetTable} (h:fA b t) (n:Nat):fA b (t.standIn n):=⟨by
 show (Array.range n).toList.Pairwise (· < ·)
 rw [Array.toList_range]; exact List.pairwise_lt_range,rfl,h.led⟩
theorem an9 {b:Bool}{t:SetTable} (h:fA b t) {j:Nat} (hs:t.slot j = .empty):fA b (t.put j).1:=by
 refine⟨?_,?_,h.led⟩
 ·refine an7 h.asc fun e=>?_
  unfold SetTable.slot at hs
  dsimp only at hs
  rw [if_pos (by rw [e]; exact beq_self_eq_true _)] at hs
  cases hs
 ·show (if SetTable.has t.dummies j then SetTable.eraseAt t.dummies (SetTable.below t.dummies j) else t.dummies) = #[]
  rw [h.dm,yV]; rfl
theorem ao0 {b:Bool}{t:SetTable} (h:fA b t) (es:Array (Int × Value)) (k:Int) (x:Value):fA b (layNew t es k x).2.1:=by
 unfold layNew
 split
 ·rename_i sl wd e
  have p:=an9 h (an8 h.dm e)
  show fA b (SetTable.orStandIn _ _)
  unfold SetTable.orStandIn
  split
  ·exact p
  ·exact oB p _
 ·exact oB h _
theorem ao1 {b:Bool}{t:SetTable} (h:fA b t) (es:Array (Int × Value)) (n:Nat):fA b (relayAll t es n).2.1:=by
 unfold relayAll
 split
 ·rename_i t' order e
  dsimp only
  split
  ·show fA b t'
   unfold SetTable.relaid SetTable.laid at e
   cases hc:SetTable.layClean (SetTable.sizeAbove n - 1) (es.map (·.1)) with
   | none=>rw [hc] at e; cases e
   | some owner=>
    rw [hc] at e
    cases e
    refine⟨?_,rfl,h.led⟩
    show (List.map _ _).Pairwise (· < ·)
    refine aA5.mpr (List.Pairwise.filterMap _ (R:=(· < ·)) ?_ List.pairwise_lt_range)
    intro i i' hlt x hx y hy
    cases ho:owner.getD i none with
    | none=>rw [ho] at hx; cases hx
    | some v=>
     rw [ho] at hx
     cases ho2:owner.getD i' none with
     | none=>rw [ho2] at hy; cases hy
     | some v2=>
      rw [ho2] at hy
      cases hx; cases hy
      exact hlt
  ·exact oB h _
 ·exact oB h _
theorem yX {us vs:List Value} (p:us.Perm vs):∀ {ns:List Int},IntsAre vs ns->∃ ms,IntsAre us ms/\ms.Perm ns:=by
 induction p with
 | nil=>intro ns h; exact⟨ns,h,List.Perm.refl _⟩
 | cons x _ ih=>
  intro ns h
  cases h with
  | cons n t r=>
   obtain ⟨ms,h1,h2⟩:=ih r
   exact⟨n :: ms,.cons n t h1,h2.cons n⟩
 | swap x y l=>
  intro ns h
  cases h with
  | cons n t r=>
   cases r with
   | cons n' t' r=>
    exact⟨n' :: n :: _,.cons n' t' (.cons n t r),List.Perm.swap _ _ _⟩
 | trans _ _ ih1 ih2=>
  intro ns h
  obtain ⟨ms,h1,h2⟩:=ih2 h
  obtain ⟨ms',h3,h4⟩:=ih1 h1
  exact⟨ms',h3,h4.trans h2⟩
theorem yY:∀ {us:List Value}{ns:List Int},IntsAre us ns->∀ (k:Int) (t:Nat),IntsAre (us ++ [.int k t]) (ns ++ [k])
 | _,_,.nil,k,t=>.cons k t .nil
 | _,_,.cons n u r,k,t=>.cons n u (yY r k t)
theorem oC:∀ {us:List Value}{ns:List Int},IntsAre us ns->∀ k:Int,k ∈ ns ↔ ∃ t,Value.int k t ∈ us
 | _,_,.nil,k=>⟨(fun h=>nomatch h),(fun ⟨_,h⟩=>nomatch h)⟩
 | _,_,.cons n u r,k=>by
  constructor
  ·intro h
   rcases av8.mp h with e | h
   ·exact⟨u,by rw [e]; exact av5⟩
   ·obtain ⟨t,ht⟩:=(oC r k).mp h
    exact⟨t,av1 _ ht⟩
  ·rintro ⟨t,h⟩
   rcases av8.mp h with e | h
   ·cases e; exact av5
   ·exact av1 _ ((oC r k).mpr ⟨t,h⟩)
abbrev l0 (es:Array (Int × Value)) (ep:Nat) (t:SetTable):Obj:={ cls:=.type "set",dict:=none,data:=.set es ep t,slots:=#[] }
section
variable {prog : Program} {w : World} {A : Around} {E : Value → Shared → Prop} {s : Shared}
def ao2 (prog:Program) (w:World) (es:Array (Int × Value)) (t:SetTable) (ms:List Int):Prop:=ElemsOf (intKind prog w) es.toList/\IntsAre (es.toList.map (·.2)) ms/\es.size < scanBound/\t.fits es.size=true/\fA (!w.params.followText "set-order") t
def yZ (prog:Program) (w:World) (h:Heap) (a:Addr) (ms:List Int):Prop:=∃ es ep t,h.get? a=some (l0 es ep t)/\ao2 prog w es t ms
theorem z9 {h:Heap}{a:Addr}{es es':Array (Int × Value)}{ep:Nat}{t t':SetTable} (ho:h.get? a=some (l0 es ep t)):(h.update a (Obj.putSet es' t')).get? a=some (l0 es' (ep+1) t'):=by
 have:=Heap.get?_update_self (Obj.putSet es' t') ho (by rw [putSet_of es' t' (rfl:(l0 es ep t).data=_)]; rfl)
 rw [putSet_of es' t' (rfl:(l0 es ep t).data=_)] at this
 exact this
theorem add_int {a:Addr}{ms:List Int}{k:Int}{u:Nat}{Q:Bool->Shared->Prop} (hS:yZ prog w s.heap a ms) (room:ms.length+1 < scanBound)
  (h:∀ b h' ms',Heap.SameBut a s.heap h'->yZ prog w h' a ms'->(k ∈ ms->ms'.Perm ms)->(k ∉ ms->ms'.Perm (ms ++ [k]))->Q b { s with heap:=h' }) :
  wpAny (model prog w) A (setAddHashed a (.int k u) ((intKind prog w).hash k)) Q E s:=by
 obtain ⟨es,ep,t,ho,hel,hi,hb,hf,tk⟩:=hS
 have key:(intKind prog w).is k (.int k u)=true:=intKind_is _ _ _ _
 have ln:ms.length=es.size:=by
  have:=IntsAre.length hi
  rw [au8,az6] at this
  exact this.symm
 have isk:∀ v,(intKind prog w).is k v=true->∃ u,v = .int k u:=fun v hv=>Value.isInt_shape hv
 unfold setAddHashed setAddHashedIn
 refine aG8 (au5 (wpAny_setState_of ho rfl hf ?_))
 dsimp only
 rw [byScan_of (knd:=intKind prog w) (x:=.int k u) rfl hb hel,if_pos rfl]
 unfold setAddByScan
 refine au5 (au5 (aF9 ?_))
 refine au5 (wpAny_setScan_of key ho rfl hf hel ?_)
 cases hr:List.findIdx? (fun e=>(intKind prog w).is k e.2) es.toList with
 | some j=>
  dsimp only
  obtain ⟨hj,hp,_⟩:=List.findIdx?_eq_some_iff_getElem.mp hr
  have km:k ∈ ms:=by
   obtain ⟨u',e⟩:=isk _ hp
   exact (oC hi k).mpr ⟨u',by rw [<- e]; exact ax8.mpr ⟨_,aC1 hj,rfl⟩⟩
  have e:s={ s with heap:=s.heap }:=by cases s; rfl
  rw [e]
  exact au9 (au9 (h _ s.heap ms (Heap.SameBut.refl a s.heap) ⟨es,ep,t,ho,hel,hi,hb,hf,tk⟩ (fun _=>List.Perm.refl _) fun n=>absurd km n))
 | none=>
  dsimp only
  have km:k ∉ ms:=fun z=>by
   obtain ⟨u',hm⟩:=(oC hi k).mp z
   obtain ⟨e,he,e2⟩:=ax8.mp hm
   have:=List.findIdx?_eq_none_iff.mp hr e he
   rw [e2,intKind_is _ _ _ _] at this; cases this
  have lp:=layNew_perm t es ((intKind prog w).hash k) (.int k u)
  have lf:=layNew_fits t es ((intKind prog w).hash k) (.int k u)
  have lk:=ao0 tk es ((intKind prog w).hash k) (.int k u)
  generalize hL:layNew t es ((intKind prog w).hash k) (.int k u)=L at lp lf lk ⊢
  obtain ⟨es1,t1,wd,gave⟩:=L
  dsimp only at lp lf lk ⊢
  rw [Array.toList_push] at lp
  have el1:ElemsOf (intKind prog w) es1.toList:=(hel.push key rfl).perm lp
  have sz1:es1.size=es.size+1:=by rw [<- az6,lp.length_eq,aw4,az6]; rfl
  obtain ⟨ms1,i1,p1⟩:∃ ms1,IntsAre (es1.toList.map (·.2)) ms1/\ms1.Perm (ms ++ [k]):=yX (lp.map (·.2)) (by rw [ay5]; exact yY hi k u)
  have hb1:es1.size < scanBound:=by omega
  have gw:∀ (b:Bool) (s₁:Shared) (Q':Unit->Shared->Prop),Q' () s₁->wpAny (model prog w) A (match b with | true=>rule "set.scan.the-table-gave-way" | false=>pure ()) Q' E s₁:=fun b s₁ Q' hq=>by
   cases b
   ·exact au9 hq
   ·exact aF9 hq
  refine au5 (gw _ _ _ ?_)
  split <;> (
   show wpAny _ _ (storeSet a es1 t1 >>= _) _ _ _
   simp only [↓reduceIte]
   refine au5 (wpAny_storeSet_of ho rfl ?_ (fits_of_scanBound hb1))
   have ho1:=z9 (es':=es1) (t':=t1) ho
   have sb1:=aF2 s.heap a (Obj.putSet es1 t1)
   split
   ·have rp:=relayAll_perm t1 es1 (SetTable.grown es1.size)
    have rf:=relayAll_fits t1 es1 (SetTable.grown es1.size)
    have rk:=ao1 lk es1 (SetTable.grown es1.size)
    generalize relayAll t1 es1 (SetTable.grown es1.size)=L at rp rf rk ⊢
    obtain ⟨es2,t2,gave2⟩:=L
    dsimp only at rp rf rk ⊢
    have sz2:es2.size=es1.size:=by rw [<- az6,rp.length_eq,az6]
    obtain ⟨ms2,i2,p2⟩:=yX (rp.map (·.2)) i1
    refine au5 (gw _ _ _ ?_)
    refine au5 (wpAny_storeSet_of ho1 rfl ?_ (fits_of_scanBound (by omega)))
    exact au9 (au9 (h _ _ ms2 (sb1.trans (aF2 _ a _)) ⟨es2,_,t2,z9 ho1,el1.perm rp,i2,by omega,rf,rk⟩ (fun z=>absurd z km) fun _=>p2.trans p1))
   ·exact au9 (au9 (h _ _ ms1 sb1 ⟨es1,_,t1,ho1,el1,i1,hb1,lf,lk⟩ (fun z=>absurd z km) fun _=>p1)))
end
end Raw
namespace L2
open PySem PySem.Spec PyProof.Rows
theorem ao3 {a b c:List Int} (h1:HT.aY a b=true) (h2:HT.aY b c=true):HT.aY a c=true:=by
 cases e:HT.aY a c with
 | true=>rfl
 | false=>
  have ca:=lZ (i6 h2) (i6 h1)
  have:=pV e ca
  subst this
  have:=i6 h1
  rw [h2] at this; cases this
theorem sB {α:Type}{p q:α->Bool}:∀ {l:List α},(∀ x ∈ l,p x=true->q x=true)->(l.filter p).length<=(l.filter q).length
 | [],_=>au7 _
 | x :: l,h=>by
  have ih:=sB (l:=l) fun y hy=>h y (av1 _ hy)
  have hx:=h x av5
  rw [List.filter_cons,List.filter_cons]
  cases ep:p x with
  | false=>cases q x <;> simp <;> omega
  | true=>rw [hx ep]; simp; omega
theorem zA {α:Type}{p q:α->Bool}:∀ {l:List α},(∀ x ∈ l,p x=true->q x=true)->(∃ x ∈ l,q x=true/\p x=false)->(l.filter p).length < (l.filter q).length
 | [],_,e=>by obtain ⟨_,z,_⟩:=e; cases z
 | x :: l,h,e=>by
  have hx:=h x av5
  have h':∀ y ∈ l,p y=true->q y=true:=fun y hy=>h y (av1 _ hy)
  have le:=sB h'
  rw [List.filter_cons,List.filter_cons]
  obtain ⟨y,hy,qy,py⟩:=e
  rcases av8.mp hy with rfl | hy
  ·rw [qy,py]; simp; omega
  ·have ih:=zA h' ⟨y,hy,qy,py⟩
   cases ep:p x with
   | false=>cases q x <;> simp <;> omega
   | true=>rw [hx ep]; simp; omega
def iM (ys:List (List Int)) (x:List Int):Nat:=(ys.filter fun y=>HT.aY y x).length
theorem zB {ys:List (List Int)}{u v:List Int} (hu:u ∈ ys) (hv:v ∈ ys):HT.aY u v=decide ((iM ys u:Int) < (iM ys v:Int)):=by
 have irr:∀ a:List Int,HT.aY a a=false:=fun a=>by
  cases e:HT.aY a a with
  | false=>rfl
  | true=>have:=i6 e; rw [e] at this; cases this
 cases e:HT.aY u v with
 | true=>
  have:iM ys u < iM ys v:=zA (fun x _ h=>ao3 h e) ⟨u,hu,e,irr u⟩
  exact (aw5 (by omega)).symm
 | false=>
  have:iM ys v<=iM ys u:=sB fun x _ h=>by
   cases e2:HT.aY x u with
   | true=>rfl
   | false=>have:=lZ e2 e; rw [h] at this; cases this
  exact (av7 (by omega)).symm
end L2
namespace L2
open PySem PySem.Spec PyProof.Rows SO
section
variable {prog : Program} {w : World} {A : Around} {E : Value → Shared → Prop} {s : Shared}
def sC (h:Heap) (v:Value):List Int:=match v with
 | .ref b=>match h.get? b with
  | some ob=>match ob.data with
   | .seq us _=>us.toList.map numOf
   | _=>[]
  | none=>[]
 | _=>[]
theorem zC:∀ {us:List Value}{ns:List Int},IntsAre us ns->us.map numOf=ns
 | _,_,.nil=>rfl
 | _,_,.cons _ _ h=>by rw [az0,zC h]; rfl
def oD (h:Heap) (ys:List (List Int)) (x:Keyed):Int:=(iM ys (sC h x.1):Int)
end
theorem ao4 {prog:Program}{w:World}{A:Around}{E:Value->Shared->Prop}{s:Shared}{l:Addr}{vs:List Value}{Q:Value->Shared->Prop}{κ:SortKind}{Ok:Keyed->Prop}{rk:Keyed->Int}
  (hl:s.heap.IsList l vs.toArray) (h2:2<=vs.length) (big:vs.length<=sizeLine)
  (hk:∀ (A:Around) (E:Value->Shared->Prop) (Q:SortKind->Shared->Prop),Q κ { s with heap:=dI (dS s.heap vs) (s.heap.objs.size+1) vs }->wpAny (model prog w) A (keyKind' vs.toArray) Q E { s with heap:=dI (dS s.heap vs) (s.heap.objs.size+1) vs })
  (hu:A.units+3 < cLine) (c:∀ (A:Around) (E:Value->Shared->Prop),A.units < cLine->bL prog w A E { s with heap:=dI (dS s.heap vs) (s.heap.objs.size+1) vs } κ Ok rk) (o:∀ v ∈ vs,Ok (v,v))
  (q:∀ out:List Value,out.Perm vs->out.Pairwise (fun u v=>rk (u,u)<=rk (v,v))->Q (.ref (s.heap.objs.size+1)) { s with heap:=sortedAll s.heap vs out.toArray }):wpAny (model prog w) A (call (.builtin "sorted") [.ref l]) Q E s:=by
 apply Calls.call_function_entry kind_sorted plain_sorted entry_sorted (args_sorted1 _)
 simp only [Builtin.«sorted»]
 apply au5 (m:=checkCount "sorted" 1 1 _)
 apply au9
 apply au5
 refine collect_list hl ?_ big
 apply au5
 refine wpAny_newList ?_ big
 have one:((s.heap.push (seqObj "list" #[] 0)).update s.heap.objs.size (Obj.mapSeq (· ++ vs.toArray))).objs.size=s.heap.objs.size+1:=(Heap.size_update _ _ _).trans (size_push' _ _)
 have at1:(dS s.heap vs).get? (s.heap.objs.size+1)=some (seqObj "list" vs.toArray 0):=one ▸ aw8 _ rfl
 change wpAny _ _ _ _ _ { s with heap:=dS s.heap vs }
 rw [one]
 apply au5
 apply aG8
 refine aB9 slot_list_sort ⟨_,at1,rfl⟩ entry_list_sort ?_ (args_list_sort _)
 exact af6 (s:={ s with heap:=dS s.heap vs }) at1 h2 big (hk _ _) (c _ _ (by show A.units+2 < cLine; omega)) o fun out a1 a2=>⟨_,rfl,au9 ⟨_,rfl,q out a1 a2⟩⟩
end L2
namespace L2
open PySem PySem.Spec PyProof.Rows
section
variable {X : Cx}
theorem ao5 (hc:X.calm=true):bS X (.builtin "max") (fun xs H Q=>∃ (a:Addr) (ns:List Int),xs = [.ref a]/\aI X.K H a (ns.map V.int)/\ns ≠ []/\∀ M:Int,M ∈ ns->(∀ x ∈ ns,x<=M)->Q (.int M) H):=by
 intro pins s σ H xs us Q I r h
 obtain ⟨a,ns,rfl,hq,ne,q⟩:=h
 obtain ⟨u,rfl,ru⟩:=eB r
 cases ru
 obtain ⟨its,rv,p,hz⟩:=I.list hq
 have ia:=iQ rv
 obtain ⟨ys,ey⟩:=ia.allInts.items
 have en:ns=ys.toList.map (·.1):=by
  have e1:=nums_intItems ys
  rw [<- ey] at e1
  exact ia.numsOf.symm.trans e1
 have pos:0 < ys.size:=Nat.pos_of_ne_zero fun z=>ne (by rw [en,Array.eq_empty_of_size_eq_zero z]; rfl)
 have hl:s.heap.IsList a (intItems ys):=ey ▸ p.isList
 refine max_intList (I.ok.hd hc) hl pos fun v h' tk ev old=>?_
 obtain ⟨t,rfl⟩:=intItems_at ev
 have best:=argBest_gt (numAt ys) (ys.size - 1)
 have mem:∀ x:Int,x ∈ ns ↔ ∃ j,j < ys.size/\numAt ys j=x:=fun x=>by
  rw [en]
  constructor
  ·intro z
   obtain ⟨j,hj,e⟩:=mem_getD z
   exact⟨j,by simpa using hj,by rw [numAt_eq]; exact e⟩
  ·rintro ⟨j,hj,rfl⟩
   rw [numAt_eq]
   exact getD_mem (by simpa using hj)
 refine⟨.int _,H,I.kept (t':=tk) (h':=h') old,⟨t,rfl⟩,q _ ?_ fun x hx=>?_⟩
 ·exact (mem _).mpr ⟨_,by have:=best.1; omega,rfl⟩
 ·obtain ⟨j,hj,rfl⟩:=(mem x).mp hx
  exact best.2 j (by omega)
end
end L2
namespace PP
open PySem L2
section
variable {X : Cx} {a b e o : Expr} {ta tb te to : aB} {tr : bU} {pos p2 apos cpos : Pos} {σ : St} {H : Hp} {Q' : VK}
def sD:List PV->(PV->Prop)->Prop:=fun xs Q=>∃ ns:List Int,xs = [.lst (intz ns)]/\ns ≠ []/\∀ M:Int,M ∈ ns->(∀ x ∈ ns,x<=M)->Q (.int M)
theorem ao6:dP X sD (fun xs H Q=>∃ (a:Addr) (ns:List Int),xs = [.ref a]/\aI X.K H a (ns.map V.int)/\ns ≠ []/\∀ M:Int,M ∈ ns->(∀ x ∈ ns,x<=M)->Q (.int M) H):=by
 rintro H vs xs Q Q' r ⟨ns,rfl,ne,q⟩ k
 obtain ⟨v,rfl,r1⟩:=r.one
 obtain ⟨a,us,rfl,_,h,r2⟩:=r1.sqL
 rw [r2.ofInts] at h
 exact⟨a,ns,rfl,aI.of h,ne,fun M m1 m2=>k _ _ _ (a8.refl _) (.int M) (q M m1 m2)⟩
theorem ao7 (B:Bt X.mg) (hc:X.calm=true) (ha:QA X [e] tr) (hg:Gl X "max":=by rfl) (he:starEach [e] X.env=(false,eval e X.env) :: starEach [] X.env:=by rfl) (hpl:(backTo pos (starEach [] X.env)).any (·.1)=false:=by rfl):QE X (.Call (.Name "max" p2) [e] [] pos) (aD sD tr):=
 gR (ao5 hc) ao6 hg B.max PyProof.Rows.boot_max ha (he:=he) (hpl:=hpl)
open Classical in
def zD (K:PySem.W.Frag):V->List V->Hp->VK->Prop:=fun x vs H Q=>∃ (p:Addr) (ns:List Int) (i:Int),x = .ref p/\vs = [.int i]/\aI K H p (ns.map V.int)/\i ∈ ns/\ns.length<=16000000/\Q (.int (ns.idxOf i:Nat)) H
theorem ao8:p9 X "list.index" (zD X.K):=by
 intro pins s σ H x vs v us Q I rx rv h
 obtain ⟨p,ns,i,rfl,rfl,hp,hi,hl,q⟩:=h
 cases rx
 obtain ⟨u,rfl,t,rfl⟩:=eB rv
 obtain ⟨its,r,pl,hz⟩:=I.list hp
 have ia:=iQ r
 have hlen:=ia.length
 have hj:ns.idxOf i < ns.length:=List.idxOf_lt_length_iff.mpr hi
 obtain ⟨⟨cls,dd,data,sl⟩,ho,hc,n,hd⟩:=id pl.isList
 simp only at hc hd
 subst hc hd
 refine call_meets PySem.F.slot_list_index ⟨_,ho,rfl⟩ PySem.F.entry_list_index (PySem.F.args_list_index_2 _ _)
  (SeqAt.list_indexAt p its.toArray n dd sl (.int i t) (PyProof.Rows.isInt i) (ns.idxOf i) (by simpa [hlen] using hj) (by omega) ?_ ?_) ⟨ho,fun y hy=>(PyProof.Rows.eq_isInt i t ia y (by simpa using hy)).at _ _,⟨.int _,H,I.tok _,⟨_,rfl⟩,q⟩⟩
 ·show PyProof.Rows.isInt i its[ns.idxOf i]=true
  rw [PyProof.Rows.isInt_at i ia _ (by omega) hj]
  simpa using List.getElem_idxOf hj
 ·intro j hjs hlt
  show PyProof.Rows.isInt i its[j]=false
  rw [PyProof.Rows.isInt_at i ia j (by simpa using hjs) (by omega)]
  exact PyProof.Rows.ne_of_lt_idxOf hlt _
def sE (to te:aB):aB:=fun ρ Q=>to ρ fun x _=>∃ ns:List Int,x = .lst (intz ns)/\te ρ fun y _=>∃ i:Int,y = .int i/\i ∈ ns/\ns.length<=16000000/\Q (.int (ns.idxOf i:Nat)) .fr
theorem ao9 (h:LE X (sE to te) σ H Q'):lO X.K "list" (zD X.K) (LE X to) (fC (LE X te) gF) σ H Q':=by
 obtain ⟨W,ρ,Q,px,q,k⟩:=h
 refine⟨W,ρ,_,px,q,?_⟩
 rintro v H1 x g s1 r1 ⟨ns,rfl,q1⟩
 obtain ⟨a,us,rfl,m,ea,r⟩:=r1.sqL
 obtain rfl:=r.ofInts
 refine⟨jZ (aI.of ea),W,ρ,_,px.mono s1,q1,?_⟩
 rintro w H2 y gy s2 r2 ⟨i,rfl,hi,hl,q2⟩
 cases r2
 exact⟨a,ns,i,rfl,rfl,aI.of (s2 _ _ ea),hi,hl,k _ _ _ .fr (s1.trans s2) (.int _) q2⟩
theorem ap0 (ho:QE X o to) (he:QE X e te) (hbase:attributeBase o "index" X.env (eval o X.env)=eval o X.env:=by rfl)
  (hfew:((backTo cpos (starEach [e] X.env)).all (fun x=>!x.1) && (backToKw cpos (keywordEach [] X.env)).all (fun x=>x.1.isSome) && decide (([e]:List Expr).length+([]:List Keyword).length+(if ([]:List Keyword).isEmpty then 0 else 1) < 30))=true:=by rfl)
  (hline:(apos.endLine == cpos.line)=true:=by rfl) (hs:starEach [e] X.env=(false,eval e X.env) :: starEach [] X.env:=by rfl) (hplain:(backTo cpos (starEach [] X.env)).any (·.1)=false:=by rfl) :
  QE X (.Call (.Attribute o "index" apos) [e] [] cpos) (sE to te):=
 bQ (jU aF1 PySem.F.slot_list_index PySem.F.type_list_index ao8 ho (bW he cU hs) hbase hfew hline hs hplain) fun _ _ _=>ao9
end
section
variable {X : Cx} {a b e : Expr} {ta tb te : aB} {tr : bU} {pos : Pos} {σ : St} {H : Hp} {Q' : VK} {es : List Expr}
def sF (t:bU):aB:=fun ρ Q=>t ρ fun xs=>xs.length<=1000/\k7 xs/\Q (.lst (xs.map (·.1))) .nw
theorem ap1 (h:LE X (sF tr) σ H Q'):oV (LA X tr) σ H Q':=by
 obtain ⟨W,ρ,Q,px,q,k⟩:=h
 refine⟨W,ρ,_,px,q,?_⟩
 rintro vs H1 xs s1 r ⟨hl,n,q⟩
 refine⟨by rw [r.length]; exact qD hl,fun p hp=>k _ _ _ .nw (s1.trans (aT hp _)) (.lst (px.new (s1.free hp)) aZ ?_) q⟩
 exact (k7.reps (vs:=vs) px n r).same (aT hp _) fun _ z=>z
theorem ap2 (ha:QA X es tr):QE X (.List es pos) (sF tr):=bQ (oX ha) fun _ _ _=>ap1
end
end PP
namespace Core
open PySem L2 PP
def pR (ws:List Int) (ls:List (Int × Int)) (ns R:List Int):Prop:=yU ws ls ns R=true/\aj5 ws ls (ns ++ R)
end Core
namespace L2
open PySem PySem.Spec PyProof.Rows PP
section
variable {X : Cx} {pins : List (Addr × Obj)} {s : Shared} {σ : St} {H : Hp} {M M' : Addr → Prop}
theorem zE:∀ ns:List Int,HT.aY ns ns=false
 | []=>rfl
 | x :: xs=>by rw [HT.eR,if_pos rfl]; exact zE xs
end
section
variable {prog : Program} {w : World} {A : Around} {R : Result → Shared → Prop} {I S : Addr} {n : Nat} {l : Addr} {its : Array Value} {s0 : Shared} {bt : Nat → Nat → Bool}
abbrev at_ (s:Shared) (h:Heap) (k:Nat):Shared:={ s with heap:=h,toks:=k }
abbrev ap3 (g h:Heap):Prop:=∀ b o,g.get? b=some o->h.get? b=some o
def bL (prog:Program) (w:World) (A:Around) (s0:Shared) (its:Array Value) (bt:Nat->Nat->Bool):Prop:=
 ∀ (i j:Nat) (v u:Value) (h:Heap) (k:Nat) (Q E:Value->Shared->Prop),its[i]? = some v->its[j]? = some u->ap3 s0.heap h->Q (.bool (bt i j)) (at_ s0 h k)->wpAny (model prog w) A (richCompare .Lt v u) Q E (at_ s0 h k)
end
end L2
namespace HT
open PySem PyProof.Rows
section
open PySem.SeqAt
open PySem.MeetsSeq PySem.MeetsSeq2 PySem.MeetsSeq3
theorem zF {its:List Value}{ns:List Int} (h:IntsAre its ns) {i:Nat} (hi:i < its.length):∃ a t,its[i]? = some (.int a t)/\ns[i]? = some a:=by
 induction h generalizing i with
 | nil=>exact absurd hi (Nat.not_lt_zero _)
 | cons a t h ih=>
  cases i with
  | zero=>exact⟨a,t,rfl,rfl⟩
  | succ i=>exact ih (by simpa using hi)
theorem ap4 (l b:Addr) (its its2:List Value) (n n2:Nat) (dd dd2:Option Addr) (sl sl2:Array (Option Value)) (ns ms:List Int) (hi:IntsAre its ns) (hj:IntsAre its2 ms) (hz:its.length=its2.length) (m:Nat) :
  ∀ i:Nat,its.length - i=m->Meets (Builtin.«list.__eq__.loop» ⟨[.ref l,.ref b,rawInt i,rawInt 0],[]⟩)
   (fun A R s=>s.heap.get? l=some { cls:=.type "list",dict:=dd,data:=.seq its.toArray n,slots:=sl }/\s.heap.get? b=some { cls:=.type "list",dict:=dd2,data:=.seq its2.toArray n2,slots:=sl2 }/\
    R (.ok (.ret (.bool (aY (ns.drop i) (ms.drop i))))) s):=by
 have z1:=hi.length
 have z2:=hj.length
 induction m with
 | zero=>
  intro i hm prog w A R s h
  obtain ⟨hp,g,d,tk,os⟩:=s
  obtain ⟨hl,hb,h⟩:=h
  rw [List.drop_of_length_le (by omega),List.drop_of_length_le (by omega)] at h
  wp_walk using aB5 hl,aB5 hb
  rw [show its.toArray[((i:Nat):Int).toNat]? = none by simp; omega,show its2.toArray[((i:Nat):Int).toNat]? = none by simp; omega]
  wp_walk using aB5 hl,aB5 hb
  show R (.ok (.ret (.bool (decide (its.toArray.size < its2.toArray.size))))) _
  rw [aw1,aw1,av7 (by omega)]
  exact h
 | succ m ih=>
  intro i hm prog w A R s h
  obtain ⟨hp,g,d,tk,os⟩:=s
  obtain ⟨hl,hb,h⟩:=h
  obtain ⟨a,t,e1,e2⟩:=zF hi (i:=i) (by omega)
  obtain ⟨c,u,e3,e4⟩:=zF hj (i:=i) (by omega)
  have d1:ns.drop i=a :: ns.drop (i+1):=by obtain ⟨p,q⟩:=av4.mp e2; rw [aE1 p,q]
  have d2:ms.drop i=c :: ms.drop (i+1):=by obtain ⟨p,q⟩:=av4.mp e4; rw [aE1 p,q]
  rw [d1,d2,eR] at h
  have i1:its.toArray[((i:Nat):Int).toNat]? = some (.int a t):=by simpa using e1
  have i2:its2.toArray[((i:Nat):Int).toNat]? = some (.int c u):=by simpa using e3
  wp_walk using aB5 hl,aB5 hb
  rw [i1,i2]
  obtain ⟨e,he,hiff⟩:=K4 A.in1 ⟨hp,g,d,tk,os⟩ a t c u
  refine au5 (he prog w _ _ ?_)
  cases e with
  | true=>
   rw [if_pos (hiff.mp rfl)] at h
   wp_walk
   rw [show ((i:Int)+1)=((i+1:Nat):Int) by omega]
   refine⟨plainId_quiet plain_eq_loop _,codeAny_builtin entry_eq_loop ?_⟩
   rw [Around.under_plainId plain_eq_loop]
   exact ih (i+1) (by omega) prog w A R _ ⟨hl,hb,h⟩
  | false=>
   rw [if_neg (fun q=>absurd (hiff.mpr q) aw0)] at h
   have hri:=K5 A.in1 ⟨hp,g,d,tk,os⟩ a t c u prog w
   wp_walk using aB5 hl,aB5 hb
   rw [i1,i2]
   wp_walk using hri
   simpa using h
theorem ap5 (l b:Addr) (its its2:List Value) (n n2:Nat) (dd dd2:Option Addr) (sl sl2:Array (Option Value)) (ns ms:List Int) (hi:IntsAre its ns) (hj:IntsAre its2 ms) (hz:its.length=its2.length) :
  Meets (Builtin.«list.__lt__» ⟨[.ref l,.ref b],[]⟩)
   (fun A R s=>s.heap.get? l=some { cls:=.type "list",dict:=dd,data:=.seq its.toArray n,slots:=sl }/\s.heap.get? b=some { cls:=.type "list",dict:=dd2,data:=.seq its2.toArray n2,slots:=sl2 }/\
    R (.ok (.ret (.bool (aY ns ms)))) s):=by
 intro prog w A R s h
 obtain ⟨hp,g,d,tk,os⟩:=s
 obtain ⟨hl,hb,h⟩:=h
 have f3:=AutoSeq1.sub_list_list
 wp_walk using aB5 hl,aB5 hb
 refine⟨plainId_quiet plain_eq_loop _,codeAny_builtin entry_eq_loop ?_⟩
 rw [Around.under_plainId plain_eq_loop]
 exact ap4 l b its its2 n n2 dd dd2 sl sl2 ns ms hi hj hz _ 0 rfl prog w A R _ ⟨hl,hb,h⟩
end
end HT
namespace L2
open PySem PySem.Spec PyProof.Rows SO
section
variable {prog : Program} {w : World} {A : Around} {E : Value → Shared → Prop} {s : Shared}
structure e8 (k:Nat) (h:Heap) (v:Value) (ns:List Int):Prop where
 at_:∃ b ob us n,v = .ref b/\h.get? b=some ob/\ob.cls = .type "list"/\ob.data = .seq (List.toArray us) n/\IntsAre us ns
 len:ns.length=k
theorem e8.ints {k:Nat}{h:Heap}{v:Value}{ns:List Int} (z:e8 k h v ns):sC h v=ns:=by
 obtain ⟨b,ob,us,n,rfl,e2,_,e4,e5⟩:=z.at_
 unfold sC
 dsimp only
 rw [e2]; dsimp only
 rw [e4]; exact zC e5
theorem ap6 {k:Nat}{v u:Value}{ns ms:List Int}{Q:Bool->Shared->Prop} (z:e8 k s.heap v ns) (z':e8 k s.heap u ms) (hu:A.units < cLine) (h:Q (HT.aY ns ms) s):wpAny (model prog w) A (oneLt' true v u) Q E s:=by
 obtain ⟨l,⟨cls,dd,data,sl⟩,us,n,rfl,ho,hc,hd,hi⟩:=z.at_
 obtain ⟨b,⟨cls2,dd2,data2,sl2⟩,iL,n2,rfl,ho2,hc2,hd2,hj⟩:=z'.at_
 simp only at hc hd hc2 hd2
 subst hc hd hc2 hd2
 have lz:us.length=iL.length:=by rw [hi.length,hj.length,z.len,z'.len]
 rw [oneLt'_eq]
 simp only [if_true]
 refine au5 (wpAny_cRoomFor hu ?_)
 exact au5 (wpAny_callSpecialIfBound?_slot (T:="list") ⟨_,ho,rfl⟩ PySem.F.slot_list_lt (call_meets PySem.F.slot_list_lt ⟨_,ho,rfl⟩ PySem.F.entry_list_lt (PySem.F.args_list_lt_2 _ _) (HT.ap5 l b us iL n n2 dd dd2 sl sl2 ns ms hi hj lz) ⟨ho,ho2,aE8 h⟩))
theorem ap7 (k:Nat) (ys:List (List Int)) (hu:A.units < cLine):SO.bL prog w A E s oneType' (fun x=>∃ ns ∈ ys,e8 k s.heap x.1 ns) (oD s.heap ys):=by
 rintro x y ⟨ns,m1,z⟩ ⟨ms,m2,z'⟩ st Q hk hq
 unfold oD at hq
 rw [z.ints,z'.ints,<- zB m1 m2] at hq
 rw [lt'_eq]
 refine av3 (wpS_get ?_)
 rw [hk,keyLt'_oneType]
 exact av3 (wpS_lift (wpAny_attempt (ap6 z z' hu ⟨rfl,av9 hq⟩)))
end
section
variable {M : Model} {A : Around} {E : Value → Shared → Prop} {s : Shared} {k : Nat}
theorem zG:∀ (vs:List Value) {Q:List (Option Value)->Shared->Prop},(∀ v ∈ vs,∃ ns,e8 k s.heap v ns)->Q (vs.map fun _=>none) s->wpAny M A (vs.mapM firstOfTuple') Q E s
 | [],_,_,h=>by rw [List.mapM_nil]; exact au9 h
 | v :: vs,Q,t,h=>by
  obtain ⟨ns,z⟩:=t v av5
  obtain ⟨b,ob,us,n,rfl,e2,e3,e4,e5⟩:=z.at_
  rw [List.mapM_cons]
  refine au5 ?_
  rw [PySem.W.kas_first_eq]
  refine au5 (PySem.W.Looks.here (show PySem.W.Looks M s.heap (typeOf (.ref b)) ob.cls from (PySem.W.Looks.ld e2).andThen .now) ?_)
  rw [e3,if_pos (by first | decide | simp)]
  refine au9 ?_
  exact au5 (zG vs (Q:=fun bs s'=>wpAny M A (pure (none :: bs)) Q E s') (fun y hy=>t y (av1 _ hy)) (au9 h))
theorem ap8 {v:Value}{vs:List Value}{Q:SortKind->Shared->Prop} (t:∀ y ∈ v :: vs,∃ ns,e8 k s.heap y ns) (h:Q oneType' s):wpAny M A (keyKind' (v :: vs).toArray) Q E s:=by
 rw [keyKind'_eq,List.mapM_toArray,map_eq_pure_bind]
 refine au5 (au5 (zG _ t (au9 ?_)))
 rw [az0,if_neg (by simp),if_neg (by simp)]
 rw [oneTypeOnly'_eq,List.mapM_toArray,map_eq_pure_bind]
 refine au5 (au5 (au5 (PySem.W.kas_mapM (r:=Value.type "list") _ (fun y hy Q' hq=>?_) (au9 ?_))))
 ·obtain ⟨ns,z⟩:=t y (by simpa using hy)
  obtain ⟨b,ob,us,n,rfl,e2,e3,e4,e5⟩:=z.at_
  refine PySem.W.Looks.here (show PySem.W.Looks M s.heap (typeOf (.ref b)) ob.cls from (PySem.W.Looks.ld e2).andThen .now) ?_
  rw [e3]; exact hq
 ·have al:((List.map (fun _=>Value.type "list") (v :: vs)).toArray.all fun x=>x == Value.type "list")=true:=by
   simp only [List.all_toArray,List.all_map,List.all_eq_true]
   intro _ _
   rfl
  rw [show (List.map (fun _=>Value.type "list") (v :: vs)).toArray[0]? = some (Value.type "list") by simp]
  simp only [al,if_true]
  exact au9 (au9 h)
end
def zH (K:PySem.W.Frag):List V->Hp->VK->Prop:=fun xs H Q=>∃ (a:Addr) (ys:List V) (key:V->List Int) (k:Nat),xs = [.ref a]/\aI K H a ys/\ys.length<=4096/\(∀ y ∈ ys,(key y).length=k/\∃ b,y = .ref b/\aI K H b ((key y).map V.int))/\
 ∀ l (zs:List V),H l=none->zs.Perm ys->zs.Pairwise (fun u v=>HT.aY (key v) (key u)=false)->Q (.ref l) (upd H l (.lst zs))
theorem ap9 {X:Cx} (hu:X.A.units+3 < cLine):bS X (.builtin "sorted") (zH X.K):=by
 intro pins s σ H xs us Q I r h
 obtain ⟨a,ys,key,k,rfl,hs,hz4,hk,q⟩:=h
 obtain ⟨u,rfl,ru⟩:=eB r
 cases ru
 obtain ⟨its,rv,p,hz⟩:=I.list hs
 have hl:=rv.length
 have hn:s.heap.objs.size<=s.heap.objs.size+1:=Nat.le_succ _
 by_cases h2:its.length < 2
 ·refine v5 p.isList h2 ?_
  obtain ⟨e,he⟩:=sortedAll_at s.heap its its.toArray
  refine⟨.ref (s.heap.objs.size+1),upd H (s.heap.objs.size+1) (.lst ys),I.laid (t':=s.toks) (fun _ _=>sortedAll_old) hn ⟨hz,its,e,rv,he⟩,rfl,q _ ys (I.hok.fresh hn) (List.Perm.refl _) ?_⟩
  match ys,hl with
  | [],_=>exact List.Pairwise.nil
  | [_],_=>exact aA4 _ _
  | _ :: _ :: _,hl=>simp at hl; omega
 ·have pv:∀ {y:V}{v:Value},aO y v->y ∈ ys->e8 k (dI (dS s.heap its) (s.heap.objs.size+1) its) v (key y):=fun {y v} ry hy=>by
   obtain ⟨kl,b,rfl,sq⟩:=hk y hy
   cases ry
   obtain ⟨us,ru,p2,_⟩:=I.list sq
   obtain ⟨ob,e1,c1,n1,d1⟩:=p2.isList
   exact⟨⟨b,ob,us,n1,rfl,af5 (ay1 (Nat.lt_succ_of_lt (aw2 e1))) (af4 e1),c1,d1,iQ ru⟩,kl⟩
  have pvs:∀ {xs:List V}{vs:List Value},aG xs vs->(∀ y ∈ xs,y ∈ ys)->∀ v ∈ vs,∃ ns ∈ ys.map key,e8 k (dI (dS s.heap its) (s.heap.objs.size+1) its) v ns:=by
   intro xs vs r
   induction r with
   | nil=>intro _ v hv; cases hv
   | cons rx rt ih=>
    intro hh v hv
    rcases av8.mp hv with z | z
    ·subst z
     exact⟨_,ax8.mpr ⟨_,hh _ av5,rfl⟩,pv rx (hh _ av5)⟩
    ·exact ih (fun y hy=>hh y (av1 _ hy)) v z
  have allp:=pvs rv fun _ h=>h
  obtain ⟨v0,vr,ev⟩:∃ v0 vr,its=v0 :: vr:=by
   cases its with
   | nil=>simp at h2
   | cons v0 vr=>exact⟨v0,vr,rfl⟩
  refine ao4 (κ:=oneType') (Ok:=fun x=>∃ ns ∈ ys.map key,e8 k (dI (dS s.heap its) (s.heap.objs.size+1) its) x.1 ns) (rk:=oD (dI (dS s.heap its) (s.heap.objs.size+1) its) (ys.map key)) p.isList (by omega) (by rw [<- hl]; exact hz)
   (fun A E Q hQ=>?_) hu (fun A E hA=>ap7 (s:={ s with heap:=dI (dS s.heap its) (s.heap.objs.size+1) its }) k (ys.map key) hA) (fun v hv=>allp v hv) fun out pm so=>?_
  ·have tt:∀ y ∈ its,∃ ns,e8 k (dI (dS s.heap its) (s.heap.objs.size+1) its) y ns:=fun y hy=>(allp y hy).imp fun _ z=>z.2
   have:=ap8 (k:=k) (M:=model X.prog X.w) (A:=A) (E:=E) (s:={ s with heap:=dI (dS s.heap its) (s.heap.objs.size+1) its }) (v:=v0) (vs:=vr) (Q:=Q) (by rw [<- ev]; exact tt) hQ
   rw [<- ev] at this
   exact this
  ·obtain ⟨zs,pz,rz⟩:=af7 pm.symm rv
   obtain ⟨e,he⟩:=sortedAll_at s.heap its out.toArray
   refine⟨.ref (s.heap.objs.size+1),upd H (s.heap.objs.size+1) (.lst zs),I.laid (t':=s.toks) (fun _ _=>sortedAll_old) hn ⟨by rw [pz.length_eq]; exact hz,out,e,rz,he⟩,rfl,q _ zs (I.hok.fresh hn) pz ?_⟩
   have lz:=rz.length
   rw [az3]
   intro i j hi hj hij
   have s1:=az3.mp so i j (by omega) (by omega) hij
   have gi:=jY i hi rz
   have gj:=jY j hj rz
   simp only [aw6,av0 hi,av0 hj,av0 (show i < out.length by omega),av0 (show j < out.length by omega),Option.getD_some] at gi gj
   have mi:=pz.mem_iff.mp (aC1 hi)
   have mj:=pz.mem_iff.mp (aC1 hj)
   have vi:=pv gi mi
   have vj:=pv gj mj
   unfold oD at s1
   rw [e8.ints vi,e8.ints vj] at s1
   rw [zB (ax8.mpr ⟨_,mj,rfl⟩) (ax8.mpr ⟨_,mi,rfl⟩)]
   exact av7 (by omega)
end L2
namespace PP
open PySem L2
abbrev cZ (W:List (List Int)):List PV:=W.map fun w=>PV.lst (intz w)
def jG (H:Hp):V->List Int
 | .ref a=>match H a with
  | some (.lst us)=>us.map jD
  | _=>[]
 | _=>[]
theorem aq0 {H:Hp}{a:Addr}{ns:List Int} (h:H a=some (.lst (ns.map V.int))):jG H (.ref a)=ns:=by
 show (match H a with | some (.lst us)=>us.map jD | _=>[])=ns
 rw [h]
 show (ns.map V.int).map jD=ns
 rw [List.map_map]
 exact List.map_id _
theorem zI {K:PySem.W.Frag}{M:Addr->Prop}{H:Hp}:∀ {us:List V}{ys:List (List Int)},Reps K M H us (cZ ys)->us.map (jG H)=ys/\∀ u ∈ us,∃ b,u = .ref b/\M b/\H b=some (.lst ((jG H u).map V.int))
 | _,[],.nil=>⟨rfl,fun u h=>nomatch h⟩
 | _,y :: ys,.cons r t=>by
  obtain ⟨a,us,rfl,m,h,r1⟩:=r.sqL
  obtain rfl:=r1.ofInts
  obtain ⟨h1,h2⟩:=zI t
  have hk:=aq0 h
  refine⟨by rw [az0,h1,hk],fun u hu=>?_⟩
  rcases av8.mp hu with rfl | hu
  ·exact⟨a,rfl,m,by rw [hk]; exact h⟩
  ·exact h2 u hu
theorem zJ {K:PySem.W.Frag}{M:Addr->Prop}{H:Hp}:∀ {us:List V},(∀ u ∈ us,∃ b,u = .ref b/\M b/\H b=some (.lst ((jG H u).map V.int)))->Reps K M H us (cZ (us.map (jG H)))
 | [],_=>.nil
 | u :: us,h=>by
  obtain ⟨b,rfl,mb,hb⟩:=h u av5
  exact .cons (.lst mb hb (Reps.intz _)) (zJ fun v hv=>h v (av1 _ hv))
section
variable {X : Cx} {a b e : Expr} {ta tb : aB} {tr : bU} {pos p2 : Pos} {σ : St} {H : Hp} {Q' : VK}
def sG (t:bU):aB:=fun ρ Q=>t ρ fun xs=>∃ (g:Tg) (ys:List (List Int)) (k:Nat),xs = [(.lst (cZ ys),g)]/\Nw g (.lst (cZ ys))/\ys.length<=4096/\(∀ y ∈ ys,y.length=k)/\∀ zs:List (List Int),zs.Perm ys->zs.Pairwise (fun u v=>HT.aY v u=false)->Q (.lst (cZ zs)) .nw
theorem aq1 (h:LE X (sG tr) σ H Q'):lK (zH X.K) (LA X tr) σ H Q':=by
 obtain ⟨W,ρ,Q,px,q,k⟩:=h
 refine⟨W,ρ,_,px,q,fun vs H1 xs s1 r1 q1=>?_⟩
 obtain ⟨g,ys,n,rfl,nw,hl,hk,q2⟩:=q1
 cases r1 with
 | cons r t=>
  cases t
  obtain ⟨a,us,rfl,m,ea,r2⟩:=(Nw.rep px nw r).sqL
  obtain ⟨h1,h2⟩:=zI r2
  have lr:=r2.length
  rw [au8] at lr
  refine⟨a,us,jG H1,n,rfl,aI.of ea,by omega,fun y hy=>?_,fun l zs fl pm so=>?_⟩
  ·obtain ⟨b,rfl,_,hb⟩:=h2 y hy
   exact⟨hk _ (by rw [<- h1]; exact ax8.mpr ⟨_,hy,rfl⟩),b,rfl,aI.of hb⟩
  ·have hz:=zJ (K:=X.K) (M:=Ms X.H₀ W true) (H:=H1) (us:=zs) fun u hu=>h2 u (pm.mem_iff.mp hu)
   refine k _ _ _ .nw (s1.trans (aT fl _)) (.lst (px.new (s1.free fl)) aZ (hz.same (aT fl _) fun _ z=>z)) (q2 _ ?_ ?_)
   ·rw [<- h1]; exact pm.map _
   ·rw [aA5]; exact so
theorem aq2 (B:Bt X.mg) (hu:X.A.units+3 < cLine) (ha:QA X [e] tr) (hg:Gl X "sorted":=by rfl) (hn:("sorted" : Str) ≠ "__name__":=by decide) (hdb:(("sorted" : Str) == ("__debug__" : Str))=false:=by decide) (he:starEach [e] X.env=(false,eval e X.env) :: starEach [] X.env:=by rfl) (hpl:(backTo pos (starEach [] X.env)).any (·.1)=false:=by rfl):QE X (.Call (.Name "sorted" p2) [e] [] pos) (sG tr):=
 bQ (lM (ap9 hu) hg B.sorted PyProof.Rows.boot_sorted ha hn hdb he hpl) fun _ _ _=>aq1
def sH:PV->Tg->PV->Tg->PK->Prop:=fun x g y g' Q=>∃ xs ys,x = .lst xs/\y = .lst ys/\Nw g x/\Nw g' y/\xs.length+ys.length<=16000000/\Q (.lst (xs ++ ys)) .nw
theorem zK {K:PySem.W.Frag}{H0 Hs H:Hp}{W:Addr->Prop}{g:Tg}{x:PV}{v:V} (nw:∀ a,Hs a=none->¬ W a/\H0 a=none) (n:Nw g x) (r:aE K (Mg H0 W Hs g) H v x):aE K (Ms H0 W true) H v x:=by
 cases g with
 | fr=>exact r.same (a8.refl _) fun a z=>nw a z
 | nw=>exact r.same (a8.refl _) fun a z=>z
 | sh=>exact r.flat n
 | rd=>exact r.flat n
theorem aq3:dB X sH pB:=by
 rintro W Hs H u v x y g g' Q Q' s n r1 r2 ⟨xs,ys,rfl,rfl,n1,n2,hl,q⟩ k
 obtain ⟨a,us,rfl,_,h1,q1⟩:=(zK n n1 r1).sqL
 obtain ⟨b,ws,rfl,_,h2,q2⟩:=(zK n n2 r2).sqL
 have l1:=q1.length
 have l2:=q2.length
 exact⟨a,b,us,ws,rfl,rfl,h1,h2,lim (by omega),fun p hp=>k _ _ _ .nw (aT hp _) (.lst (n p (s.free hp)) aZ ((q1.append q2).same (aT hp _) fun _ z=>z)) q⟩
theorem aq4 (ha:QE X a ta) (hb:QE X b tb):QE X (.BinOp a .Add b pos) (q2 sH ta tb):=gO uC aq3 ha hb
end
end PP
namespace Core
open PySem L2 PP
def bG:Nat->List (List Int)
 | 0=>[[]]
 | m+1=>(bG m).map (0 :: ·) ++ (bG m).map (1 :: ·)
def cD:Nat->List (List Int)
 | 0=>[[]]
 | m+1=>(cD m).map (· ++ [0]) ++ (cD m).map (· ++ [1])
theorem l4:∀ m,(bG m).length=2 ^ m
 | 0=>rfl
 | m+1=>by
  show ((bG m).map (0 :: ·) ++ (bG m).map (1 :: ·)).length=_
  rw [aw4,au8,au8,l4 m,Nat.pow_succ]; omega
theorem sI:∀ m,(cD m).length=2 ^ m
 | 0=>rfl
 | m+1=>by
  show ((cD m).map (· ++ [0]) ++ (cD m).map (· ++ [1])).length=_
  rw [aw4,au8,au8,sI m,Nat.pow_succ]; omega
theorem gY:∀ {m:Nat}{x:List Int},x ∈ bG m ↔ x.length=m/\∀ e ∈ x,e=0 ∨ e=1
 | 0,x=>by
  show x ∈ [[]] ↔ _
  rw [av2]
  exact⟨fun h=>by rw [h]; exact⟨rfl,fun e z=>by cases z⟩,fun h=>List.length_eq_zero_iff.mp h.1⟩
 | m+1,x=>by
  show x ∈ (bG m).map (0 :: ·) ++ (bG m).map (1 :: ·) ↔ _
  rw [ax5,ax8,ax8]
  constructor
  ·rintro (⟨y,hy,rfl⟩ | ⟨y,hy,rfl⟩)
   ·obtain ⟨h1,h2⟩:=gY.mp hy
    exact⟨by rw [aA8,h1],fun e he=>by rcases av8.mp he with rfl | he; exact .inl rfl; exact h2 e he⟩
   ·obtain ⟨h1,h2⟩:=gY.mp hy
    exact⟨by rw [aA8,h1],fun e he=>by rcases av8.mp he with rfl | he; exact .inr rfl; exact h2 e he⟩
  ·rintro ⟨h1,h2⟩
   cases x with
   | nil=>cases h1
   | cons a y=>
    have hy:y ∈ bG m:=gY.mpr ⟨by simpa using h1,fun e he=>h2 e (av1 _ he)⟩
    rcases h2 a av5 with rfl | rfl
    ·exact .inl ⟨y,hy,rfl⟩
    ·exact .inr ⟨y,hy,rfl⟩
theorem jH:∀ {m:Nat}{x:List Int},x ∈ cD m ↔ x.length=m/\∀ e ∈ x,e=0 ∨ e=1
 | 0,x=>by
  show x ∈ [[]] ↔ _
  rw [av2]
  exact⟨fun h=>by rw [h]; exact⟨rfl,fun e z=>by cases z⟩,fun h=>List.length_eq_zero_iff.mp h.1⟩
 | m+1,x=>by
  show x ∈ (cD m).map (· ++ [0]) ++ (cD m).map (· ++ [1]) ↔ _
  rw [ax5,ax8,ax8]
  constructor
  ·rintro (⟨y,hy,rfl⟩ | ⟨y,hy,rfl⟩)
   ·obtain ⟨h1,h2⟩:=jH.mp hy
    exact⟨by rw [aw4,h1]; rfl,fun e he=>by rcases ax5.mp he with he | he; exact h2 e he; exact .inl (av2.mp he)⟩
   ·obtain ⟨h1,h2⟩:=jH.mp hy
    exact⟨by rw [aw4,h1]; rfl,fun e he=>by rcases ax5.mp he with he | he; exact h2 e he; exact .inr (av2.mp he)⟩
  ·rintro ⟨h1,h2⟩
   have ne:x ≠ []:=fun z=>by rw [z] at h1; cases h1
   have e:=List.dropLast_concat_getLast ne
   have hy:x.dropLast ∈ cD m:=jH.mpr ⟨by rw [List.length_dropLast]; omega,fun e he=>h2 e ((List.dropLast_sublist x).subset he)⟩
   rcases h2 (x.getLast ne) (List.getLast_mem ne) with z | z
   ·exact .inl ⟨_,hy,by rw [z] at e; exact e⟩
   ·exact .inr ⟨_,hy,by rw [z] at e; exact e⟩
theorem oE:∀ m,(bG m).Pairwise fun u v=>HT.aY u v=true
 | 0=>aA4 _ _
 | m+1=>by
  show ((bG m).map (0 :: ·) ++ (bG m).map (1 :: ·)).Pairwise _
  rw [ay0,aA5,aA5]
  refine⟨(oE m).imp fun h=>?_,(oE m).imp fun h=>?_,fun a ha b hb=>?_⟩
  ·rw [HT.eR,if_pos rfl]; exact h
  ·rw [HT.eR,if_pos rfl]; exact h
  ·obtain ⟨x,_,rfl⟩:=ax8.mp ha
   obtain ⟨y,_,rfl⟩:=ax8.mp hb
   rw [HT.eR,if_neg (by decide)]; rfl
theorem aq5 (m:Nat):(bG m).Nodup:=(oE m).imp fun {a b} h e=>by rw [e,zE] at h; cases h
theorem sJ:∀ m,(cD m).Nodup
 | 0=>aA4 _ _
 | m+1=>by
  show ((cD m).map (· ++ [0]) ++ (cD m).map (· ++ [1])).Nodup
  rw [List.nodup_append]
  refine⟨?_,?_,fun a ha b hb e=>?_⟩
  ·exact aA5.mpr ((sJ m).imp fun h e=>h (List.append_cancel_right e))
  ·exact aA5.mpr ((sJ m).imp fun h e=>h (List.append_cancel_right e))
  ·obtain ⟨x,_,rfl⟩:=ax8.mp ha
   obtain ⟨y,_,rfl⟩:=ax8.mp hb
   have:=congrArg List.getLast? e
   simp at this
theorem aq6 (m:Nat):(cD m).Perm (bG m):=(List.perm_ext_iff_of_nodup (sJ m) (aq5 m)).mpr fun x=>by rw [jH,gY]
def Bd (ws:List Int) (ls:List (Int × Int)) (wts:List Int) (b:Int):Prop:=∃ zs,gX ws ls wts zs/\b=(ws.length:Int) - (fM zs wts.sum:Int)
theorem Bd.eq {ws:List Int}{ls:List (Int × Int)}{wts:List Int}{b c:Int} (h:Bd ws ls wts b) (g:Bd ws ls wts c):b=c:=by
 obtain ⟨zs,k1,rfl⟩:=h
 obtain ⟨ys,k2,rfl⟩:=g
 rw [k1.eq k2]
theorem Bd.pos {ws:List Int}{ls:List (Int × Int)}{wts:List Int}{b:Int} (h:Bd ws ls wts b):0<=b:=by
 obtain ⟨zs,k1,rfl⟩:=h
 have:=am6 zs wts.sum
 have:=k1.len
 omega
noncomputable def gZ (ws:List Int) (ls:List (Int × Int)) (wts:List Int):Int:=Classical.epsilon (Bd ws ls wts)
theorem Bd.is {ws:List Int}{ls:List (Int × Int)}{wts:List Int}{b:Int} (h:Bd ws ls wts b):b=gZ ws ls wts:=h.eq (Classical.epsilon_spec ⟨b,h⟩)
def FB (L:List (List Int)) (f:List Int->Int) (r:List Int):Prop:=∃ i,L[i]? = some r/\(∀ (j:Nat) (s:List Int),j < i->L[j]? = some s->f s < f r)/\∀ s ∈ L,f s<=f r
theorem FB.eq {L:List (List Int)}{f:List Int->Int}{r r':List Int} (h:FB L f r) (g:FB L f r'):r=r':=by
 obtain ⟨i,h1,h2,h3⟩:=h
 obtain ⟨j,g1,g2,g3⟩:=g
 have a:=h3 _ (ax0 g1)
 have b:=g3 _ (ax0 h1)
 rcases Nat.lt_trichotomy i j with z | z | z
 ·have:=g2 i r z h1; omega
 ·rw [z,g1] at h1; exact (ax4 h1).symm
 ·have:=h2 j r' z g1; omega
theorem FB.more {L:List (List Int)}{f:List Int->Int}{r s:List Int} (h:FB L f r) (le:f s<=f r):FB (L ++ [s]) f r:=by
 obtain ⟨i,h1,h2,h3⟩:=h
 have il:=(av4.mp h1).1
 refine⟨i,by rw [ay2 il]; exact h1,fun j t hj ht=>h2 j t hj (by rwa [ay2 (by omega)] at ht),fun t ht=>?_⟩
 rcases ax5.mp ht with ht | ht
 ·exact h3 t ht
 ·rw [av2.mp ht]; exact le
theorem FB.new {L:List (List Int)}{f:List Int->Int}{s:List Int} (lt:∀ t ∈ L,f t < f s):FB (L ++ [s]) f s:=by
 refine⟨L.length,by rw [aA2 (au7 _),Nat.sub_self]; rfl,fun j t hj ht=>lt t ?_,fun t ht=>?_⟩
 ·rw [ay2 hj] at ht; exact ax0 ht
 ·rcases ax5.mp ht with ht | ht
  ·exact Int.le_of_lt (lt t ht)
  ·rw [av2.mp ht]; exact aD9 _
theorem FB.idx {L:List (List Int)}{f:List Int->Int}{M:Int} (hm:M ∈ L.map f) (mx:∀ x ∈ L.map f,x<=M):∃ r,L[(L.map f).idxOf M]? = some r/\FB L f r:=by
 have hj:(L.map f).idxOf M < (L.map f).length:=List.idxOf_lt_length_iff.mpr hm
 have hl:(L.map f).idxOf M < L.length:=by rw [au8] at hj; exact hj
 have at1:f L[(L.map f).idxOf M]=M:=by
  have:=List.getElem_idxOf hj
  rwa [List.getElem_map] at this
 refine⟨L[(L.map f).idxOf M],av0 hl,(L.map f).idxOf M,av0 hl,fun j s hj2 hs=>?_,fun s hs=>?_⟩
 ·rw [at1]
  have hsm:f s ∈ L.map f:=ax8.mpr ⟨s,ax0 hs,rfl⟩
  have le:=mx _ hsm
  have ne:f s ≠ M:=fun z=>by
   have jl:j < (L.map f).length:=by omega
   have:=PyProof.Rows.ne_of_lt_idxOf hj2 jl
   obtain ⟨p,q⟩:=av4.mp hs
   rw [List.getElem_map,q,z] at this
   simp at this
  omega
 ·rw [at1]; exact mx _ (ax8.mpr ⟨s,hs,rfl⟩)
def l5:bK:=fun xs Q=>∃ ws ls,xs = [bJ ws ls]/\cC (ws.length:Int) ws ls/\ws.length<=40/\ls.length<=8/\∀ r,FB (bG ls.length) (gZ ws ls) r->Q (.lst (intz r))
def zL:aQ:=(aM (cB (aW (j7 (aD cR (a7 (bR (a6 0) (qC (.int 1))) aA)) (qC (.int 8)))) mT cA)
 (aM (aR 1 (cW (a7 (dZ aA) aA)))
 (aM (cX (cI (bR (a6 0) (qC (.int 1)))) (b7 2)
  (aR 1 (jE (cJ (cI (a6 1)) [none] (b7 0) cK (nW (dZ (a7 (qC (.int 0)) aA)) (a6 0))) (cJ (cI (a6 1)) [none] (b7 0) cK (nW (dZ (a7 (qC (.int 1)) aA)) (a6 0))))))
 (aM (aR 3 (cJ (cI (a6 1)) [none,some 0] (b7 0) cK (aD o8 (a7 (a6 1) (a7 (a6 0) aA)))))
 (bY (aD qK (a7 (bR (a6 1) (sE (a6 3) (aD sD (a7 (a6 3) aA)))) aA)))))))
theorem aq7:cY zL ["web","rows","link","bounds"] l5:=by
 rintro xs Q ⟨ws,ls,rfl,w,few,l8,q⟩
 have ll:(ls.map fun l=>PV.tup [PV.int l.1,PV.int l.2]).length=ls.length:=au8 _
 have ln:=l4 ls.length
 have l256:2 ^ ls.length<=256:=ay6 (Nat.pow_le_pow_right (by decide) l8) (by decide)
 refine⟨_,rfl,_,_,_,rfl,rfl,rfl,_,_,rfl,rfl,_,_,rfl,rfl,_,rfl,?_⟩
 dsimp only
 rw [av7 (by rw [ll]; omega)]
 refine bH ?_
 refine⟨by decide,rfl,by show 1<=1000; decide,rfl,trivial,?_⟩
 refine⟨_,rfl,_,_,_,rfl,rfl,rfl,_,rfl,(fun z=>?_),fun i ρ=>∃ y,ρ = [some (.sh (flat (bJ ws ls)) (bJ ws ls)),some (.sh true (.lst (tups (bG i)))),y,none],⟨none,rfl⟩,?_,?_⟩
 ·exact iG ls
 ·rintro i y ρ hy ⟨y2,rfl⟩
  have hi:i < ls.length:=by have:=(av4.mp hy).1; rw [ll] at this; exact this
  have li:=l4 i
  have l256i:2 ^ i<=256:=ay6 (Nat.pow_le_pow_right (by decide) (show i<=8 by omega)) (by decide)
  have sh:∀ S ∈ bG i,S.length=i:=fun S hS=>(gY.mp hS).1
  have nx:bG (i+1)=(bG i).map (0 :: ·) ++ (bG i).map (1 :: ·):=rfl
  generalize bG i=A at *
  have comp:∀ (c:Int) (ρ:aV) (K:PK),ρ[1]? = some (some (.sh true (.lst (tups A))))->K (.lst (tups (A.map (c :: ·)))) .fr->(cJ (cI (a6 1)) [none] (b7 0) cK (nW (dZ (a7 (qC (.int c)) aA)) (a6 0))) ρ K:=fun c ρ K h1 hK=>by
   refine⟨_,h1,_,rfl,(fun z=>by cases z),by rw [jC]; omega,fun j acc=>acc=tups ((A.take j).map (c :: ·)),rfl,?_,?_⟩
   ·rintro j z acc hz rfl
    obtain ⟨S,rfl,hS⟩:=xI hz
    have sl:=sh S (ax0 hS)
    refine⟨by show 1<=1000; decide,rfl,_,rfl,intz [c],intz S,rfl,rfl,cQ _,cQ _,by rw [b8,b8]; show 1+S.length<=_; omega,trivial,?_⟩
    dsimp only
    rw [aB1,hS,ay5]
    unfold tups
    rw [ay5]; rfl
   ·rintro acc rfl
    rw [jC,aC2]
    exact hK
  dsimp only [b7,aR,jE,q2]
  refine comp 0 _ _ ?h0 ?_
  case h0=>rfl
  refine comp 1 _ _ ?h1 ?_
  case h1=>rfl
  refine⟨_,_,rfl,rfl,rL _,rL _,?_,trivial,?_⟩
  ·rw [jC,jC,au8,au8]; omega
  ·rw [nx,show tups (A.map (0 :: ·) ++ A.map (1 :: ·))=tups (A.map (0 :: ·)) ++ tups (A.map (1 :: ·)) from ay5]
   exact⟨_,rfl⟩
 ·rintro ρ ⟨y,rfl⟩
  rw [ll]
  have ok:∀ S ∈ bG ls.length,S.length=ls.length/\∀ e ∈ S,0<=e:=fun S hS=>by
   obtain ⟨h1,h2⟩:=gY.mp hS
   exact⟨h1,fun e he=>by rcases h2 e he with z | z <;> omega⟩
  have ne:bG ls.length ≠ []:=fun z=>by rw [z] at ln; have:0 < 2 ^ ls.length:=Nat.pow_pos (by decide); simp at ln; omega
  generalize bG ls.length=A at *
  refine⟨_,rfl,_,rfl,(fun z=>by cases z),by rw [jC]; omega,fun j acc=>acc=intz ((A.take j).map (gZ ws ls)),rfl,?_,?_⟩
  ·rintro j z acc hz rfl
   obtain ⟨S,rfl,hS⟩:=xI hz
   obtain ⟨s1,s2⟩:=ok S (ax0 hS)
   refine⟨_,rfl,_,rfl,ws,ls,_,S,rfl,w,few,.inl rfl,s1,s2,fun zs kn=>⟨trivial,?_⟩⟩
   dsimp only
   rw [Bd.is ⟨zs,kn,rfl⟩,aB1,hS,ay5,gU]; rfl
  rintro acc rfl
  rw [jC,aC2]
  refine⟨trivial,?_⟩
  refine⟨_,rfl,_,rfl,_,rfl,_,rfl,_,rfl,fun z=>ne (List.map_eq_nil_iff.mp z),fun M m1 m2=>?_⟩
  obtain ⟨r,hr,fb⟩:=FB.idx (L:=A) (f:=gZ ws ls) m1 m2
  have rl:=(ok r (ax0 hr)).1
  refine⟨M,rfl,m1,by rw [au8]; omega,?_⟩
  have ix:L2.atI (tups A) (((A.map (gZ ws ls)).idxOf M:Nat):Int)=some (.tup (intz r)):=jS (by show (List.map _ A)[_]? = _; rw [aw3,hr]; rfl)
  exact⟨_,_,_,rfl,rfl,ix,_,_,rfl,rfl,cQ _,trivial,q r fb⟩
def oF:bK:=fun xs Q=>∃ m:Nat,xs = [.int m]/\m<=8/\Q (.lst (cZ (bG m)))
def zM:aQ:=(aM (aR 1 (sF (a7 (cW aA) aA)))
 (aM (cX (fH (a6 0)) (b7 2)
  (aR 1 (q2 sH (cJ (cI (a6 1)) [none] (b7 0) cK (jE (a6 0) (cW (a7 (qC (.int 0)) aA)))) (cJ (cI (a6 1)) [none] (b7 0) cK (jE (a6 0) (cW (a7 (qC (.int 1)) aA)))))))
 (bY (sG (a7 (a6 1) aA)))))
theorem l6 (A:List (List Int)):(cZ A).length=A.length:=au8 _
theorem zN {A:List (List Int)}{j:Nat}{z:PV} (h:(cZ A)[j]? = some z):∃ S,z = .lst (intz S)/\A[j]? = some S:=by
 rw [aw3] at h
 cases e:A[j]? with
 | none=>rw [e] at h; cases h
 | some S=>rw [e] at h; cases h; exact⟨S,rfl,rfl⟩
theorem aq8:cY zM ["links","found","k"] oF:=by
 rintro xs Q ⟨m,rfl,hm,q⟩
 refine⟨by decide,rfl,by show 1<=1000; decide,(fun p hp=>?_),trivial,?_⟩
 ·rw [av2.mp hp]; exact trivial
 refine⟨_,rfl,(m:Int),rfl,by omega,by omega,fun i ρ=>∃ y,ρ = [some (.sh true (.int (m:Int))),some (.sh true (.lst (cZ (cD i)))),y],⟨none,rfl⟩,?_,?_⟩
 ·rintro i y ρ hy ⟨y2,rfl⟩
  obtain ⟨rfl,hi⟩:=gT hy
  have hi:i < m:=by omega
  have li:=sI i
  have l256i:2 ^ i<=256:=ay6 (Nat.pow_le_pow_right (by decide) (show i<=8 by omega)) (by decide)
  have sh:∀ S ∈ cD i,S.length=i:=fun S hS=>(jH.mp hS).1
  have nx:cD (i+1)=(cD i).map (· ++ [0]) ++ (cD i).map (· ++ [1]):=rfl
  generalize cD i=A at *
  have comp:∀ (c:Int) (ρ:aV) (K:PK),ρ[1]? = some (some (.sh true (.lst (cZ A))))->K (.lst (cZ (A.map (· ++ [c])))) .fr->(cJ (cI (a6 1)) [none] (b7 0) cK (jE (a6 0) (cW (a7 (qC (.int c)) aA)))) ρ K:=fun c ρ K h1 hK=>by
   refine⟨_,h1,_,rfl,(fun z=>by cases z),by rw [l6]; omega,fun j acc=>acc=cZ ((A.take j).map (· ++ [c])),rfl,?_,?_⟩
   ·rintro j z acc hz rfl
    obtain ⟨S,rfl,hS⟩:=zN hz
    have sl:=sh S (ax0 hS)
    refine⟨_,rfl,by show 1<=1000; decide,rfl,intz S,intz [c],rfl,rfl,cQ _,cQ _,by rw [b8,b8]; show S.length+1<=_; omega,trivial,?_⟩
    rw [<- gU]
    dsimp only
    rw [aB1,hS,ay5]
    unfold cZ
    rw [ay5]; rfl
   ·rintro acc rfl
    rw [l6,aC2]
    exact hK
  dsimp only [b7,aR,q2]
  refine comp 0 _ _ ?h0 ?_
  case h0=>rfl
  refine comp 1 _ _ ?h1 ?_
  case h1=>rfl
  refine⟨_,_,rfl,rfl,trivial,trivial,?_,trivial,?_⟩
  ·rw [l6,l6,au8,au8]; omega
  ·rw [nx,show cZ (A.map (· ++ [0]) ++ A.map (· ++ [1]))=cZ (A.map (· ++ [0])) ++ cZ (A.map (· ++ [1])) from ay5]
   exact⟨_,rfl⟩
 ·rintro ρ ⟨y,rfl⟩
  rw [eI,aE9]
  have lm:=sI m
  have l256:2 ^ m<=256:=ay6 (Nat.pow_le_pow_right (by decide) hm) (by decide)
  refine⟨_,rfl,_,cD m,m,rfl,trivial,by omega,fun y hy=>(jH.mp hy).1,fun zs pz so=>⟨trivial,?_⟩⟩
  have:=an3 (pz.trans (aq6 m)) so ((oE m).imp fun h=>i6 h)
  rw [this]; exact q
def sK:bK:=xS
def zO (K:PySem.W.Frag):aQ:=(aM (qH (aD l5 (a7 (a6 1) aA)) (qC (.int 1)))
 (aM (aR 7 (aD l5 (a7 (a6 1) aA)))
 (aM (cB (mC (mD (aW (iA K "list" (a6 7)))) (aW (kE (aD cR (a7 (a6 7) aA)) (aD cR (a7 (a6 3) aA))))) (bY (qC (.bl false))) cA)
 (aM (cX (fH (aD cR (a7 (a6 3) aA))) (b7 8)
  (cB (mC (mD (aW (aD nU (a7 (bR (a6 7) (a6 8)) aA)))) (aW (kE (bR (a6 7) (a6 8)) (bR (a6 3) (a6 8))))) (bY (qC (.bl false))) cA))
 (bY (qC (.bl true)))))))
def zP (K:PySem.W.Frag):aQ:=(aM (aR 1 (dZ (a7 (bR (a6 1) (qC (.int 0))) (a7 (j6 (bR (a6 1) (qC (.int 1))) j4 (j5 (a6 2))) aA))))
 (aM (aR 3 (qC .non))
 (aM (aR 4 (w4 (qC (.int 1))))
 (aM (cX (cI (aD oF (a7 (aD cR (a7 (bR (a6 1) (qC (.int 1))) aA)) aA))) (b7 5)
  (aM (aR 6 (aD o9 (a7 (aD o6 (a7 (a6 1) (a7 (a6 5) aA))) (a7 (aD iK (a7 (a6 5) aA)) aA))))
  (cB (aW (j7 (a6 6) (a6 4))) (aM (aR 3 (a6 5))
   (aR 4 (a6 6))) cA)))
 (zO K)))))
def zQ (K:PySem.W.Frag):aQ:=(aM (aR 1 (aD oA (a7 (a6 0) (a7 (qC (.int 1)) (a7 (qC (.int 7)) aA)))))
 (aM (aR 2 (qC (.int 6)))
 (aM (cB (aW (mS (bM (cS (aD dU (a7 (a6 0) (a7 (qC (.int 0)) aA))) (qC (.int 8))) (qC (.int 8))) (qC (.int 1)))) (aR 2 (qC (.int 8))) cA)
 (zP K))))
theorem aq9 (xs:List PV) (k:Nat):dD xs none (some (k:Int))=xs.take k:=by
 unfold dD
 show ((xs.drop 0).take ((if (k:Int) < 0 then ((k:Int)+(xs.length:Int)).toNat else min (k:Int).toNat xs.length) - 0))=_
 rw [if_neg (by omega),aE9,Nat.sub_zero,List.drop_zero]
 rcases Nat.le_total k xs.length with h | h
 ·rw [Nat.min_eq_left h]
 ·rw [Nat.min_eq_right h,aC2,ay7 h]
theorem ar0 {K:PySem.W.Frag} (kl:PySem.W.kitOne K (.type "list") (.type "list")=some true) {ws r:List Int}{ls:List (Int × Int)}{y0 y2 y4 y5 y6:Option Slot}{Q:PV->Prop} (w:cC (ws.length:Int) ws ls) (few:ws.length<=40) (l8:ls.length<=8) (fb:FB (bG ls.length) (gZ ws ls) r) (q:Q (.bl true)) :
  zO K { nx:=fun _=>Q .non,rt:=Q } [y0,some (.sh true (bJ ws ls)),y2,some (.sh true (.lst (intz r))),y4,y5,y6,none,none]:=by
 have rl:r.length=ls.length:=by obtain ⟨i,h,_⟩:=fb; exact (gY.mp (ax0 h)).1
 refine⟨_,rfl,ws,ls,rfl,w,few,l8,fun r1 f1=>?_⟩
 obtain rfl:=f1.eq fb
 refine⟨_,rfl,rfl,by rw [b8]; omega,?_⟩
 refine⟨_,rfl,ws,ls,rfl,w,few,l8,fun r2 f2=>⟨trivial,?_⟩⟩
 obtain rfl:=f2.eq fb
 refine⟨_,rfl,_,_,rfl,kl,_,rfl,bH ⟨_,rfl,_,_,rfl,rfl,_,rfl,_,_,rfl,rfl,.inl ⟨_,_,rfl,rfl,_,rfl,?_⟩⟩⟩
 dsimp only
 rw [aw5 rfl]
 refine bH ?_
 refine⟨_,rfl,_,_,rfl,rfl,_,rfl,by rw [b8]; omega,by rw [b8]; omega,fun i ρ=>∃ y8,ρ = [y0,some (.sh true (bJ ws ls)),y2,some (.sh true (.lst (intz r2))),y4,y5,y6,some (.sh true (.lst (intz r2))),y8],⟨none,rfl⟩,?_,?_⟩
 ·rintro i y ρ hy ⟨y8,rfl⟩
  obtain ⟨rfl,hi⟩:=gT hy
  have hi:i < r2.length:=by rw [b8,aE9] at hi; exact hi
  refine rP ?_
  rw [Int.zero_add]
  have ix:L2.atI (intz r2) (i:Int)=some (.int r2[i]):=jS (by show (List.map PV.int r2)[_]? = _; rw [aw3,av0 hi]; rfl)
  refine⟨_,rfl,_,rfl,_,_,_,rfl,rfl,ix,_,rfl,_,rfl,bH ?_⟩
  refine⟨_,rfl,_,rfl,_,_,_,rfl,rfl,ix,_,rfl,_,rfl,_,_,_,rfl,rfl,ix,.inl ⟨_,_,rfl,rfl,_,rfl,?_⟩⟩
  dsimp only
  rw [aw5 rfl]
  exact bH ⟨_,rfl⟩
 ·rintro ρ ⟨y8,rfl⟩
  exact⟨trivial,q⟩
theorem zR {K:PySem.W.Frag} (kl:PySem.W.kitOne K (.type "list") (.type "list")=some true) {ws:List Int}{ls:List (Int × Int)}{y0:Option Slot}{k:Nat}{Q:PV->Prop} (w':cC (ws.length:Int) ws ls) (few:ws.length<=40) (k8:k<=8) (q:Q (.bl true)) :
  zP K { nx:=fun _=>Q .non,rt:=Q } [y0,some (.sh true (bJ ws ls)),si (k:Nat),none,none,none,none,none,none]:=by
 have w:cC (ws.length:Int) ws (ls.take k):=⟨rfl,fun l h=>w'.inn l (aE6 h),by rw [aF3]; have:=w'.most; omega,w'.ord.sublist (List.take_sublist _ _),w'.pos⟩
 have l8:(ls.take k).length<=8:=by rw [aF3]; omega
 have ec:dD (c6 ls) none (some (k:Int))=c6 (ls.take k):=by rw [aq9]; exact List.map_take.symm
 refine⟨_,rfl,_,_,_,rfl,rfl,rfl,_,rfl,_,_,_,rfl,rfl,rfl,_,rfl,_,rfl,_,rfl,iG ls,by show 2<=1000; decide,?_,trivial,?_⟩
 ·show flats [PV.tup (intz ws),.tup (dD (c6 ls) none (some (k:Int)))]=true
  rw [ec]; exact xP ws (ls.take k)
 show (aM (aR 3 (qC .non)) _) _ [y0,some (.sh true (.tup [.tup (intz ws),.tup (dD (c6 ls) none (some (k:Int)))])),si (k:Nat),none,none,none,none,none,none]
 rw [ec]
 show (aM (aR 3 (qC .non)) _) _ [y0,some (.sh true (bJ ws (ls.take k))),si (k:Nat),none,none,none,none,none,none]
 generalize ls.take k=L at *
 have ll:(L.map fun l=>PV.tup [PV.int l.1,PV.int l.2]).length=L.length:=au8 _
 refine⟨trivial,_,rfl,trivial,?_⟩
 refine⟨_,rfl,_,_,_,rfl,rfl,rfl,_,_,rfl,rfl,L.length,by rw [ll]; rfl,l8,?_⟩
 have ok:∀ S ∈ bG L.length,S.length=L.length/\∀ e ∈ S,0<=e:=fun S hS=>by
  obtain ⟨h1,h2⟩:=gY.mp hS
  exact⟨h1,fun e he=>by rcases h2 e he with z | z <;> omega⟩
 refine⟨_,rfl,(fun z=>by cases z),fun i ρ=>∃ (d:PV) (b:Int) (y5 y6:Option Slot),ρ = [y0,some (.sh true (bJ ws L)),si (k:Nat),some (.sh true d),si b,y5,y6,none,none]/\((i=0/\b = -1) ∨ ∃ r,d = .lst (intz r)/\b=gZ ws L r/\FB ((bG L.length).take i) (gZ ws L) r),⟨_,_,none,none,rfl,.inl ⟨rfl,rfl⟩⟩,?_,?_⟩
 ·rintro i y ρ hy ⟨d,b,y5,y6,rfl,du⟩
  obtain ⟨S,rfl,hS⟩:=zN hy
  obtain ⟨sl,sp⟩:=ok S (ax0 hS)
  have tk:(bG L.length).take (i+1)=(bG L.length).take i ++ [S]:=by rw [aB1,hS]; rfl
  refine⟨_,rfl,_,rfl,ws,L,S,rfl,w,few,sl,fun ds dl hd=>?_⟩
  obtain ⟨os,rfl,dd⟩:=yN dl hd
  have ol:=dd.len
  have s0:=rX sp
  refine⟨_,rfl,_,S,rfl,rfl,os,S.sum,rfl,by omega,dd.pos sp,s0,fun zs zp zo=>⟨trivial,?_⟩⟩
  have kn:gX ws L S zs:=⟨os,dd,zp,zo⟩
  rw [ol]
  have bd:Bd ws L S ((ws.length:Int) - (fM zs S.sum:Int)):=⟨zs,kn,rfl⟩
  have bp:=bd.pos
  have be:=bd.is
  generalize (ws.length:Int) - (fM zs S.sum:Int)=c at bp be
  refine⟨_,rfl,_,rfl,_,_,rfl,rfl,_,rfl,?_⟩
  show if decide (c > b)=true then _ else _
  by_cases gt:c > b
  ·rw [aw5 gt]
   refine bX ⟨_,rfl,trivial,_,rfl,trivial,_,_,_,_,rfl,.inr ⟨S,rfl,be,?_⟩⟩
   rw [tk]
   refine FB.new fun t ht=>?_
   rcases du with ⟨rfl,_⟩ | ⟨r,_,hb,i2,_,_,h3⟩
   ·cases ht
   ·have:=h3 t ht; omega
  ·rw [av7 gt]
   refine bH ⟨_,_,_,_,rfl,.inr ?_⟩
   rcases du with ⟨_,rfl⟩ | ⟨r,hd2,hb,fb⟩
   ·omega
   ·refine⟨r,hd2,hb,?_⟩
    rw [tk]
    exact fb.more (by omega)
 ·rintro ρ ⟨d,b,y5,y6,rfl,du⟩
  rw [l6,l4] at du
  rcases du with ⟨z,_⟩ | ⟨r,rfl,hb,fb⟩
  ·exact absurd z (aD7 (Nat.pow_pos (by decide)))
  ·rw [ay7 (by rw [l4]; exact au7 _)] at fb
   exact ar0 kl w few l8 fb q
theorem ar1 {K:PySem.W.Frag} (kl:PySem.W.kitOne K (.type "list") (.type "list")=some true):cY (zQ K) ["script","web","most","due","best","weights","bound","found","k"] sK:=by
 rintro xs Q ⟨ns,rfl,hl,q⟩
 refine⟨_,rfl,ns,1,7,rfl,hl,by decide,by decide,by decide,fun n ws ls n0 n1 w=>⟨trivial,?_⟩⟩
 have wl:=w.many
 have w6:cC (ws.length:Int) ws ls:=⟨rfl,fun l h=>by have:=w.inn l h; omega,w.most,w.ord,w.pos⟩
 refine⟨trivial,?_⟩
 refine⟨_,rfl,_,ns,0,rfl,.inl rfl,by decide,_,_,rfl,rfl,⟨by decide,by decide⟩,_,_,rfl,rfl,(by show (0:Int) < 8; decide),.inl ⟨_,_,rfl,rfl,_,rfl,?_⟩⟩
 dsimp only
 generalize decide (ns.getD (0:Int).toNat 0 / 8 % 8=1)=c
 cases c with
 | true=>exact bX ⟨trivial,zR kl (k:=8) w6 (by omega) (by decide) q⟩
 | false=>exact bH (zR kl (k:=6) w6 (by omega) (by decide) q)
end Core
namespace K_k73
open PySem PySem.W L2 PP Core
theorem _root_.L2.FnScope.au {N P:List Str}{s:Scope} (a:s.kind=.function:=by rfl) (b:s.isCoroutine=false:=by rfl) (c:s.isGenerator=false:=by rfl) (d:N.Nodup:=by decide +kernel) (e:N.take P.length=P:=by rfl) (f:∀ x∈P,s.names.lookup x=some .local∨s.names.lookup x=some .cell:=by decide +kernel) (g:∀ y∈s.names,y.2≠.free:=by decide +kernel):FnScope N P s:=⟨a,b,c,d,e,f,g⟩
def b0 (i:Nat):Stmt:=PySem.Challenge.pw_kindleweb_k73_best_plain_pledges.main.body.getD i (.Pass ⟨0,0,0,0⟩)
structure FK (K:Frag) (n:Str) (i:Nat) (f:Addr) (d:FuncData):Prop where
 a:nsIn K mainGlobals n=some (some (.ref f))
 F:eV K n n (b0 i) f d
structure FM (K:Frag) (mg:Str->Option Value) (n:Str) (i:Nat) (f:Addr) (d:FuncData):Prop where
 F:eV K n n (b0 i) f d
 m:mg n=some (.ref f)
theorem FK.M {K:Frag}{mg:Str->Option Value}{n:Str}{i:Nat}{f:Addr}{d:FuncData}{h:Heap} (z:FK K n i f d) (X:K.In h) (G:h.Ns mainGlobals mg):FM K mg n i f d:=⟨z.F,mg_of X G z.a⟩
abbrev Hb (x:Str) (ps:List Str) (i:Nat):Prop:=∀ (kV doc pm:Value) (an:Option Addr) (cdv ct:Value) (us:List Value),us.length=ps.length->bindArgs (fnOf x x (gI (b0 i)) (eC (b0 i)) (aU (b0 i)) .none kV doc pm an cdv ct) ⟨us,[]⟩=pure (ps.zip us)
theorem ar2 {A:Around}{k:Nat} (hr:bT k A):A.units+3 < cLine:=by have:=hr.units; omega
section
variable {P : Program} {w : World} {K : Frag} {mg : Str → Option Value} {base : Heap} {f : Addr} {fd : FuncData} {k i : Nat} {x : Str} {ps N : List Str}
theorem Df.au {p:bK} (F:FM K mg x i f fd) (S:FnScope N ps (aU (b0 i))) (body:∀ (cdv:Value) (A:Around) (outer:List Env) (s:Shared) (H:Hp) (E:XK),bT k (A.deeper (PyProof.Rows.envOfC x (aU (b0 i)) s.heap.objs.size f cdv))->∃ t,eJ (fQ cV P w K mg base N x (aU (b0 i)) f cdv A outer s H E).nox (eC (b0 i)) t/\∀ xs Q,p xs Q->t { nx:=fun _=>Q .non,rt:=Q } (fI N xs)) (hb:Hb x ps i:=by intro _ _ _ _ _ _ us hl; first | (obtain ⟨_,rfl⟩:=jF hl; rfl) | (obtain ⟨_,_,rfl⟩:=iL hl; rfl) | (obtain ⟨_,_,_,rfl⟩:=yT hl; rfl) | (obtain ⟨_,_,_,_,rfl⟩:=us4 hl; rfl) | (obtain ⟨_,_,_,_,_,rfl⟩:=us5 hl; rfl)) (len:∀ xs Q,p xs Q->xs.length=ps.length:=by intro xs Q h; repeat (first | (obtain ⟨rfl,_⟩:=h; rfl) | (obtain ⟨_,h⟩:=h))):Df P w K mg base (k+1) x ps p:=
 Df.of F.F F.m S hb len body
end
section
variable {P : Program} {w : World} {K : Frag} {mg : Str → Option Value} {base : Heap} {f : Addr} {fd : FuncData}
abbrev zS:Stmt:=b0 10
theorem l7:FnScope ["web","weights","known","around","link","weight"] ["web","weights"] (aU zS):=.au
theorem ar3 (B:Bt mg) (F:eV K "weighted_lists" "weighted_lists" zS f fd) (d_made_prices:Df P w K mg base 1 "made_prices" ["prices","many"] rS):cG P w K mg base cV 2 f fd ["web","weights"] (yC K):=by
 refine F.ok l7 (fun vs H Q E h=>?_) (fun cdv A outer s H vs Q E hr h=>?_)
 ·obtain ⟨v,x,px,ws,ls,wts,rfl,_⟩:=h
  rfl
 obtain ⟨v,xw,px,ws,ls,wts,rfl,W,rx,hpx,hwl,hwp,hn,hm,hin,q⟩:=h
 obtain ⟨fP,fdP,FP,bP,kpP,mP⟩:=d_made_prices.ex
 refine⟨_,jL (oM (i:=2) l7.nd rfl (Or.inl rfl) (tQ FP (hr.mono (by decide)) rfl mP kpP bP .nil uR (bW (pv 1) (bW (lM uB (by rfl) B.len PySem.boot_len (bW (fD gH (pv 0) gB (fun _ _=>rfl)) cU)) cU))))
  (jL (Q7 (i:=3) (N:=["want"]) (fr:=[none]) rfl (cH.of rfl rfl) (F1 (fD gH (pv 0) gB (fun _ _=>rfl)))
   ⟨fun _ _ _ _=>hJ (i:=0) (aA4 _ _) rfl (Or.inl rfl) (.inr rfl),fun _ _ _ _=>uT,fun _ _ _ _=>oX cU⟩ l7.nd rfl rfl rfl)
  (jL (tE PassesOwn.never rfl (U8 rfl B.zip (bW (fD gH (pv 0) gB (fun _ _=>rfl)) (bW (pv 2) cU))) (sZ (n:=2) rfl (lD (hJ (i:=4) l7.nd rfl (Or.inl rfl) (.inr rfl)) (lD (hJ (i:=5) l7.nd rfl (Or.inl rfl) (.inr rfl)) sY)))
   (jL (lA (jU aF1 PySem.F.slot_list_append PySem.F.type_list_append jV (fD p5 (pv 3) (fD gH (pv 4) gB (fun _ _=>rfl)) (fun _ _=>rfl)) (bW (oW (bW (fD gH (pv 4) gB (fun _ _=>rfl)) (bW (pv 5) cU))) cU)))
   (oH (lA (jU aF1 PySem.F.slot_list_append PySem.F.type_list_append jV (fD p5 (pv 3) (fD gH (pv 4) gB (fun _ _=>rfl)) (fun _ _=>rfl)) (bW (oW (bW (fD gH (pv 4) gB (fun _ _=>rfl)) (bW (pv 5) cU))) cU))))))
  (oH (oK (pv 3))))),?_⟩
 obtain ⟨a,p,q',ys,rfl,ha,hp,hq,hL⟩:=W.at_
 have lw:(ws.map V.int).length=ws.length:=au8 _
 have lL:=hL.length
 refine⟨_,rfl,_,rfl,a,_,_,_,rfl,rfl,aC.of ha,rfl,q',_,rfl,.inr (aC.of hq),?_⟩
 refine⟨[px,.int (ls.length:Nat)],fun z=>z = .tup (intz wts),.cons rx (.cons (by rw [lL]; exact .int _) .nil),⟨px,wts,ls.length,rfl,hpx,hwl,by omega,hwp,rfl⟩,?_⟩
 rintro kv H1 _ s1 rk rfl
 obtain ⟨t,kus,rfl,ht,rkk⟩:=rk.sqT
 obtain rfl:=rkk.ofInts
 have ha1:=s1 _ _ ha
 have hp1:=s1 _ _ hp
 have hq1:=s1 _ _ hq
 have hL1:=hL.mono s1
 refine⟨_,rfl,a,_,_,_,rfl,rfl,aC.of ha1,rfl,p,rfl,⟨_,aC.of hp1⟩,R5 (Q9 (aC.of hp1)) (fun i acc H'=>∃ bs:List Addr,acc=bs.map V.ref/\bs.length=i/\bs.Nodup/\∀ b ∈ bs,H1 b=none/\H' b=some (.lst [])) (by rw [lw]; exact aB7 (pD hn))
  (fun D hD=>⟨[],rfl,rfl,List.nodup_nil,fun _ z=>nomatch z⟩) (fun i x acc D H' hx c hPv=>?_) (fun D acc H' hD sm hDa hlen hPv=>?_)⟩
 ·obtain ⟨bs,rfl,hbl,nd,hb⟩:=hPv
  refine⟨T9 (n:=none),U0 ⟨ay4 _,fun r hr'=>?_⟩⟩
  have hrD:r ≠ D:=fun z=>by rw [z,c.acc] at hr'; cases hr'
  have hrH:H1 r=none:=c.same.free hr'
  refine c.yes (aT hr' _) ⟨bs ++ [r],by simp,by simp [hbl],?_,fun b hm=>?_⟩
  ·refine List.nodup_append.mpr ⟨nd,aA4 _ _,fun b hb1 b' hb2 e=>?_⟩
   rw [av2.mp hb2] at e
   rw [e] at hb1
   rw [(hb r hb1).2] at hr'; cases hr'
  ·rcases ax5.mp hm with hm | hm
   ·have hbD:b ≠ D:=fun z=>by
     rw [z] at hm
     have:=(hb D hm).2
     rw [c.acc] at this
     have:bs.map V.ref = []:=by injection this with e1; injection e1
     have:bs = []:=List.map_eq_nil_iff.mp this
     rw [this] at hm; simp at hm
    refine⟨(hb b hm).1,?_⟩
    rw [aN hbD,aN (cE (hb b hm).2 hr')]
    exact (hb b hm).2
   ·rw [av2.mp hm]
    exact⟨hrH,by rw [aN hrD,aZ]⟩
 ·obtain ⟨bs,rfl,hbl,nd,hb⟩:=hPv
  rw [lw] at hbl
  have R0:eM H1 H' D bs (fun k=>bI ((ls.zip wts).take 0) k):=by
   refine⟨hD,fun b hm=>⟨(hb b hm).1,fun z=>?_⟩,nd,hDa,fun k b hk=>⟨[],(hb b (ax0 hk)).2,.nil⟩,sm⟩
   rw [z] at hm
   have:=(hb D hm).2
   rw [hDa] at this
   have:bs.map V.ref = []:=by injection this with e1; injection e1
   have:bs = []:=List.map_eq_nil_iff.mp this
   rw [this] at hm; simp at hm
  have lz:(ls.zip wts).length=ls.length:=by rw [List.length_zip]; omega
  refine⟨_,rfl,a,_,_,_,rfl,rfl,aC.of (sm _ _ ha1),rfl,_,rfl,q',t,_,_,rfl,aC.of (sm _ _ hq1),aC.of (sm _ _ ht),al6 (K:=K) (xs:=ys) (ys:=wts.map V.int) (fun i σ H2=>∃ x y:Option V,σ = [some (.ref a),some xw,some (.ref t),some (.ref D),x,y]/\a8 H1 H2/\eM H1 H2 D bs (fun k=>bI ((ls.zip wts).take i) k))
   (by rw [au8,hwl,lL]) ⟨none,none,rfl,sm,R0⟩ (fun i σ H2 _ ⟨_,_,_,S2,R⟩=>⟨aC.of (S2 _ _ hq1),aC.of (S2 _ _ ht)⟩) ?_ ?_⟩
  ·rintro i y u T σ H2 H3 hi hu hT rfl ⟨x1,x2,rfl,S2,R⟩
   obtain ⟨l,b,hl,rfl,hbt⟩:=hL1.get hi
   obtain ⟨wt,hwt,rfl⟩:∃ wt,wts[i]? = some wt/\u = .int wt:=by
    rw [aw3] at hu
    cases e:wts[i]? with
    | none=>rw [e] at hu; cases hu
    | some z=>rw [e] at hu; exact⟨z,rfl,(ax4 hu).symm⟩
   have hz:(ls.zip wts)[i]? = some (l,wt):=List.getElem?_zip_eq_some.mpr ⟨hl,hwt⟩
   have il:i < ls.length:=(av4.mp hl).1
   have hlm:l ∈ ls:=ax0 hl
   obtain ⟨⟨h1,h2⟩,h3,h4⟩:=hin l hlm
   have k1:l.1.toNat < bs.length:=by omega
   have k2:l.2.toNat < bs.length:=by omega
   have e1:bs[l.1.toNat]? = some (bs[l.1.toNat]):=av0 k1
   have e2:bs[l.2.toNat]? = some (bs[l.2.toNat]):=av0 k2
   have sT:=aT hT (HO.tup [.ref b,.int wt])
   have R1:=R.mono sT
   have hb3:=sT _ _ (S2 _ _ hbt)
   have S3:=S2.trans sT
   have hTt:upd H2 T (HO.tup [.ref b,.int wt]) T=some (.tup [.ref b,.int wt]):=aZ
   generalize upd H2 T (HO.tup [.ref b,.int wt])=H3 at *
   refine⟨T,_,rfl,aC.of hTt,rfl,_,_,rfl,_,_,rfl,rfl,?_⟩
   obtain ⟨jF,hu1,hl1⟩:=R1.rows _ _ e1
   refine⟨_,rfl,_,rfl,b,_,_,_,rfl,rfl,aC.of hb3,rfl,D,_,_,.ref bs[l.1.toNat],rfl,rfl,aI.of R1.row,pW h1 (by rw [aw3,e1]; rfl),jZ (aI.of hu1),_,rfl,b,_,_,_,rfl,rfl,aC.of hb3,rfl,_,rfl,by show 2<=sizeLine; decide,fun T1 hT1=>?_⟩
   have sT1:=aT hT1 (HO.tup [.int l.2,.int wt])
   have R1':=R1.mono sT1
   have hu1':=sT1 _ _ hu1
   have hl1':=hl1.mono sT1
   have hb4:=sT1 _ _ hb3
   have hT1t:upd H3 T1 (HO.tup [.int l.2,.int wt]) T1=some (.tup [.int l.2,.int wt]):=aZ
   have S4:=S3.trans sT1
   have tl:=rT (l.1.toNat:Nat) ((ls.zip wts).take i)
   have tl2:=rT (l.2.toNat:Nat) ((ls.zip wts).take i)
   rw [aF3] at tl tl2
   refine⟨_,_,_,rfl,rfl,hu1',?_,?_⟩
   ·rw [hl1.length]; exact gL (by omega)
   have R2:=R1'.app (x:=(l.2,wt)) e1 hu1' hl1' hT1t
   have hu1l:bs[l.1.toNat] ∈ bs:=aC1 k1
   have nb:∀ {o:HO},H1 bs[l.1.toNat]=some o->False:=fun {o} z=>by rw [(R.news _ hu1l).1] at z; cases z
   have S5:a8 H1 (upd (upd H3 T1 (HO.tup [.int l.2,.int wt])) bs[l.1.toNat] (HO.lst (jF ++ [V.ref T1]))):=fun c o e=>by rw [aN (fun z=>nb (z ▸ e))]; exact S4 c o e
   have hb5:upd (upd H3 T1 (HO.tup [.int l.2,.int wt])) bs[l.1.toNat] (HO.lst (jF ++ [V.ref T1])) b=some (.tup [.int l.1,.int l.2]):=S5 _ _ hbt
   generalize upd (upd H3 T1 (HO.tup [.int l.2,.int wt])) bs[l.1.toNat] (HO.lst (jF ++ [V.ref T1]))=H5 at *
   obtain ⟨iL,hu2,hl2⟩:=R2.rows _ _ e2
   refine⟨_,rfl,_,rfl,b,_,_,_,rfl,rfl,aC.of hb5,rfl,D,_,_,.ref bs[l.2.toNat],rfl,rfl,aI.of R2.row,pW h3 (by rw [aw3,e2]; rfl),jZ (aI.of hu2),_,rfl,b,_,_,_,rfl,rfl,aC.of hb5,rfl,_,rfl,by show 2<=sizeLine; decide,fun T2 hT2=>?_⟩
   have sT2:=aT hT2 (HO.tup [.int l.1,.int wt])
   refine⟨_,_,_,rfl,rfl,sT2 _ _ hu2,?_,?_⟩
   ·rw [hl2.length]
    split
    ·rw [aw4,aC9]; exact gL (by omega)
    ·exact gL (by omega)
   have R3:=(R2.mono sT2).app (x:=(l.1,wt)) e2 (sT2 _ _ hu2) (hl2.mono sT2) aZ
   refine⟨_,_,rfl,fun c o e=>(aN (fun z=>by rw [z,(R.news _ (aC1 k2)).1] at e; cases e)).trans (sT2 _ _ (S5 c o e)),R3.congr fun k hk=>?_⟩
   rw [al5 hz]
   have c1:(k=l.1.toNat) ↔ l.1=(k:Int):=by omega
   have c2:(k=l.2.toNat) ↔ l.2=(k:Int):=by omega
   by_cases d1:k=l.1.toNat
   ·by_cases d2:k=l.2.toNat
    ·rw [if_pos d2,if_pos d1,if_pos (c1.mp d1),if_pos (c2.mp d2)]; simp
    ·rw [if_neg d2,if_pos d1,if_pos (c1.mp d1),if_neg (fun z=>d2 (c2.mpr z))]; simp
   ·by_cases d2:k=l.2.toNat
    ·rw [if_pos d2,if_neg d1,if_neg (fun z=>d1 (c1.mpr z)),if_pos (c2.mp d2)]; simp
    ·rw [if_neg d2,if_neg d1,if_neg (fun z=>d1 (c1.mpr z)),if_neg (fun z=>d2 (c2.mpr z))]; simp
  ·
   rintro σ H2 ⟨x1,x2,rfl,S2,R⟩
   refine⟨_,rfl,q D bs H2 hbl ?_⟩
   rw [lL,<- lz,aC2] at R
   exact⟨s1.free R.new,fun b hb=>⟨s1.free (R.news b hb).1,(R.news b hb).2⟩,R.nd,R.row,R.rows,s1.trans R.same⟩
theorem ar4:FnScope ["prices","many"] ["prices","many"] (aU (b0 5)):=.au
theorem ar5 (B:Bt mg) (F:FM K mg "made_prices" 5 f fd)  : Df P w K mg base 1 "made_prices" ["prices","many"] rS:=
 Df.au F ar4 (fun cdv A outer s H E hr=>by
  exact⟨(yB),(aP (dG (mY (dH B (a9 (qv 0) aF)) (qv 1)) (aS qU) dF)
   (aP (dG (qR (ak8 B rfl (a9 (kM (N:=["price"]) (fr:=[none]) (e6 (qv 0)) (fun _ _ _ _=>(aa7 (qv 0) aK))) aF))) (aS qU) dF)
   (aS (cL (kI B (a9 (qv 0) aF)))))),al4⟩)
theorem ar6:FnScope ["web"] ["web"] (aU (b0 7)):=.au
theorem ar7 (B:Bt mg) (F:FM K mg "hearths_in" 7 f fd)  : Df P w K mg base 1 "hearths_in" ["web"] nQ:=
 Df.au F ar6 (fun cdv A outer s H E hr=>by
  exact⟨(xG),(aS (cL (dH B (a9 (bZ (qv 0) aK) aF)))),ag1⟩)
theorem ar8:FnScope ["want","beside"] ["want","beside"] (aU (b0 12)):=.au
theorem ar9 (B:Bt mg) (F:FM K mg "due_of" 12 f fd)  : Df P w K mg base 1 "due_of" ["want","beside"] o0:=
 Df.au F ar8 (fun cdv A outer s H E hr=>by
  exact⟨(yF),(aP (dG (kG (qv 0) (dH B (a9 (qv 1) aF))) (aS (cL kF)) dF)
   (aS (cL (kZ B rfl (a9 (kL (nA B (a9 (xV (N:=["other","weight"]) (fr:=[none,none]) (e6 (qv 1)) (fun _ _ _ _=>(qv 1))) aF)) kJ (kK (qv 0))) aF))))),al8⟩)
theorem as0:FnScope ["script","k"] ["script","k"] (aU (b0 17)):=.au
theorem as1 (B:Bt mg) (F:FM K mg "_law_cell_at" 17 f fd)  : Df P w K mg base 1 "_law_cell_at" ["script","k"] dU:=
 Df.au F as0 (fun cdv A outer s H E hr=>by
  exact⟨(xJ),(aP (dG (wE (qv 1) (dH B (a9 (qv 0) aF))) (aS (cL (bZ (qv 0) (qv 1)))) dF)
   (aS (cL aK))),ag6⟩)
theorem zT:FnScope ["wants_cell","links_cell","many","most","wants","k","links","one","other"] ["wants_cell","links_cell","many","most"] (aU (b0 18)):=.au
theorem as2 (B:Bt mg) (F:FM K mg "_law_web_of_digits" 18 f fd)  : Df P w K mg base 1 "_law_web_of_digits" ["wants_cell","links_cell","many","most"] kX:=
 Df.au F zT (fun cdv A outer s H E hr=>by
  have nd:=zT.nd
  exact⟨(xK),(aP (kH (i:=4) nd (fK aF))
   (aP (eZ 5 nd (iB rfl B.range (qv 2))
    (aP (mZ 4 (dE (qv 0) (qv 3)))
    (aS (bB (i:=0) nd (fJ (qv 0) (qv 3))))))
   (aP (kH (i:=6) nd (fK aF))
   (aP (eZ 7 nd (iB rfl B.range (qv 2))
    (aS (eZ 8 nd (ac0 rfl B.range (mW (qv 7) aK) (qv 2))
     (aP (dG (qQ (dE (qv 1) aK) aK) (aS (mZ 6 (gQ (a9 (qv 7) (a9 (qv 8) aF))))) dF)
     (aS (bB (i:=1) nd (fJ (qv 1) aK)))))))
   (aS (cL (gQ (a9 (kI B (a9 (qv 4) aF)) (a9 (kI B (a9 (qv 6) aF)) aF))))))))),ag7⟩)
theorem as3:FnScope ["found"] ["found"] (aU (b0 20)):=.au
theorem as4 (B:Bt mg) (F:FM K mg "_law_whole_number" 20 f fd)  : Df P w K mg base 1 "_law_whole_number" ["found"] nU:=
 Df.au F as3 (fun cdv A outer s H E hr=>by
  exact⟨(xL K),(aS (cL (ab3 (ad0 B (qv 0)) (ab2 (ab4 (ad1 B (qv 0))))))),ag8 (rM K).ii (rM K).ib⟩)
theorem zU:FnScope ["web","weights","found","hearth","own","due"] ["web","weights"] (aU (b0 22)):=.au
theorem as5 (B:Bt mg) (F:FM K mg "_law_dues" 22 f fd)  : Df P w K mg base 1 "_law_dues" ["web","weights"] o6:=
 Df.au F zU (fun cdv A outer s H E hr=>by
  have nd:=zU.nd
  exact⟨(yK),(aP (kH (i:=2) nd (fK aF))
   (aP (eZ 3 nd (iB rfl B.range (dH B (a9 (bZ (qv 0) aK) aF)))
    (aP (bB (i:=4) nd (nA B (a9 (qZ (N:=["k","hearth","web","weights"]) (fr:=[none,some 3,some 0,some 1]) (iB rfl B.range (dH B (a9 (qv 1) aF))) (fun _ _ _ _=>(ac7 (qv 1) (bZ (bZ (qv 2) aK) (qv 0)))) (fun _ _ _ _=>(bZ (qv 3) (qv 0)))) aF)))
    (aP (bB (i:=5) nd kF)
    (aP (dG (aa8 (bZ (bZ (qv 0) aK) (qv 3)) (dH B (a9 (qv 4) aF))) (aS (bB (i:=5) nd (kZ B rfl (a9 (kL (qv 4) kJ (kK (bZ (bZ (qv 0) aK) (qv 3)))) aF)))) dF)
    (aS (mZ 2 (qv 5)))))))
   (aS (qV 2)))),am1⟩)
theorem zV:FnScope ["own","room","there","bound"] ["own","room"] (aU (b0 23)):=.au
theorem as6 (B:Bt mg) (F:FM K mg "_law_bound" 23 f fd)  : Df P w K mg base 1 "_law_bound" ["own","room"] o9:=
 Df.au F zV (fun cdv A outer s H E hr=>by
  have nd:=zV.nd
  exact⟨(yR),(aP (bB (i:=2) nd (nA B (a9 (qZ (N:=["due"]) (fr:=[none]) (e6 (qv 0)) (fun _ _ _ _=>(wF (qv 0) kF)) (fun _ _ _ _=>(qv 0))) aF)))
   (aP (bB (i:=3) nd (mX (dH B (a9 (qv 0) aF)) (dH B (a9 (qv 2) aF))))
   (aP (ab6 PassesOwn.never (kG (kZ B rfl (a9 (kL (qv 2) kJ (kK (mX (dH B (a9 (qv 0) aF)) (qv 3)))) aF)) (qv 1))
    (aS (bB (i:=3) nd (mW (qv 3) aK))))
   (aS (qV 3))))),an1⟩)
theorem zW:FnScope ["links","found","k"] ["links"] (aU (b0 24)):=.au
theorem as7 (B:Bt mg) (F:FM K mg "_law_lists" 24 f fd)  : Df P w K mg base 1 "_law_lists" ["links"] oF:=
 Df.au F zW (fun cdv A outer s H E hr=>by
  have nd:=zW.nd
  have hu3:=ar2 hr
  exact⟨(zM),(aP (bB (i:=1) nd (ap2 (a9 (fK aF) aF)))
   (aP (eZ 2 nd (iB rfl B.range (qv 0))
    (aS (bB (i:=1) nd (aq4 (kM (N:=["weights"]) (fr:=[none]) (e6 (qv 1)) (fun _ _ _ _=>(rN (qv 0) (fK (a9 aK aF))))) (kM (N:=["weights"]) (fr:=[none]) (e6 (qv 1)) (fun _ _ _ _=>(rN (qv 0) (fK (a9 aK aF)))))))))
   (aS (cL (aq2 B hu3 (a9 (qv 1) aF)))))),aq8⟩)
theorem zX:FnScope ["flow","many","way","wants","k","cell","pairs","one","other"] ["flow","many","way"] (aU (b0 19)):=.au
theorem as8 (B:Bt mg) (F:FM K mg "_law_web" 19 f fd) (d__law_web_of_digits:Df P w K mg base 1 "_law_web_of_digits" ["wants_cell","links_cell","many","most"] kX) (d__law_cell_at:Df P w K mg base 1 "_law_cell_at" ["script","k"] dU):Df P w K mg base 2 "_law_web" ["flow","many","way"] o5:=
 Df.au F zX (fun cdv A outer s H E hr=>by
  have nd:=zX.nd
  have hu:=P7 hr
  exact⟨(yJ),(aP (dG (qS (ab1 (qQ (dE (fJ (qv 2) aK) aK) aK) (ab0 (wE (qv 1) aK)))) (aS (cL (c7 d__law_web_of_digits hr (a9 (c7 d__law_cell_at hr (a9 (qv 0) (a9 aK aF))) (a9 (c7 d__law_cell_at hr (a9 (qv 0) (a9 aK aF))) (a9 (qv 1) (a9 (bZ (fK (a9 aK (a9 aK (a9 aK (a9 aK aF))))) (dE (qv 2) aK)) aF))))))) dF)
   (aP (kH (i:=3) nd (fK aF))
   (aP (eZ 4 nd (iB rfl B.range (qv 1))
    (aP (bB (i:=5) nd (c7 d__law_cell_at hr (a9 (qv 0) (a9 (qv 4) aF))))
    (aS (mZ 3 (bZ (fK (a9 (dE (fJ (qv 5) aK) aK) (a9 (dE (fJ (qv 5) aK) aK) (a9 (dE (fJ (qv 5) aK) aK) (a9 (dE (fJ (qv 5) aK) aK) aF))))) (dE (qv 2) aK))))))
   (aP (kH (i:=6) nd ab5)
   (aP (eZ 5 nd (e6 (qv 0))
    (aS (dG (kG (qv 1) aK) (aP (bB (i:=7) nd (dE (qv 5) (qv 1)))
     (aP (bB (i:=8) nd (dE (fJ (dE (aa5 (dE (qv 5) aK) aK) aK) aK) (qv 1)))
     (aS (dG (mY (qv 7) (qv 8)) (aS (ab8 hu (i:=6) (gQ (a9 (ac3 B rfl (a9 (qv 7) (a9 (qv 8) aF))) (a9 (ac4 B rfl (a9 (qv 7) (a9 (qv 8) aF))) aF))) mV)) dF)))) dF)))
   (aS (cL (gQ (a9 (kI B (a9 (qv 3) aF)) (a9 (kI B (a9 (ah3 B (a9 (ah0 B rfl (a9 (qv 6) aF)) aF)) aF)) aF)))))))))),am0⟩)
theorem as9:FnScope ["web","weights"] ["web","weights"] (aU (b0 11)):=.au
theorem at0 (B:Bt mg) (F:FM K mg "dues" 11 f fd) (d_due_of:Df P w K mg base 1 "due_of" ["want","beside"] o0) (d_weighted_lists:Df P w K mg base 2 "weighted_lists" ["web","weights"] rV):Df P w K mg base 3 "dues" ["web","weights"] o4:=
 Df.au F as9 (fun cdv A outer s H E hr=>by
  exact⟨(yG),(aS (cL (xV (N:=["want","beside"]) (fr:=[none,none]) (al3 B (bZ (qv 0) aK) (c7 d_weighted_lists hr (a9 (qv 0) (a9 (qv 1) aF)))) (fun _ _ _ _=>(c7 d_due_of hr (a9 (qv 0) (a9 (qv 1) aF))))))),al9⟩)
theorem zY:FnScope ["script","at","most","many"] ["script","at","most"] (aU (b0 21)):=.au
theorem at2 (B:Bt mg) (F:FM K mg "_law_small" 21 f fd) (d__law_web:Df P w K mg base 2 "_law_web" ["flow","many","way"] o5) (d__law_cell_at:Df P w K mg base 1 "_law_cell_at" ["script","k"] dU):Df P w K mg base 3 "_law_small" ["script","at","most"] oA:=
 Df.au F zY (fun cdv A outer s H E hr=>by
  have nd:=zY.nd
  exact⟨(yS),(aP (bB (i:=3) nd (dE (c7 d__law_cell_at hr (a9 (qv 0) (a9 aK aF))) (mW (qv 2) aK)))
   (aS (cL (c7 d__law_web hr (a9 (kL (qv 0) (kK (qv 1)) kJ) (a9 (qv 3) (a9 (fJ (c7 d__law_cell_at hr (a9 (qv 0) (a9 aK aF))) aK) aF))))))),an2⟩)
theorem zZ:FnScope ["web","weights","known","many","left","due"] ["web","weights"] (aU (b0 14)):=.au
theorem at3 (B:Bt mg) (F:FM K mg "borne_many" 14 f fd) (d_dues:Df P w K mg base 3 "dues" ["web","weights"] o4):Df P w K mg base 4 "borne_many" ["web","weights"] o7:=
 Df.au F zZ (fun cdv A outer s H E hr=>by
  have nd:=zZ.nd
  exact⟨(yP),(aP (bB (i:=2) nd (nA B (a9 (qZ (N:=["due"]) (fr:=[none]) (e6 (c7 d_dues hr (a9 (qv 0) (a9 (qv 1) aF)))) (fun _ _ _ _=>(wF (qv 0) kF)) (fun _ _ _ _=>(qv 0))) aF)))
   (aP (bB (i:=3) nd aK)
   (aP (bB (i:=4) nd (kZ B rfl (a9 (qv 1) aF)))
   (aP (eZ 5 nd (e6 (qv 2))
    (aP (bB (i:=4) nd (mX (qv 4) (qv 5)))
    (aS (dG (aa9 (qv 4) aK) (aS (bB (i:=3) nd (mW (qv 3) aK))) dF))))
   (aS (qV 3)))))),am9⟩)
theorem at4:FnScope ["web","weights"] ["web","weights"] (aU (b0 13)):=.au
theorem at5 (B:Bt mg) (F:FM K mg "pledge_bound" 13 f fd) (d_hearths_in:Df P w K mg base 1 "hearths_in" ["web"] nQ) (d_borne_many:Df P w K mg base 4 "borne_many" ["web","weights"] o7):Df P w K mg base 5 "pledge_bound" ["web","weights"] o8:=
 Df.au F at4 (fun cdv A outer s H E hr=>by
  exact⟨(yQ),(aS (cL (mX (c7 d_hearths_in hr (a9 (qv 0) aF)) (c7 d_borne_many hr (a9 (qv 0) (a9 (qv 1) aF)))))),an0⟩)
theorem A0:FnScope ["web","rows","link","bounds"] ["web"] (aU (b0 15)):=.au
theorem at6 (B:Bt mg) (F:FM K mg "best_plain" 15 f fd) (d_pledge_bound:Df P w K mg base 5 "pledge_bound" ["web","weights"] o8) {u_MOST_LINKS_TRIED:Nat} (m_MOST_LINKS_TRIED:mg "MOST_LINKS_TRIED" = some (.int 8 u_MOST_LINKS_TRIED)):Df P w K mg base 6 "best_plain" ["web"] l5:=
 Df.au F A0 (fun cdv A outer s H E hr=>by
  have nd:=A0.nd
  exact⟨(zL),(aP (dG (kG (dH B (a9 (bZ (qv 0) aK) aF)) (aj3 rfl m_MOST_LINKS_TRIED)) (aS qU) dF)
   (aP (bB (i:=1) nd (fK (a9 (gQ aF) aF)))
   (aP (eZ 2 nd (e6 (bZ (qv 0) aK))
    (aS (bB (i:=1) nd (rN (kM (N:=["row"]) (fr:=[none]) (e6 (qv 1)) (fun _ _ _ _=>(xX (gQ (a9 aK aF)) (qv 0)))) (kM (N:=["row"]) (fr:=[none]) (e6 (qv 1)) (fun _ _ _ _=>(xX (gQ (a9 aK aF)) (qv 0))))))))
   (aP (ad3 (i:=3) nd (N:=["row","web"]) (fr:=[none,some 0]) (e6 (qv 1)) (fun _ _ _ _=>(c7 d_pledge_bound hr (a9 (qv 1) (a9 (qv 0) aF)))))
   (aS (cL (ac2 B (a9 (bZ (qv 1) (ap0 (qv 3) (ao7 B rfl (a9 (qv 3) aF)))) aF)))))))),aq7⟩)
theorem A1:FnScope ["script","web","most","due","best","weights","bound","found","k"] ["script"] (aU (b0 25)):=.au
theorem at7 (B:Bt mg) (F:eV K "law" "law" (b0 25) f fd) (d__law_small:Df P w K mg base 3 "_law_small" ["script","at","most"] oA) (d__law_lists:Df P w K mg base 1 "_law_lists" ["links"] oF) (d_best_plain:Df P w K mg base 6 "best_plain" ["web"] l5) (d__law_bound:Df P w K mg base 1 "_law_bound" ["own","room"] o9) (d__law_dues:Df P w K mg base 1 "_law_dues" ["web","weights"] o6) (d__law_cell_at:Df P w K mg base 1 "_law_cell_at" ["script","k"] dU) (d__law_whole_number:Df P w K mg base 1 "_law_whole_number" ["found"] nU):cG P w K mg base cV 7 f fd ["script"] (kB K sK):=
 ai6 F A1 (fun xs Q h=>by unfold sK at h; repeat (first | (obtain ⟨rfl,_⟩:=h; rfl) | (obtain ⟨_,h⟩:=h))) (fun cdv A outer s H E hr=>by
  have nd:=A1.nd
  exact⟨(zQ K),(aP (bB (i:=1) nd (c7 d__law_small hr (a9 (qv 0) (a9 aK (a9 aK aF)))))
   (aP (bB (i:=2) nd aK)
   (aP (dG (qQ (dE (fJ (c7 d__law_cell_at hr (a9 (qv 0) (a9 aK aF))) aK) aK) aK) (aS (bB (i:=2) nd aK)) dF)
   (aP (bB (i:=1) nd (gQ (a9 (bZ (qv 1) aK) (a9 (kL (bZ (qv 1) aK) kJ (kK (qv 2))) aF))))
   (aP (bB (i:=3) nd kF)
   (aP (bB (i:=4) nd (ac5 aK))
   (aP (eZ 5 nd (e6 (c7 d__law_lists hr (a9 (dH B (a9 (bZ (qv 1) aK) aF)) aF)))
    (aP (bB (i:=6) nd (c7 d__law_bound hr (a9 (c7 d__law_dues hr (a9 (qv 1) (a9 (qv 5) aF))) (a9 (kZ B rfl (a9 (qv 5) aF)) aF))))
    (aS (dG (kG (qv 6) (qv 4)) (aP (bB (i:=3) nd (qv 5))
     (aS (bB (i:=4) nd (qv 6)))) dF))))
   (aP (ab7 (c7 d_best_plain hr (a9 (qv 1) aF)) aK)
   (aP (bB (i:=7) nd (c7 d_best_plain hr (a9 (qv 1) aF)))
   (aP (dG (qS (wH (wI (qR (ad2 B (qv 7)))) (wG (mY (dH B (a9 (qv 7) aF)) (dH B (a9 (qv 3) aF)))))) (aS (cL mV)) dF)
   (aP (eZ 8 nd (iB rfl B.range (dH B (a9 (qv 3) aF)))
    (aS (dG (qS (wH (wI (qR (c7 d__law_whole_number hr (a9 (bZ (qv 7) (qv 8)) aF)))) (wG (mY (bZ (qv 7) (qv 8)) (bZ (qv 3) (qv 8)))))) (aS (cL mV)) dF)))
   (aS (cL mV))))))))))))),ar1 (rM K).ll⟩)
end
set_option autoImplicit true in
theorem at8 {l:OpenLaw}{w:World}{K:Frag}{h:Heap}{mg:Str->Option Value} (X:K.In h) (G:h.Ns mainGlobals mg) (hfa:mg "law" = some (.ref fa))
  (h0:FK K "made_prices" 5 f0 d0)
  (h1:FK K "hearths_in" 7 f1 d1)
  (h2:FK K "due_of" 12 f2 d2)
  (h3:FK K "_law_cell_at" 17 f3 d3)
  (h4:FK K "_law_web_of_digits" 18 f4 d4)
  (h5:FK K "_law_whole_number" 20 f5 d5)
  (h6:FK K "_law_dues" 22 f6 d6)
  (h7:FK K "_law_bound" 23 f7 d7)
  (h8:FK K "_law_lists" 24 f8 d8)
  (h9:FK K "weighted_lists" 10 f9 d9)
  (h10:FK K "_law_web" 19 f10 d10)
  (h11:FK K "dues" 11 f11 d11)
  (h12:FK K "_law_small" 21 f12 d12)
  (h13:FK K "borne_many" 14 f13 d13)
  (h14:FK K "pledge_bound" 13 f14 d14)
  (h15:FK K "best_plain" 15 f15 d15)
  (a16:nsIn K mainGlobals "law" = some (some (.ref f16))) (l16:K.lookup f16=some ⟨oc16,od16,.func (fnOf "law" "law" (gI (b0 25)) (eC (b0 25)) (aU (b0 25)) .none kV16 dc16 pm16 an16 cd16 ct16),sl16⟩) (c16:codeIn K cd16 "law" = true) (k16:keepIn K (.ref f16)=true)
  (z_len:nsIn K mainGlobals "len" = some none)
  (z_range:nsIn K mainGlobals "range" = some none)
  (z_tuple:nsIn K mainGlobals "tuple" = some none)
  (z_list:nsIn K mainGlobals "list" = some none)
  (z_sorted:nsIn K mainGlobals "sorted" = some none)
  (z_all:nsIn K mainGlobals "all" = some none)
  (z_any:nsIn K mainGlobals "any" = some none)
  (z_zip:nsIn K mainGlobals "zip" = some none)
  (z_min:nsIn K mainGlobals "min" = some none)
  (z_max:nsIn K mainGlobals "max" = some none)
  (z_sum:nsIn K mainGlobals "sum" = some none)
  (z_isinstance:nsIn K mainGlobals "isinstance" = some none)
  (z_int:nsIn K mainGlobals "int" = some none)
  (z_bool:nsIn K mainGlobals "bool" = some none)
  (z_enumerate:nsIn K mainGlobals "enumerate" = some none)
  {u_MOST_LINKS_TRIED:Nat} (z_MOST_LINKS_TRIEDx:nsIn K mainGlobals "MOST_LINKS_TRIED" = some (some (.int 8 u_MOST_LINKS_TRIED)))
  : ∃ fd:FuncData,(∀ (s:Shared) (v:Value),BindsTo s fd ⟨[v],[]⟩ [("script",v)])/\∀ base:Heap,K.In base->base.Ns mainGlobals mg->cG l.prog w K mg base cV 7 fa fd ["script"] (nV K):=by
 have e:=hfa.symm.trans (mg_of X G a16)
 cases e
 have F16:=P6 (st:=b0 25) l16 c16 k16
 have m16:=mg_of X G a16
 have B:Bt mg:=⟨mg_none_of X G z_len,mg_none_of X G z_range,mg_none_of X G z_tuple,mg_none_of X G z_list,mg_none_of X G z_sorted,mg_none_of X G z_all,mg_none_of X G z_any,mg_none_of X G z_zip,mg_none_of X G z_min,mg_none_of X G z_max,mg_none_of X G z_sum,mg_none_of X G z_isinstance,mg_none_of X G z_int,mg_none_of X G z_bool,mg_none_of X G z_enumerate⟩
 have m_MOST_LINKS_TRIED:=mg_of X G z_MOST_LINKS_TRIEDx
 refine⟨fnOf "law" "law" (gI (b0 25)) (eC (b0 25)) (aU (b0 25)) .none kV16 dc16 pm16 an16 cd16 ct16,fun s v=>.of_eq rfl,fun base KB _=>?_⟩
 have D0:=ar5 (P:=l.prog) (w:=w) (base:=base) B (h0.M X G)
 have D1:=ar7 (P:=l.prog) (w:=w) (base:=base) B (h1.M X G)
 have D2:=ar9 (P:=l.prog) (w:=w) (base:=base) B (h2.M X G)
 have D3:=as1 (P:=l.prog) (w:=w) (base:=base) B (h3.M X G)
 have D4:=as2 (P:=l.prog) (w:=w) (base:=base) B (h4.M X G)
 have D5:=as4 (P:=l.prog) (w:=w) (base:=base) B (h5.M X G)
 have D6:=as5 (P:=l.prog) (w:=w) (base:=base) B (h6.M X G)
 have D7:=as6 (P:=l.prog) (w:=w) (base:=base) B (h7.M X G)
 have D8:=as7 (P:=l.prog) (w:=w) (base:=base) B (h8.M X G)
 have D9:=al7 (ar3 (P:=l.prog) (w:=w) (mg:=mg) (base:=base) B h9.F D0) (h9.F.binds (ps:=["web","weights"]) fun _ _ _ _ _ _ us hl=>by obtain ⟨_,_,rfl⟩:=iL hl; rfl) h9.F.kp (mg_of X G h9.a)
 have D10:=as8 (P:=l.prog) (w:=w) (base:=base) B (h10.M X G) D4 D3
 have D11:=at0 (P:=l.prog) (w:=w) (base:=base) B (h11.M X G) D2 D9
 have D12:=at2 (P:=l.prog) (w:=w) (base:=base) B (h12.M X G) D10 D3
 have D13:=at3 (P:=l.prog) (w:=w) (base:=base) B (h13.M X G) D11
 have D14:=at5 (P:=l.prog) (w:=w) (base:=base) B (h14.M X G) D1 D13
 have D15:=at6 (P:=l.prog) (w:=w) (base:=base) B (h15.M X G) D14 m_MOST_LINKS_TRIED
 exact ai7 (at7 B F16 D12 D8 D15 D7 D6 D3 D5)
theorem at9 {l:OpenLaw}{q:Program}{loose:List Str}{XP:(Str->Option Value)->Heap->Prop}{YP:World->Heap->Prop}{d:DefRec}{K:Params->Frag} (hn:l.most=some 63) (hdf:d.params.defaults = [])
  (hY:∀ (w:World) (h:Heap),YP w h->(K w.params).In h)
  (F:∀ (w:World) (mg:Str->Option Value) (fa:Addr) (h:Heap),(K w.params).In h->h.Ns mainGlobals mg->mg d.name=some (.ref fa)->
   ∃ fd:FuncData,(∀ (s:Shared) (u:Value),BindsTo s fd ⟨[u],[]⟩ [("script",u)])/\∀ base:Heap,(K w.params).In base->base.Ns mainGlobals mg->cG l.prog w (K w.params) mg base cV 7 fa fd ["script"] (nV (K w.params))) :
  WalkO q loose XP YP l.row.toRowW d [] (fun f vs=>PySem.call f vs):=
 L2.P5 (n:=63) (k:=7) (x:="script") (CX:=fun _=>cV) (sp:=fun w=>nV (K w.params)) hn (by decide) hdf ⟨rfl,by decide,by decide⟩ hY F (fun _ _ a ns hl hO hS=>⟨a,ns,rfl,ai8 hO hS,hl,fun _=>rfl⟩) fun _ _ _ _ _ z=>z
end K_k73
open PySem PySem.W PyProof.Rows
set_option maxRecDepth 100000 in
set_option maxHeartbeats 0 in
theorem PySem.Challenge.cw_kindleweb_k73_best_plain_pledges_holds : PySem.Challenge.rw_kindleweb_k73_best_plain_pledges.Holds := by
 w_on; o_law; k_head; (case hw => w_witness2)
 k_fill
 refine K_k73.at9 (l := PySem.Challenge.rw_kindleweb_k73_best_plain_pledges) rfl rfl (fun w h Y => PySem.W.kIn_of Y) ?F
 case F =>
  intro w mg fa h KX G hmg
  refine' K_k73.at8 KX G hmg ?h0 ?h1 ?h2 ?h3 ?h4 ?h5 ?h6 ?h7 ?h8 ?h9 ?h10 ?h11 ?h12 ?h13 ?h14 ?h15 ?a16 ?l16 ?c16 ?k16 ?z_len ?z_range ?z_tuple ?z_list ?z_sorted ?z_all ?z_any ?z_zip ?z_min ?z_max ?z_sum ?z_isinstance ?z_int ?z_bool ?z_enumerate ?z_MOST_LINKS_TRIEDx
  (case h0 | h1 | h2 | h3 | h4 | h5 | h6 | h7 | h8 | h9 | h10 | h11 | h12 | h13 | h14 | h15 => exact ⟨by k_is, ⟨⟨_, _, _, _, _, _, _, _, _, rfl, by k_is, by k_is⟩, by k_is⟩⟩)
  (case a16|l16|c16|k16|z_len|z_range|z_tuple|z_list|z_sorted|z_all|z_any|z_zip|z_min|z_max|z_sum|z_isinstance|z_int|z_bool|z_enumerate|z_MOST_LINKS_TRIEDx => k_is)


