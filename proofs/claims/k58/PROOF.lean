import PyProof.Rows.All
import Wide.All
import OpenK.AllK
import Wide.FinOn
import Lean
import PyProof.EqAt
import PyProof.EqKinds
import PyProof.TupleCall
import PyProof.NeKinds
import PyProof.Draws
import PyProof.ZipIter
import PyProof.DictUpdate
import PyProof.AutoSeq1
import PyProof.ListRange
import PyProof.ListMulRoad
import PyProof.FactsAll.tuple_2
import PyProof.Rows.SortShell
import PyProof.EnumFor
import PyProof.EnumMake
import PyProof.EnumStmt
import PyProof.Rows.SortWalk
import KE.KDictList
import PyProof.SumAny
import PyProof.ConsumeWalk
import PyProof.WalksMore
import PyProof.Rows.TupAssign
import PyProof.ExcArgsOwn
import PySem.Challenge.RW_kindleweb_k58_board_webs
set_option Elab.async false
set_option linter.all false
set_option maxRecDepth 100000
set_option maxHeartbeats 4000000
section
open PySem PySem.Spec PyProof.Rows
def ar6:=@wpAny_bind
def ar7:=@Heap.get?_push_of_some
def ar8:=@List.size_toArray
def ar9:=@List.getElem?_eq_getElem
def as0:=@decide_eq_false
def as1:=@wpS_bind
def as2:=@wpAny_pure
def as3:=@Nat.le_refl
def as4:=@List.mem_cons
def as5:=@Nat.lt_of_lt_of_le
def as7:=@wpS_pure
def as8:=@Heap.lt_size
def at0:=@decide_eq_true
def at2:=@List.getD_eq_getElem?_getD
def at3:=@Bool.false_ne_true
def at4:=@List.length_map
def at5:=@List.append_assoc
def at9:=@List.not_mem_nil
def au1:=@List.getElem?_set_ne
def au2:=@List.mem_singleton
def au3:=@List.getElem?_eq_some_iff
def au4:=@List.mem_cons_of_mem
def au5:=@Heap.get?_push_size
def au6:=@List.mem_cons_self
def au7:=@decide_eq_true_eq
def au8:=@List.mem_append_right
def au9:=@List.getElem?_map
def av0:=@Option.some.inj
def av1:=@List.map_append
def av2:=@List.take_of_length_le
def av3:=@List.pairwise_append
def av4:=@Nat.ne_of_lt
def av5:=@Array.getElem_mem
def av6:=@Nat.lt_or_ge
def av7:=@List.take_append_drop
def av8:=@Int.emod_lt_of_pos
def av9:=@PySem.mem_of_lookup
def aw2:=@Int.emod_nonneg
def aw4:=@PySem.W.kia_one
def aw5:=@List.lookup_cons
def aw6:=@Nat.le_trans
def aw7:=@List.length_append
def aw8:=@Bool.false_eq_true
def ax0:=@Array.length_toList
def ax1:=@List.replicate_succ
def ax2:=@Array.toList_append
def ax3:=@List.append_nil
def ax5:=@beq_self_eq_true
def ax6:=@Nat.lt_irrefl
def ax8:=@List.getElem?_set_self
def ax9:=@wpS_forRange
def ay0:=@List.mem_append
def ay1:=@wpAny_mono
def ay3:=@List.length_set
def ay4:=@List.pairwise_iff_getElem
def ay5:=@List.getElem_of_mem
def ay7:=@wpAny_field
def ay8:=@Nat.zero_le
def ay9:=@List.pairwise_map
def az0:=@Array.getElem?_toList
def az3:=@or_false
def az5:=@List.mem_map
def az6:=@wpAny_callSpecial?_slot
def az7:=@Bool.and_eq_true
def az8:=@List.all_eq_true
def az9:=@decide_eq_false_iff_not
def aA0:=@PyProof.Rows.slot_tuple_getitem
def aA1:=@List.getElem?_append_left
def aA2:=@wpAny_call_entry
def aA3:=@List.getElem_mem
def aA4:=@Nat.le_of_lt
def aA9:=@wpAny_truthy_bool
def aB0:=@wpAny_newObj_type
def aB1:=@List.flatten_cons
def aB3:=@List.mem_filter
def aB4:=@Bool.eq_iff_iff
def aB5:=@Nat.ne_of_gt
def aB6:=@PyProof.Rows.callWith_type1
def aB8:=@wpAny_holding
def aB9:=@List.length_cons
def aC0:=@List.length_drop
def aC2:=@List.getElem?_append_right
def aC3:=@List.zip_cons_cons
def aC5:=@Heap.size_push
def aC6:=@wpAny_seqItems
def aC7:=@wpAny_rule
def aC8:=@wpAny_setField_rec
def aC9:=@Nat.eq_or_lt_of_le
def aD1:=@List.mem_append_left
def aD2:=@if_false
def aD4:=@Int.le_refl
def aD5:=@wpS_mono
def aD6:=@List.take_add_one
def aE4:=@List.drop_take
end
namespace L2
open PySem PySem.Spec PyProof.Rows
abbrev aY:=Sum Int Str
def rZ:aY->Value->Bool
 | .inl k,v=>Value.isInt k v
 | .inr x,v=>Value.isStrOf x v
def zW (w:World):aY->Int
 | .inl k=>hashInt k
 | .inr x=>hashStr w x
theorem fM:∀ {k:aY}{v:Value},rZ k v=true->(∃ i t,k=Sum.inl i/\v=Value.int i t) ∨ (∃ x t,k=Sum.inr x/\v=Value.str x t)
 | .inl i,v,h=>by
  obtain ⟨t,e⟩:=Value.isInt_shape (k:=i) (v:=v) h
  exact .inl ⟨i,t,rfl,e⟩
 | .inr x,v,h=>by
  obtain ⟨t,e⟩:=Value.isStrOf_shape (x:=x) (v:=v) h
  exact .inr ⟨x,t,rfl,e⟩
theorem zX (a b:Int):decide ((Sum.inl a:aY)=Sum.inl b)=(a == b):=by
 by_cases e:a=b
 ·subst e; simp
 ·have h : ¬ (Sum.inl a:aY)=Sum.inl b:=fun q=>e (Sum.inl.inj q)
  rw [as0 h]
  exact (beq_eq_false_iff_ne.mpr e).symm
theorem zY (a b:Str):decide ((Sum.inr a:aY)=Sum.inr b)=decide (a=b):=by
 by_cases e:a=b
 ·subst e; simp
 ·have h : ¬ (Sum.inr a:aY)=Sum.inr b:=fun q=>e (Sum.inr.inj q)
  rw [as0 h,as0 e]
theorem zZ (a:Int) (b:Str):decide ((Sum.inl a:aY)=Sum.inr b)=false:=as0 (fun q=>nomatch q)
theorem A0 (a:Str) (b:Int):decide ((Sum.inr a:aY)=Sum.inl b)=false:=as0 (fun q=>nomatch q)
def nX (prog:Program) (w:World):PySem.KeyKind prog w aY where
 is:=rZ
 hash:=zW w
 inj:=fun v a b ha hb=>by
  rcases fM ha with ⟨i,t,rfl,rfl⟩ | ⟨x,t,rfl,rfl⟩
  ·rcases fM hb with ⟨j,u,rfl,e⟩ | ⟨y,u,rfl,e⟩
   ·injection e with e1 _; rw [e1]
   ·exact nomatch e
  ·rcases fM hb with ⟨j,u,rfl,e⟩ | ⟨y,u,rfl,e⟩
   ·exact nomatch e
   ·injection e with e1 _; rw [e1]
 byValue:=fun k v h=>by
  rcases fM h with ⟨i,t,rfl,rfl⟩ | ⟨x,t,rfl,rfl⟩ <;> rfl
 pyHash:=fun hv h=>by
  rcases fM hv with ⟨i,t,rfl,rfl⟩ | ⟨x,t,rfl,rfl⟩
  ·exact wpAny_pyHash_int h
  ·exact wpAny_pyHash_str h
 eqBool:=fun hu hv h=>by
  rcases fM hu with ⟨i,t,rfl,rfl⟩ | ⟨x,t,rfl,rfl⟩
  ·rcases fM hv with ⟨j,u,rfl,rfl⟩ | ⟨y,u,rfl,rfl⟩
   ·rw [zX] at h; exact wpAny_eqBool_int h
   ·rw [zZ] at h; exact SeqAt.EqAt.int_str i t y u _ _ _ _ h
  ·rcases fM hv with ⟨j,u,rfl,rfl⟩ | ⟨y,u,rfl,rfl⟩
   ·rw [A0] at h; exact SeqAt.EqAt.str_int x t j u _ _ _ _ h
   ·rw [zY] at h; exact wpAny_eqBool_str h
 «strs»:=fun k x t v h=>by
  rcases fM h with ⟨i,u,rfl,e⟩ | ⟨y,u,rfl,e⟩
  ·exact nomatch e
  ·injection e with e1 _
   subst e1
   cases v <;> rfl
inductive V where
 | non | bl (b:Bool) | int (i:Int) | str (x:Str) | byt (b:Array UInt8) | flt (b:UInt64) | ref (a:Addr) | ty (n:String)
 deriving DecidableEq
def aS:V->Value->Prop
 | .non,u=>u=Value.none
 | .bl b,u=>u=Value.bool b
 | .int i,u=>∃ t,u=Value.int i t
 | .str x,u=>∃ t,u=Value.str x t
 | .byt b,u=>∃ t,u=Value.bytes b t
 | .flt b,u=>∃ t,u=Value.float b t
 | .ref a,u=>u=Value.ref a
 | .ty n,u=>u=Value.type n
abbrev aF:List V->List Value->Prop:=Paired aS
theorem aF.length {xs:List V}{us:List Value} (r:aF xs us):xs.length=us.length:=Paired.length r
theorem aF.get:∀ {xs:List V}{us:List Value}{i:Nat}{x:V},aF xs us->xs[i]? = some x->∃ u,us[i]? = some u/\aS x u
 | _,_,_,_,.nil,e=>by simp at e
 | _,_,0,_,.cons r _,e=>by simp at e; subst e; exact⟨_,rfl,r⟩
 | _,_,i+1,x,.cons _ t,e=>by
  obtain ⟨u,h1,h2⟩:=aF.get (i:=i) (x:=x) t (by simpa using e)
  exact⟨u,by simpa using h1,h2⟩
theorem aF.append:∀ {xs ys:List V}{us ws:List Value},aF xs us->aF ys ws->aF (xs ++ ys) (us ++ ws)
 | _,_,_,_,.nil,s=>s
 | _,_,_,_,.cons r t,s=>.cons r (aF.append t s)
theorem aF.take:∀ {xs:List V}{us:List Value} (n:Nat),aF xs us->aF (xs.take n) (us.take n)
 | _,_,0,_=>.nil
 | _,_,_+1,.nil=>.nil
 | _,_,n+1,.cons r t=>.cons r (aF.take n t)
theorem aF.drop:∀ {xs:List V}{us:List Value} (n:Nat),aF xs us->aF (xs.drop n) (us.drop n)
 | _,_,0,r=>r
 | _,_,_+1,.nil=>.nil
 | _,_,n+1,.cons _ t=>aF.drop n t
def nY:Option V->Option Value->Prop
 | some v,some u=>aS v u
 | none,none=>True
 | _,_=>False
def KV {κ:Type}:List (κ × V)->List (κ × Value)->Prop:=Paired fun (p:κ × V) (q:κ × Value)=>p.1=q.1/\aS p.2 q.2
def kV:aY->V
 | .inl i=>.int i
 | .inr x=>.str x
inductive HO where
 | lst (xs:List V)
 | tup (xs:List V)
 | dK (kvs:List (aY × V)) | dT (kvs:List (List aY × V))
 | set (S:Int->Bool) (n:Nat)
 | ins (C dx:Addr) (fs:List (Str × V))
 | own (x:Addr)
 | xd (fs:List (Str × V))
 | met (f x:Addr)
 | rng (lo hi:Int)
 | frz (o:Obj) (u:HO)
 | tbl (ps:Array Value)
 | ext (φ:Heap->Prop)
abbrev Hp:=Addr->Option HO
def upd (H:Hp) (a:Addr) (o:HO):Hp:=fun b=>if b=a then some o else H b
theorem cD {H:Hp}{a:Addr}{o:HO}:upd H a o a=some o:=by unfold upd; rw [if_pos rfl]
theorem aT {H:Hp}{a b:Addr}{o:HO} (h:b ≠ a):upd H a o b=H b:=by unfold upd; rw [if_neg h]
theorem eL {H:Hp}{a b:Addr}{o:HO} (h:H a=some o) (h':H b=none):a ≠ b:=by
 intro e; subst e; rw [h] at h'; cases h'
def fA (h:Heap) (a:Addr):Prop:=∀ o,h.get? a=some o->o.dict=none
theorem fA.new (h:Heap) (o:Obj) (d:o.dict=none) (s:o.isFreed=false:=by rfl):fA (h.push o) h.objs.size:=fun u e=>by
 rw [au5 h (o:=o) s] at e
 cases e; exact d
theorem fA.stay {h h':Heap}{a:Addr}{o:Obj} (n:fA h a) (e:h.get? a=some o) (e':h'.get? a=some o):fA h' a:=fun u hu=>by
 rw [e'] at hu; cases hu; exact n _ e
section
variable (P : Program) (w : World)
def bY (H:Hp) (h:Heap) (a:Addr):HO->Prop
 | .lst xs=>xs.length<=sizeLine/\∃ (its:List Value) (n:Nat),aF xs its/\h.get? a=some { cls:=.type "list",data:=.seq its.toArray n }
 | .tup xs=>xs.length<=sizeLine/\∃ its:List Value,aF xs its/\IsTup h a its.toArray/\fA h a
 | .dK kvs=>kvs.length<=sizeLine/\(a == sysModules)=false/\∃ vs,KV kvs vs/\h.DictOf (nX P w) a vs
 | .dT kvs=>kvs.length<=sizeLine/\(a == sysModules)=false/\∃ xs:List (List aY × Addr × Value),
   Paired (fun (p:List aY × V) (q:List aY × Addr × Value)=>p.1=q.1/\H q.2.1=some (.tup (p.1.map kV))/\aS p.2 q.2.2) kvs xs/\
   ∃ o es ep,h.get? a=some o/\o.ExactDict/\o.data = .dict es ep/\es.toList=xs.map (entryOfKey (tupleKind (nX P w)))/\(xs.map (·.1)).Nodup
 | .set S n=>h.SetOf (intKind P w) a S n
 | .ins C dx fs=>H dx=some (.own a)/\fs.length<=1000/\dx ≠ a/\h.get? a=some (PySem.W.instObj C dx)/\
   ∃ mA,h.Ns1 dx mA/\(∀ f,nY (fs.lookup f) (mA f))/\PySem.Within mA (fs.map (·.1))
 | .own _=>∃ o,h.get? a=some o
 | .xd fs=>∃ mA,h.Ns1 a mA/\∀ f,nY (fs.lookup f) (mA f)
 | .rng lo hi=>∃ t u v,h.get? a=some { cls:=.type "range",data:=.fields #[.int lo t,.int hi u,.int 1 v] }
 | .frz o u=>h.get? a=some o/\bY H h a u
 | .tbl ps=>h.get? a=some { cls:=.none,data:=.fields ps }
 | .met f x=>h.get? a=some (PySem.W.methodObj (.ref f) (.ref x))
 | .ext φ=>φ h/\(∃ o,h.get? a=some o)/\∀ h1 h2:Heap,φ h1->(∀ o,h1.get? a=some o->h2.get? a=some o)->φ h2
def bG (H:Hp) (h:Heap):Prop:=∀ a o,H a=some o->bY P w H h a o
end
section
variable {P : Program} {w : World} {H H' : Hp} {h h' : Heap} {a : Addr} {o : HO}
theorem bY.lt (x:bY P w H h a o):a < h.objs.size:=by
 cases o with
 | lst xs=>obtain ⟨_,_,_,_,e⟩:=x; exact as8 e
 | tup xs=>obtain ⟨_,_,_,p,_⟩:=x; exact p.lt
 | dK kvs=>obtain ⟨_,_,_,_,o,_,_,e,_⟩:=x; exact as8 e
 | dT kvs=>obtain ⟨_,_,_,_,o,_,_,e,_⟩:=x; exact as8 e
 | set S n=>obtain ⟨o,_,_,_,e,_⟩:=x; exact as8 e
 | ins C dx fs=>obtain ⟨_,_,_,e,_⟩:=x; exact as8 e
 | own y=>obtain ⟨_,e⟩:=x; exact as8 e
 | xd fs=>obtain ⟨_,⟨_,_,_,e,_⟩,_⟩:=x; exact as8 e
 | rng lo hi=>obtain ⟨_,_,_,e⟩:=x; exact as8 e
 | frz ob u=>obtain ⟨e,_⟩:=x; exact as8 e
 | tbl ps=>exact as8 (show h.get? a=some _ from x)
 | met f y=>exact as8 (show h.get? a=some _ from x)
 | ext φ=>obtain ⟨_,⟨_,e⟩,_⟩:=x; exact as8 e
theorem Paired.mapP {α β:Type}{F G:α->β->Prop}:∀ {l₁:List α}{l₂:List β},Paired F l₁ l₂->(∀ a b,F a b->G a b)->Paired G l₁ l₂
 | _,_,.nil,_=>.nil
 | _,_,.cons r t,f=>.cons (f _ _ r) (Paired.mapP t f)
theorem bY.stay (x:bY P w H h a o) (k:∀ b u,(b=a ∨ H b=some (.own a))->h.get? b=some u->h'.get? b=some u)
  (ho:∀ b,H b=some (.own a)->H' b=some (.own a)) (ht:∀ b xs,H b=some (.tup xs)->H' b=some (.tup xs)):bY P w H' h' a o:=by
 induction o with
 | lst xs=>obtain ⟨z,its,n,r,e⟩:=x; exact⟨z,its,n,r,k _ _ (.inl rfl) e⟩
 | tup xs=>obtain ⟨z,its,r,⟨ob,e,c⟩,nd⟩:=x; exact⟨z,its,r,⟨ob,k _ _ (.inl rfl) e,c⟩,nd.stay e (k _ _ (.inl rfl) e)⟩
 | dK kvs=>obtain ⟨z,y,vs,r,ob,es,ep,e,c⟩:=x; exact⟨z,y,vs,r,ob,es,ep,k _ _ (.inl rfl) e,c⟩
 | dT kvs=>
  obtain ⟨z,y,xs,r,ob,es,ep,e,c⟩:=x
  exact⟨z,y,xs,Paired.mapP r fun p q z=>⟨z.1,ht _ _ z.2.1,z.2.2⟩,ob,es,ep,k _ _ (.inl rfl) e,c⟩
 | set S n=>obtain ⟨ob,es,ep,t,e,c⟩:=x; exact⟨ob,es,ep,t,k _ _ (.inl rfl) e,c⟩
 | ins C dx fs=>
  obtain ⟨d,z,ne,e,mA,⟨od,es,ep,e2,c⟩,r⟩:=x
  exact⟨ho _ d,z,ne,k _ _ (.inl rfl) e,mA,⟨od,es,ep,k _ _ (.inr d) e2,c⟩,r⟩
 | own y=>obtain ⟨ob,e⟩:=x; exact⟨ob,k _ _ (.inl rfl) e⟩
 | xd fs=>obtain ⟨mA,⟨od,es,ep,e,c⟩,r⟩:=x; exact⟨mA,⟨od,es,ep,k _ _ (.inl rfl) e,c⟩,r⟩
 | rng lo hi=>obtain ⟨t,u,v,e⟩:=x; exact⟨t,u,v,k _ _ (.inl rfl) e⟩
 | frz ob u ih=>obtain ⟨e,q⟩:=x; exact⟨k _ _ (.inl rfl) e,ih q⟩
 | tbl ps=>
  have e:h.get? a=some { cls:=.none,data:=.fields ps }:=x
  show h'.get? a=some { cls:=.none,data:=.fields ps }
  exact k a _ (.inl rfl) e
 | met f y=>
  have e:h.get? a=some (PySem.W.methodObj (.ref f) (.ref y)):=x
  show h'.get? a=some (PySem.W.methodObj (.ref f) (.ref y))
  exact k a _ (.inl rfl) e
 | ext φ=>obtain ⟨p,⟨o,e⟩,st⟩:=x; exact⟨st _ _ p fun o q=>k _ _ (.inl rfl) q,⟨o,k _ _ (.inl rfl) e⟩,st⟩
theorem bG.lt (x:bG P w H h) (e:H a=some o):a < h.objs.size:=(x a o e).lt
theorem bG.fresh (x:bG P w H h) (e:h.objs.size<=a):H a=none:=by
 cases q:H a with
 | none=>rfl
 | some u=>exact absurd (as5 (x.lt q) e) (ax6 _)
theorem bG.kept (x:bG P w H h) (k:∀ b u,h.get? b=some u->h'.get? b=some u):bG P w H h':=fun a o e=>
 (x a o e).stay (fun b u _ q=>k b u q) (fun _ q=>q) fun _ _ q=>q
theorem bG.laid (x:bG P w H h) (k:∀ b u,h.get? b=some u->h'.get? b=some u) (hp:h.objs.size<=a) (new:bY P w (upd H a o) h' a o):bG P w (upd H a o) h':=fun b u e=>by
 have hn:=x.fresh hp
 by_cases hb:b=a
 ·subst hb; rw [cD] at e; cases e; exact new
 ·rw [aT hb] at e
  exact (x b u e).stay (fun c v _ q=>k c v q) (fun c q=>by rw [aT (eL q hn)]; exact q) fun c xs q=>by rw [aT (eL q hn)]; exact q
end
def Rd (H:Hp) (a:Addr) (u:HO):Prop:=H a=some u ∨ ∃ o,H a=some (.frz o u)
theorem Rd.ok {P:Program}{w:World}{H:Hp}{h:Heap}{a:Addr}{u:HO} (r:Rd H a u) (x:bG P w H h):bY P w H h a u:=by
 rcases r with r | ⟨o,r⟩
 ·exact x a u r
 ·obtain ⟨_,q⟩:=x a _ r
  exact q
def l9:Option HO->Prop
 | some (.lst _)=>True
 | some (.dK _)=>True
 | some (.dT _)=>True
 | some (.set _ _)=>True
 | some (.ins _ _ _)=>True
 | some (.ext _)=>True
 | _=>False
section
variable {P : Program} {w : World} {H : Hp} {h h' : Heap} {x e : Addr} {o' : HO}
theorem bG.write (ok:bG P w H h) (mu:l9 (H x)) (he:e=x ∨ H e=some (.own x)) (k:∀ b u,b ≠ e->h.get? b=some u->h'.get? b=some u) (heo:∃ u,h'.get? e=some u)
  (new:bY P w (upd H x o') h' x o'):bG P w (upd H x o') h':=fun b u q=>by
 have nown:∀ c y,H c=some (.own y)->c ≠ x:=fun c y r z=>by subst z; rw [r] at mu; exact mu
 have ntup:∀ c xs,H c=some (.tup xs)->c ≠ x:=fun c xs r z=>by subst z; rw [r] at mu; exact mu
 by_cases hb:b=x
 ·subst hb; rw [cD] at q; cases q; exact new
 ·rw [aT hb] at q
  by_cases hbe:b=e
  ·have q':H b=some (.own x):=by
    rcases he with z | z
    ·exact absurd (hbe.trans z) hb
    ·rw [hbe]; exact z
   rw [q] at q'; cases q'
   obtain ⟨v,hv⟩:=heo
   exact⟨v,by rw [hbe]; exact hv⟩
  ·refine (ok b u q).stay (fun c v hc r=>k c v ?_ r) (fun c r=>by rw [aT (nown c b r)]; exact r) fun c xs r=>by rw [aT (ntup c xs r)]; exact r
   rcases hc with rfl | hc
   ·exact hbe
   ·rintro rfl
    rcases he with z | z
    ·exact nown c b hc z
    ·rw [hc] at z; cases z; exact hb rfl
end
structure Un (fs ex:List Addr) (H H':Hp) (h h':Heap):Prop where
 keep:∀ b o,h.get? b=some o->H b=none->b ∉ fs->b ∉ ex->h'.get? b=some o
 slot:∀ b o,h.get? b=some o->H b=none->b ∈ fs->b ∉ ex->∃ sl,h'.get? b=some { o with slots:=sl }
 free:∀ b o,h.get? b=some o->H b=none->b ∉ ex->H' b=none
 there:∀ b o,h.get? b=some o->b ∉ ex->∃ o',h'.get? b=some o'
 tups:∀ b xs,H b=some (.tup xs)->H' b=some (.tup xs)
 frzs:∀ b o u,H b=some (.frz o u)->H' b=some (.frz o u)
 tbls:∀ b ps,H b=some (.tbl ps)->∃ more,H' b=some (.tbl (ps ++ more))
section
variable {fs fs' ex ex' : List Addr} {H H1 H2 : Hp} {h h1 h2 h' : Heap} {a x e : Addr} {o : HO}
theorem Un.any (u:Un fs ex H H1 h h1) {b:Addr}{ob:Obj} (q:h.get? b=some ob) (n:H b=none) (hx:b ∉ ex):∃ sl,h1.get? b=some { ob with slots:=sl }:=by
 by_cases hb:b ∈ fs
 ·exact u.slot b ob q n hb hx
 ·exact⟨ob.slots,u.keep b ob q n hb hx⟩
theorem Un.kept (k:∀ b u,h.get? b=some u->h'.get? b=some u):Un fs ex H H h h':=
 ⟨fun b ob q _ _ _=>k b ob q,fun b ob q _ _ _=>⟨ob.slots,k b ob q⟩,fun _ _ _ n _=>n,fun b ob q _=>⟨ob,k b ob q⟩,fun _ _ q=>q,fun _ _ _ q=>q,fun _ ps q=>⟨#[],by rw [q]; simp⟩⟩
theorem Un.refl:Un fs ex H H h h:=Un.kept fun _ _ q=>q
theorem Un.laid (k:∀ b u,h.get? b=some u->h'.get? b=some u) (hp:h.objs.size<=a) (hn:H a=none):Un fs ex H (upd H a o) h h' where
 keep:=fun b u q _ _ _=>k b u q
 slot:=fun b u q _ _ _=>⟨u.slots,k b u q⟩
 free:=fun b u q n _=>by rw [aT (av4 (as5 (as8 q) hp))]; exact n
 there:=fun b u q _=>⟨u,k b u q⟩
 tups:=fun b xs q=>by rw [aT (eL q hn)]; exact q
 frzs:=fun b u xs q=>by rw [aT (eL q hn)]; exact q
 tbls:=fun b ps q=>⟨#[],by rw [aT (eL q hn),q]; simp⟩
theorem Un.write (mu:l9 (H x)) (he:e=x ∨ H e=some (.own x)) (k:∀ b u,b ≠ e->h.get? b=some u->h'.get? b=some u) (heo:∃ u,h'.get? e=some u):Un fs ex H (upd H x o) h h':=by
 have hx:∀ b,H b=none->b ≠ x:=fun b n z=>by subst z; rw [n] at mu; exact mu
 have hb:∀ b,H b=none->b ≠ e:=fun b n z=>by
  subst z
  rcases he with r | r
  ·exact hx b n r
  ·rw [n] at r; cases r
 have hm:∀ b u,H b=some u->¬ l9 (some u)->b ≠ x:=fun b u q nm z=>by subst z; rw [q] at mu; exact nm mu
 refine⟨fun b u q n _ _=>k b u (hb b n) q,fun b u q n _ _=>⟨u.slots,k b u (hb b n) q⟩,fun b u q n _=>by rw [aT (hx b n)]; exact n,fun b u q _=>?_,
  fun b xs q=>by rw [aT (hm b _ q fun z=>z)]; exact q,fun b u xs q=>by rw [aT (hm b _ q fun z=>z)]; exact q,fun b ps q=>⟨#[],by rw [aT (hm b _ q fun z=>z),q]; simp⟩⟩
 by_cases hbe:b=e
 ·subst hbe; exact heo
 ·exact⟨u,k b u hbe q⟩
end
def lA (h:Heap) (H:Hp):List Addr:=(List.range h.objs.size).filter fun a=>(H a).isSome
def fN (h:Heap) (H:Hp):Heap:=PySem.W.hideAll h (lA h H)
theorem A1 (h:Heap) (H:Hp):(fN h H).objs.size=h.objs.size:=PySem.W.hideAll_size _ _
theorem A2 {h:Heap}{H:Hp}{b:Addr}{o:Obj} (e:h.get? b=some o) (n:H b=none):(fN h H).get? b=some o:=
 PySem.W.hideAll_get _ e fun hm=>by
  have q:(H b).isSome=true:=(aB3.mp hm).2
  rw [n] at q; simp at q
theorem A3 {h:Heap}{H:Hp}{b:Addr}{o:Obj} (e:(fN h H).get? b=some o):h.get? b=some o/\H b=none:=by
 have e':h.get? b=some o:=PySem.W.of_hideAll (lA h H) e
 refine⟨e',?_⟩
 cases q:H b with
 | none=>rfl
 | some x=>
  have hm:b ∈ lA h H:=aB3.mpr ⟨List.mem_range.mpr (as8 e'),by simp [q]⟩
  have z:(fN h H).get? b=none:=PySem.W.hideAll_none (lA h H) hm
  rw [z] at e; cases e
def A4 (g h:Heap) (L:Addr):List (Addr × Obj):=(List.range h.objs.size).filterMap fun a=>if a=L ∨ (g.get? a).isSome=true then none else (h.get? a).map fun o=>(a,o)
def bU (g h:Heap) (L d:Addr):List (Addr × Obj):=(A4 g h L).filter fun p=>decide (p.1 ≠ d)
structure Mod (K:PySem.W.Frag) (mg:Str->Option Value) (base:Heap):Prop where
 kin:K.In base
 glob:base.Ns mainGlobals mg
 blt:∃ mb,base.Ns builtinsNs mb/\∀ x:Str,x ≠ "__name__"->mb x=bootBuiltins x
 nolimit:base.NoLimit
structure Cx where
 prog:Program
 w:World
 K:PySem.W.Frag
 mg:Str->Option Value
 base:Heap
 A:Around
 N:List Str
 s₀:Shared
 H₀:Hp
 env:Env
 outer:List Env
 stack:List Env
 ex:List Addr
 fn:Str->Bool
 calm:Bool
 pn:List (Addr × Obj)
 xe:Value->Shared->Prop
def aZ (l:List Env):List Addr:=l.filterMap (·.frame)
abbrev Cx.fs (X:Cx):List Addr:=aZ X.outer
def gX (sc:Scope) (x:Str):Prop:=sc.names.lookup x=some .local ∨ sc.names.lookup x=some .cell ∨ sc.names.lookup x=some .free
def eM (sc:Scope) (x:Str):Prop:=sc.names.lookup x=some .local ∨ sc.names.lookup x=some .cell
def A5 (env:Env) (h:Heap) (m:Str->Option Value) (x:Str) (u:Value):Prop:=
 (env.kindOf x=some .local/\m x=some u) ∨ ((env.kindOf x=some .cell ∨ env.kindOf x=some .free)/\∃ c,env.cells.lookup x=some c/\h.IsCell c (some u))
structure Cx.Ok (X:Cx):Prop where
 mod:Mod X.K X.mg X.base
 kind:X.env.scope.kind = .function
 glob:X.env.globals=mainGlobals
 blt:X.env.builtins=builtinsNs
 above:X.s₀.heap.objs.size<=X.env.locals
 inj:∀ x y c,X.env.cells.lookup x=some c->X.env.cells.lookup y=some c->x=y
 has:∀ x,(X.env.kindOf x=some .cell ∨ X.env.kindOf x=some .free)->∃ c,X.env.cells.lookup x=some c
 cab:∀ x c,X.fn x=true->X.env.cells.lookup x=some c->X.s₀.heap.objs.size<=c
 hd:X.calm=true->X.A.handled=none
 frames:X.A.frames=some X.stack
 stk:X.stack=X.outer ∨ (X.stack=X.env :: X.outer/\X.env.frame=some X.env.locals)
 exf:∀ b ∈ X.ex,b ≠ X.env.locals/\∀ x c,X.env.cells.lookup x=some c->c ≠ b
 bs:∀ b o,X.base.get? b=some o->X.s₀.heap.get? b=some o/\X.H₀ b=none
 bsz:X.base.objs.size<=X.s₀.heap.objs.size
 noex:∀ b o,X.base.get? b=some o->b ∉ X.ex
 exfs:∀ b ∈ X.ex,b ∉ X.fs
 funs:X.s₀.heap.FunFrames X.base X.outer
 frf:∀ b ∈ X.fs,X.H₀ b=none
structure a5 (X:Cx) (pins:List (Addr × Obj)) (σ:List (Option V)) (H:Hp) (s:Shared):Prop where
 ok:X.Ok
 os:s.os=X.s₀.os
 bare:AllBare s.gens
 base:Un X.fs X.ex X.H₀ H X.s₀.heap s.heap
 loc:∃ m,s.heap.Ns X.env.locals m/\∀ (i:Nat) (x:Str) (v:V),X.N[i]? = some x->σ[i]? = some (some v)->gX X.env.scope x->∃ u,aS v u/\A5 X.env s.heap m x u
 cell:∀ x c,X.env.cells.lookup x=some c->∃ v,s.heap.IsCell c v
 free:H X.env.locals=none
 freeC:∀ x c,X.env.cells.lookup x=some c->H c=none
 pin:∀ p ∈ X.pn ++ pins,s.heap.get? p.1=some p.2/\H p.1=none/\p.1 ≠ X.env.locals/\p.1 ∉ X.fs/\∀ v,p.2.data ≠ .cell v
 hok:bG X.prog X.w H s.heap
 len:σ.length=X.N.length
section
variable {X : Cx} {pins : List (Addr × Obj)} {σ : List (Option V)} {H H' : Hp} {s : Shared} {h' : Heap}
theorem Cx.Ok.nofr (ok:X.Ok) {b:Addr}{o:Obj} (e:X.base.get? b=some o):b ∉ X.fs:=fun hb=>by
 have:=(ok.funs.mem hb).1
 rw [e] at this; cases this
theorem a5.bs (I:a5 X pins σ H s):∀ b o,X.base.get? b=some o->s.heap.get? b=some o/\H b=none:=fun b o e=>
 ⟨I.base.keep b o (I.ok.bs b o e).1 (I.ok.bs b o e).2 (I.ok.nofr e) (I.ok.noex b o e),I.base.free b o (I.ok.bs b o e).1 (I.ok.bs b o e).2 (I.ok.noex b o e)⟩
theorem a5.bk (I:a5 X pins σ H s):∀ b o,X.base.get? b=some o->s.heap.get? b=some o:=fun b o e=>(I.bs b o e).1
theorem a5.mod (I:a5 X pins σ H s):Mod X.K X.mg X.base:=I.ok.mod
theorem a5.kIn (I:a5 X pins σ H s):X.K.In s.heap:=I.ok.mod.kin.keeps I.bk
theorem a5.fr (I:a5 X pins σ H s):∃ m,Fr X.base X.env.locals s.heap m:=
 let ⟨m,hn,_⟩:=I.loc
 ⟨m,hn,I.bk,aw6 I.ok.bsz I.ok.above⟩
theorem a5.lt (I:a5 X pins σ H s):X.env.locals < s.heap.objs.size:=let ⟨_,hn,_⟩:=I.loc; hn.lt
theorem a5.sz (I:a5 X pins σ H s):X.s₀.heap.objs.size<=s.heap.objs.size:=aw6 I.ok.above (aA4 I.lt)
theorem a5.nofs (I:a5 X pins σ H s) {a:Addr} (h:s.heap.objs.size<=a):a ∉ X.fs:=fun hb=>by
 obtain ⟨_,o,ho,_⟩:=I.ok.funs.mem hb
 exact absurd (as5 (as8 ho) (aw6 I.sz h)) (ax6 _)
theorem a5.cne (I:a5 X pins σ H s):∀ x c,X.env.cells.lookup x=some c->c ≠ X.env.locals:=fun x c e z=>by
 obtain ⟨v,o,ho,hd⟩:=I.cell x c e
 obtain ⟨m,⟨o',es,ep,ho',hd',_⟩,_⟩:=I.loc
 rw [z,ho'] at ho; cases ho; rw [hd'] at hd; cases hd
theorem a5.funs (I:a5 X pins σ H s):s.heap.FunFrames X.base X.outer:=by
 have all:∀ (l:List Env),(∀ b ∈ aZ l,b ∈ X.fs)->X.s₀.heap.FunFrames X.base l->s.heap.FunFrames X.base l:=by
  intro l
  induction l with
  | nil=>intro _ _; trivial
  | cons env r ih=>
   intro hs hl
   obtain ⟨hk,⟨L,o,hf,hn,ho,hd⟩,hr⟩:=hl
   have hL:L ∈ X.fs:=hs L (by unfold aZ; rw [List.filterMap_cons,hf]; exact au6)
   obtain ⟨sl,e⟩:=I.base.slot L o ho (I.ok.frf L hL) hL fun z=>I.ok.exfs L z hL
   exact⟨hk,⟨L,_,hf,hn,e,hd⟩,ih (fun b hb=>hs b (by unfold aZ; rw [List.filterMap_cons,hf]; exact au4 _ hb)) hr⟩
 exact all X.outer (fun _ hb=>hb) I.ok.funs
theorem a5.stack (I:a5 X pins σ H s):s.heap.FunFrames X.base X.stack:=by
 rcases I.ok.stk with e | ⟨e,hf⟩
 ·rw [e]; exact I.funs
 ·rw [e]
  obtain ⟨m,hn,_⟩:=I.loc
  refine .cons (by rw [I.ok.kind]; decide) hf hn ?_ I.funs
  exact Heap.get?_none_of_le (aw6 I.ok.bsz I.ok.above)
theorem a5.stkSub (I:a5 X pins σ H s):∀ b ∈ aZ X.stack,b ∈ X.env.locals :: X.fs:=fun b hb=>by
 rcases I.ok.stk with e | ⟨e,hf⟩
 ·rw [e] at hb; exact au4 _ hb
 ·rw [e] at hb
  unfold aZ at hb
  rw [List.filterMap_cons,hf] at hb
  exact hb
theorem a5.stkFree (I:a5 X pins σ H s):∀ b ∈ aZ X.stack,H b=none:=fun b hb=>by
 rcases as4.mp (I.stkSub b hb) with e | hb
 ·rw [e]; exact I.free
 ·obtain ⟨_,o,ho,_⟩:=I.ok.funs.mem hb
  exact I.base.free b o ho (I.ok.frf b hb) fun z=>I.ok.exfs b z hb
theorem a5.step {g':Array GenState}{t':Nat}{d':Drawn}{ch:List Addr} (I:a5 X pins σ H s)
  (hch:∀ b ∈ ch,(b ∈ X.ex ∨ X.s₀.heap.objs.size<=b)/\b ≠ X.env.locals/\(∀ x c,X.env.cells.lookup x=some c->c ≠ b)/\∀ p ∈ X.pn ++ pins,p.1 ≠ b)
  (keep:∀ b o,b ≠ X.env.locals->b ∉ X.fs->b ∉ ch->s.heap.get? b=some o->H b=none->h'.get? b=some o)
  (slot:∀ b o,b ≠ X.env.locals->b ∈ X.fs->b ∉ ch->s.heap.get? b=some o->H b=none->∃ sl,h'.get? b=some { o with slots:=sl }) (free:∀ b o,b ∉ ch->s.heap.get? b=some o->H b=none->H' b=none)
  (there:∀ b o,b ∉ ch->s.heap.get? b=some o->∃ o',h'.get? b=some o')
  (tups:∀ b xs,H b=some (.tup xs)->H' b=some (.tup xs)) (frzs:∀ b o u,H b=some (.frz o u)->H' b=some (.frz o u)) (tbls:∀ b ps,H b=some (.tbl ps)->∃ more,H' b=some (.tbl (ps ++ more)))
  (ns:∀ m,s.heap.Ns X.env.locals m->h'.Ns X.env.locals m) (hok:bG X.prog X.w H' h') (hg:AllBare g') :
  a5 X pins σ H' { s with heap:=h',gens:=g',drawn:=d',toks:=t' }:=by
 have neL:∀ b o,X.s₀.heap.get? b=some o->b ≠ X.env.locals:=fun b o e=>av4 (as5 (as8 e) I.ok.above)
 have neC:∀ b o,X.s₀.heap.get? b=some o->b ∉ X.ex->b ∉ ch:=fun b o e hx hb=>by
  rcases (hch b hb).1 with z | z
  ·exact hx z
  ·exact absurd (as5 (as8 e) z) (ax6 _)
 have cellK:∀ x c,X.env.cells.lookup x=some c->∀ v,s.heap.IsCell c v->h'.IsCell c v:=fun x c e v ⟨o,ho,hd⟩=>by
  have nch:c ∉ ch:=fun z=>(hch c z).2.2.1 x c e rfl
  by_cases hc:c ∈ X.fs
  ·obtain ⟨sl,q⟩:=slot c o (I.cne x c e) hc nch ho (I.freeC x c e)
   exact⟨_,q,hd⟩
  ·exact⟨o,keep c o (I.cne x c e) hc nch ho (I.freeC x c e),hd⟩
 refine⟨I.ok,I.os,hg,⟨fun b o e n hb hx=>?_,fun b o e n hb hx=>?_,fun b o e n hx=>?_,fun b o e hx=>?_,fun b xs e=>tups b xs (I.base.tups b xs e),fun b o xs e=>frzs b o xs (I.base.frzs b o xs e),fun b ps e=>?_⟩,?_,fun x c e=>?_,?_,fun x c e=>?_,fun p hp=>?_,hok,I.len⟩
 ·exact keep b o (neL b o e) hb (neC b o e hx) (I.base.keep b o e n hb hx) (I.base.free b o e n hx)
 ·obtain ⟨sl,e1⟩:=I.base.slot b o e n hb hx
  obtain ⟨sl',e2⟩:=slot b _ (neL b o e) hb (neC b o e hx) e1 (I.base.free b o e n hx)
  exact⟨sl',e2⟩
 ·obtain ⟨o',e1⟩:=I.base.there b o e hx
  exact free b o' (neC b o e hx) e1 (I.base.free b o e n hx)
 ·obtain ⟨o',e1⟩:=I.base.there b o e hx
  exact there b o' (neC b o e hx) e1
 ·obtain ⟨m1,e1⟩:=I.base.tbls b ps e
  obtain ⟨m2,e2⟩:=tbls b _ e1
  exact⟨m1 ++ m2,by rw [e2,Array.append_assoc]⟩
 ·obtain ⟨m,hn,hl⟩:=I.loc
  refine⟨m,ns m hn,fun i x v e1 e2 e3=>?_⟩
  obtain ⟨u,r,l⟩:=hl i x v e1 e2 e3
  refine⟨u,r,?_⟩
  rcases l with l | ⟨k,c,e,z⟩
  ·exact .inl l
  ·exact .inr ⟨k,c,e,cellK x c e _ z⟩
 ·obtain ⟨v,z⟩:=I.cell x c e
  exact⟨v,cellK x c e v z⟩
 ·obtain ⟨m,⟨o,_,_,ho,_⟩,_⟩:=I.loc
  exact free _ o (fun z=>(hch _ z).2.1 rfl) ho I.free
 ·obtain ⟨v,o,ho,hd⟩:=I.cell x c e
  exact free c o (fun z=>(hch c z).2.2.1 x c e rfl) ho (I.freeC x c e)
 ·obtain ⟨e,n,ne,nf,d⟩:=I.pin p hp
  have nch:p.1 ∉ ch:=fun z=>(hch p.1 z).2.2.2 p hp rfl
  exact⟨keep p.1 p.2 ne nf nch e n,free p.1 p.2 nch e n,ne,nf,d⟩
theorem a5.un {t':Nat} (I:a5 X pins σ H s) (u:Un X.fs [] H H' s.heap h') (hok:bG X.prog X.w H' h'):a5 X pins σ H' { s with heap:=h',toks:=t' }:=by
 obtain ⟨m,⟨o,es,ep,ho,r⟩,_⟩:=id I.loc
 obtain ⟨sl,hL⟩:=u.any ho I.free (by simp)
 exact I.step (g':=s.gens) (d':=s.drawn) (ch:=[]) (fun _ z=>nomatch z) (fun b o _ hb _ e n=>u.keep b o e n hb (by simp)) (fun b o _ hb _ e n=>u.slot b o e n hb (by simp)) (fun b o _ e n=>u.free b o e n (by simp)) (fun b o _ e=>u.there b o e (by simp)) u.tups u.frzs u.tbls (fun m' hm=>by
  obtain ⟨o',es',ep',ho',r'⟩:=hm
  rw [ho] at ho'; cases ho'
  exact⟨_,es',ep',hL,r'⟩) hok I.bare
theorem a5.call {g':Array GenState}{t':Nat}{d':Drawn}{ch:List Addr} (I:a5 X pins σ H s) (u:Un (aZ X.stack) ch H H' s.heap h') (hok:bG X.prog X.w H' h') (hg:AllBare g')
  (hch:∀ b ∈ ch,(b ∈ X.ex ∨ X.s₀.heap.objs.size<=b)/\b ≠ X.env.locals/\(∀ x c,X.env.cells.lookup x=some c->c ≠ b)/\∀ p ∈ X.pn ++ pins,p.1 ≠ b) :
  a5 X pins σ H' { s with heap:=h',gens:=g',drawn:=d',toks:=t' }:=by
 obtain ⟨m,⟨o,es,ep,ho,r⟩,_⟩:=id I.loc
 obtain ⟨sl,hL⟩:=u.any ho I.free fun z=>(hch _ z).2.1 rfl
 exact I.step (ch:=ch) hch (fun b o hL hb hc e n=>u.keep b o e n (fun z=>(as4.mp (I.stkSub b z)).elim hL hb) hc) (fun b o _ _ hc e n=>u.any e n hc) (fun b o hc e n=>u.free b o e n hc) (fun b o hc e=>u.there b o e hc) u.tups u.frzs u.tbls (fun m' hm=>by
  obtain ⟨o',es',ep',ho',r'⟩:=hm
  rw [ho] at ho'; cases ho'
  exact⟨_,es',ep',hL,r'⟩) hok hg
theorem a5.turned {t':Nat}{it:Addr} (I:a5 X pins σ H s) (k:∀ b o,b ≠ it->s.heap.get? b=some o->h'.get? b=some o) (hn:H it=none) (hL:it ≠ X.env.locals)
  (h1:it ∈ X.ex ∨ X.s₀.heap.objs.size<=it) (h2:∀ x c,X.env.cells.lookup x=some c->c ≠ it) (h3:∀ p ∈ X.pn ++ pins,p.1 ≠ it):a5 X pins σ H { s with heap:=h',toks:=t' }:=by
 have nit:∀ b u,H b=some u->b ≠ it:=fun b u e z=>by rw [z,hn] at e; cases e
 refine I.step (g':=s.gens) (d':=s.drawn) (ch:=[it]) (fun b hb=>?_) (fun b o _ _ hc e _=>k b o (fun z=>hc (by simp [z])) e) (fun b o _ _ hc e _=>⟨o.slots,k b o (fun z=>hc (by simp [z])) e⟩) (fun _ _ _ _ n=>n)
  (fun b o hc e=>⟨o,k b o (fun z=>hc (by simp [z])) e⟩) (fun _ _ e=>e) (fun _ _ _ e=>e) (fun b ps e=>⟨#[],by rw [e]; simp⟩) (fun m hm=>?_) (fun b u e=>?_) I.bare
 ·have e:b=it:=by simpa using hb
  subst e
  exact⟨h1,hL,h2,h3⟩
 ·obtain ⟨o,es,ep,ho,r⟩:=hm
  exact⟨o,es,ep,k _ o (Ne.symm hL) ho,r⟩
 ·refine (I.hok b u e).stay (fun c v hc q=>k c v ?_ q) (fun _ q=>q) fun _ _ q=>q
  rcases hc with z | z
  ·rw [z]; exact nit b u e
  ·exact nit c _ z
theorem a5.tok (I:a5 X pins σ H s) (t:Nat):a5 X pins σ H { s with toks:=t }:=I.un (h':=s.heap) (t':=t) Un.refl I.hok
theorem a5.kept {t':Nat} (I:a5 X pins σ H s) (k:∀ b u,s.heap.get? b=some u->h'.get? b=some u):a5 X pins σ H { s with heap:=h',toks:=t' }:=I.un (Un.kept k) (I.hok.kept k)
theorem a5.laid {a:Addr}{o:HO}{t':Nat} (I:a5 X pins σ H s) (k:∀ b u,s.heap.get? b=some u->h'.get? b=some u) (hp:s.heap.objs.size<=a) (new:bY X.prog X.w (upd H a o) h' a o) :
  a5 X pins σ (upd H a o) { s with heap:=h',toks:=t' }:=I.un (Un.laid k hp (I.hok.fresh hp)) (I.hok.laid k hp new)
theorem a5.write {x e:Addr}{o:HO}{t':Nat} (I:a5 X pins σ H s) (mu:l9 (H x)) (he:e=x ∨ H e=some (.own x)) (k:∀ b u,b ≠ e->s.heap.get? b=some u->h'.get? b=some u) (heo:∃ u,h'.get? e=some u)
  (new:bY X.prog X.w (upd H x o) h' x o):a5 X pins σ (upd H x o) { s with heap:=h',toks:=t' }:=I.un (Un.write mu he k heo) (I.hok.write mu he k heo new)
theorem a5.weak {σ':List (Option V)} (I:a5 X pins σ H s) (hl:σ'.length=σ.length) (w:∀ (i:Nat) v,σ'[i]? = some (some v)->σ[i]? = some (some v)):a5 X pins σ' H s:=
 ⟨I.ok,I.os,I.bare,I.base,let ⟨m,hn,hl'⟩:=I.loc; ⟨m,hn,fun i x v e1 e2 e3=>hl' i x v e1 (w i v e2) e3⟩,I.cell,I.free,I.freeC,I.pin,I.hok,hl.trans I.len⟩
theorem a5.pins_of {pins':List (Addr × Obj)} (I:a5 X pins σ H s) (h:∀ p ∈ pins',s.heap.get? p.1=some p.2/\H p.1=none/\p.1 ≠ X.env.locals/\p.1 ∉ X.fs/\∀ v,p.2.data ≠ .cell v):a5 X pins' σ H s:=
 ⟨I.ok,I.os,I.bare,I.base,I.loc,I.cell,I.free,I.freeC,fun p hp=>(ay0.mp hp).elim (fun z=>I.pin p (aD1 _ z)) (h p),I.hok,I.len⟩
theorem nZ {N:List Str} (hN:N.Nodup) {i j:Nat}{x:Str} (a:N[i]? = some x) (b:N[j]? = some x):i=j:=by
 obtain ⟨h1,e1⟩:=au3.mp a
 obtain ⟨h2,e2⟩:=au3.mp b
 exact (List.getElem_inj hN).mp (e1.trans e2.symm)
theorem sA {M:Model}{A:Around}{E:Value->Shared->Prop}{i:Nat}{x:Str}{v:V}{u:Value}{Q:Unit->Shared->Prop} (I:a5 X pins σ H s) (hN:X.N.Nodup) (hi:X.N[i]? = some x) (hx:eM X.env.scope x) (r:aS v u)
  (h:∀ s',a5 X pins (σ.set i (some v)) H s'->(∃ a,Heap.SameBut a s.heap s'.heap/\(a=X.env.locals ∨ X.env.cells.lookup x=some a))->Q () s') (hf:X.fn x=true ∨ X.env.scope.names.lookup x=some .local:=by first | exact .inl rfl | exact .inr rfl | assumption):wpAny M A (storeName X.env x u) Q E s:=by
 obtain ⟨m,hn,hl⟩:=id I.loc
 have hcls:(X.env.scope.kind == .class || (X.env.scope.kind == .module && X.env.locals != X.env.globals))=false:=by rw [I.ok.kind]; rfl
 have hiσ:i < σ.length:=by rw [I.len]; exact (au3.mp hi).1
 have cne:=I.cne
 have tracked:∀ {a:Addr}{h':Heap},(∃ o,s.heap.get? a=some o/\H a=none)->Heap.SameBut a s.heap h'->bG X.prog X.w H h':=fun {a h'} ha hs b ob e=>by
  obtain ⟨_,_,hfree⟩:=ha
  refine (I.hok b ob e).stay (fun c w' hc q=>(hs.2 c ?_).trans q) (fun _ q=>q) fun _ _ q=>q
  rintro rfl
  rcases hc with rfl | hc
  ·rw [hfree] at e; cases e
  ·rw [hfree] at hc; cases hc
 rcases hx with hk | hk
 ·refine wpAny_storeName_local hk hn (fun h' hn' hs=>?_) hcls
  obtain ⟨oL,_,_,hoL,_⟩:=id hn
  refine h _ ⟨I.ok,I.os,I.bare,⟨fun b o e n hb hx=>?_,fun b o e n hb hx=>?_,I.base.free,fun b o e hx=>?_,I.base.tups,I.base.frzs,I.base.tbls⟩,⟨_,hn',fun j y v' e1 e2 e3=>?_⟩,fun y c e=>?_,I.free,I.freeC,fun p hp=>?_,tracked ⟨oL,hoL,I.free⟩ hs,by simpa using I.len⟩ ⟨_,hs,.inl rfl⟩
  ·exact (hs.2 b (av4 (as5 (as8 e) I.ok.above))).trans (I.base.keep b o e n hb hx)
  ·obtain ⟨sl,e1⟩:=I.base.slot b o e n hb hx
   exact⟨sl,(hs.2 b (av4 (as5 (as8 e) I.ok.above))).trans e1⟩
  ·obtain ⟨o',e1⟩:=I.base.there b o e hx
   exact⟨o',(hs.2 b (av4 (as5 (as8 e) I.ok.above))).trans e1⟩
  ·by_cases hj:j=i
   ·subst hj
    rw [hi] at e1; cases e1
    rw [ax8 hiσ] at e2
    cases e2
    exact⟨u,r,.inl ⟨hk,by simp⟩⟩
   ·rw [au1 (Ne.symm hj)] at e2
    obtain ⟨u',r',q⟩:=hl j y v' e1 e2 e3
    refine⟨u',r',?_⟩
    rcases q with ⟨k,e⟩ | ⟨k,c,e,z⟩
    ·refine .inl ⟨k,?_⟩
     have:y ≠ x:=fun e=>hj (nZ hN e1 (e ▸ hi))
     simp [this,e]
    ·exact .inr ⟨k,c,e,z.sameBut hs (cne y c e)⟩
  ·obtain ⟨w',z⟩:=I.cell y c e
   exact⟨w',z.sameBut hs (cne y c e)⟩
  ·obtain ⟨e,n,ne,nf,d⟩:=I.pin p hp
   exact⟨(hs.2 p.1 ne).trans e,n,ne,nf,d⟩
 ·have hfn:X.fn x=true:=by
   rcases hf with z | z
   ·exact z
   ·rw [z] at hk; cases hk
  obtain ⟨c,hc⟩:=I.ok.has x (.inl hk)
  obtain ⟨w',z⟩:=I.cell x c hc
  refine wpAny_storeName_cell I.ok.kind hk hc z (fun h' hc' hs=>?_)
  obtain ⟨oc,hoc,hocd⟩:=id z
  refine h { s with heap:=h' } ⟨I.ok,I.os,I.bare,⟨fun b o e n hb hx=>?_,fun b o e n hb hx=>?_,I.base.free,fun b o e hx=>?_,I.base.tups,I.base.frzs,I.base.tbls⟩,⟨m,hn.sameBut hs (Ne.symm (cne x c hc)),fun j y v' e1 e2 e3=>?_⟩,fun y c' e=>?_,I.free,I.freeC,fun p hp=>?_,tracked ⟨oc,hoc,I.freeC x c hc⟩ hs,by simpa using I.len⟩ ⟨c,hs,.inr hc⟩
  ·exact (hs.2 b (av4 (as5 (as8 e) (I.ok.cab x c hfn hc)))).trans (I.base.keep b o e n hb hx)
  ·obtain ⟨sl,e1⟩:=I.base.slot b o e n hb hx
   exact⟨sl,(hs.2 b (av4 (as5 (as8 e) (I.ok.cab x c hfn hc)))).trans e1⟩
  ·obtain ⟨o',e1⟩:=I.base.there b o e hx
   exact⟨o',(hs.2 b (av4 (as5 (as8 e) (I.ok.cab x c hfn hc)))).trans e1⟩
  ·by_cases hj:j=i
   ·subst hj
    rw [hi] at e1; cases e1
    rw [ax8 hiσ] at e2
    cases e2
    exact⟨u,r,.inr ⟨.inl hk,c,hc,hc'⟩⟩
   ·rw [au1 (Ne.symm hj)] at e2
    obtain ⟨u',r',q⟩:=hl j y v' e1 e2 e3
    refine⟨u',r',?_⟩
    rcases q with q | ⟨k,c',e,z'⟩
    ·exact .inl q
    ·refine .inr ⟨k,c',e,z'.sameBut hs ?_⟩
     rintro rfl
     exact hj (nZ hN e1 (I.ok.inj _ _ _ e hc ▸ hi))
  ·by_cases hcc:c'=c
   ·subst hcc; exact⟨_,hc'⟩
   ·obtain ⟨w2,z2⟩:=I.cell y c' e
    exact⟨w2,z2.sameBut hs hcc⟩
  ·obtain ⟨e,n,ne,nf,d⟩:=I.pin p hp
   refine⟨(hs.2 p.1 ?_).trans e,n,ne,nf,d⟩
   intro q
   rw [q,hoc] at e
   have q':oc=p.2:=av0 e
   exact d w' (by rw [<- q']; exact hocd)
theorem jH {M:Model}{A:Around}{E:Value->Shared->Prop}{i:Nat}{x:Str}{v:V}{u:Value}{Q:Unit->Shared->Prop} (I:a5 X pins σ H s) (hN:X.N.Nodup) (hi:X.N[i]? = some x) (hx:eM X.env.scope x) (r:aS v u)
  (h:∀ s',a5 X pins (σ.set i (some v)) H s'->Q () s') (hf:X.fn x=true ∨ X.env.scope.names.lookup x=some .local:=by first | exact .inl rfl | exact .inr rfl | assumption):wpAny M A (storeName X.env x u) Q E s:=
 sA I hN hi hx r (fun s' I' _=>h s' I') hf
theorem a5.call' {s':Shared}{ch:List Addr} (I:a5 X pins σ H s) (ho:s'.os=s.os) (u:Un (aZ X.stack) ch H H' s.heap s'.heap) (hok:bG X.prog X.w H' s'.heap) (hg:AllBare s'.gens)
  (hch:∀ b ∈ ch,(b ∈ X.ex ∨ X.s₀.heap.objs.size<=b)/\b ≠ X.env.locals/\(∀ x c,X.env.cells.lookup x=some c->c ≠ b)/\∀ p ∈ X.pn ++ pins,p.1 ≠ b):a5 X pins σ H' s':=by
 obtain ⟨h',g',d',t',o'⟩:=s'
 have e:o'=s.os:=ho
 subst e
 exact I.call (g':=g') (t':=t') (d':=d') u hok hg hch
end
abbrev XK:=Value->Option Addr->Hp->Prop
abbrev St:=List (Option V)
abbrev VK:=V->Hp->Prop
abbrev TE:=St->Hp->VK->Prop
abbrev TT:=St->Hp->(Bool->Hp->Prop)->Prop
abbrev TA:=St->Hp->(List V->Hp->Prop)->Prop
structure cL where
 nx:St->Hp->Prop
 rt:VK
 bk:St->Hp->Prop:=fun _ _=>False
 ct:St->Hp->Prop:=fun _ _=>False
abbrev TS:=cL->St->Hp->Prop
def EP (X:Cx) (pins:List (Addr × Obj)) (σ:St) (Q:VK) (u:Value) (s':Shared):Prop:=∃ v H',a5 X pins σ H' s'/\aS v u/\Q v H'
def TP (X:Cx) (pins:List (Addr × Obj)) (σ:St) (Q:Bool->Hp->Prop) (b:Bool) (s':Shared):Prop:=∃ H',a5 X pins σ H' s'/\Q b H'
def AP (X:Cx) (pins:List (Addr × Obj)) (σ:St) (Q:List V->Hp->Prop) (us:List Value) (s':Shared):Prop:=∃ vs H',a5 X pins σ H' s'/\aF vs us/\Q vs H'
def SP (X:Cx) (pins:List (Addr × Obj)) (D:cL) (f:Flow) (s':Shared):Prop:=
 match f with
 | .next=>∃ σ' H',a5 X pins σ' H' s'/\D.nx σ' H'
 | .brk=>∃ σ' H',a5 X pins σ' H' s'/\D.bk σ' H'
 | .cont=>∃ σ' H',a5 X pins σ' H' s'/\D.ct σ' H'
 | .ret u=>∃ v σ' H',a5 X pins σ' H' s'/\aS v u/\D.rt v H'
def PE (X:Cx) (e:Expr) (t:TE):Prop:=
 ∀ (pins:List (Addr × Obj)) (s:Shared) (σ:St) (H:Hp) (Q:VK),a5 X pins σ H s->t σ H Q->wpAny (model X.prog X.w) X.A (eval e X.env) (EP X pins σ Q) X.xe s
def PT (X:Cx) (e:Expr) (t:TT):Prop:=
 ∀ (pins:List (Addr × Obj)) (s:Shared) (σ:St) (H:Hp) (Q:Bool->Hp->Prop),a5 X pins σ H s->t σ H Q->wpAny (model X.prog X.w) X.A (isTrue e X.env (eval e X.env)) (TP X pins σ Q) X.xe s
def PW (X:Cx) (e:Expr) (t:TT):Prop:=
 ∀ (whole:Sem Value) (pins:List (Addr × Obj)) (s:Shared) (σ:St) (H:Hp) (Q:Bool->Hp->Prop),a5 X pins σ H s->t σ H Q->wpAny (model X.prog X.w) X.A (isTrue e X.env whole) (TP X pins σ Q) X.xe s
theorem PW.pt {X:Cx}{e:Expr}{t:TT} (h:PW X e t):PT X e t:=h _
def PA (X:Cx) (es:List Expr) (t:TA):Prop:=
 ∀ (pos:Pos) (pins:List (Addr × Obj)) (s:Shared) (σ:St) (H:Hp) (Q:List V->Hp->Prop),a5 X pins σ H s->t σ H Q->wpAny (model X.prog X.w) X.A (spliced (backTo pos (starEach es X.env))) (AP X pins σ Q) X.xe s
def PS (X:Cx) (st:Stmt) (t:TS):Prop:=
 ∀ (pins:List (Addr × Obj)) (s:Shared) (σ:St) (H:Hp) (D:cL),a5 X pins σ H s->t D σ H->wpAny (model X.prog X.w) X.A (exec st X.env) (SP X pins D) X.xe s
def cM (X:Cx) (st:List Stmt) (t:TS):Prop:=
 ∀ (pins:List (Addr × Obj)) (s:Shared) (σ:St) (H:Hp) (D:cL),a5 X pins σ H s->t D σ H->wpAny (model X.prog X.w) X.A (execs st X.env) (SP X pins D) X.xe s
theorem aK {α:Type}{t:Sem α}{Q Q':α->Shared->Prop}{M:Model}{A:Around}{E:Value->Shared->Prop}{s:Shared} (h:wpAny M A t Q E s) (hQ:∀ a s,Q a s->Q' a s):wpAny M A t Q' E s:=ay1 h hQ fun _ _ x=>x
section
variable {X : Cx}
theorem bin {a b:Expr}{ta tb:TE} (ha:PE X a ta) (hb:PE X b tb) {pins:List (Addr × Obj)}{s:Shared}{σ:St}{H:Hp}{R:V->V->Hp->Prop} (I:a5 X pins σ H s) (h:ta σ H fun x H1=>tb σ H1 fun y H2=>R x y H2)
  {α:Type}{Q:α->Shared->Prop}{f:Value->Value->Sem α}
  (hf:∀ v u s2 x y H2,a5 X pins σ H2 s2->aS x v->aS y u->R x y H2->wpAny (model X.prog X.w) X.A (f v u) Q X.xe s2) :
  wpAny (model X.prog X.w) X.A (eval a X.env) (fun v s₁=>wpAny (model X.prog X.w) X.A (eval b X.env) (fun u s₂=>wpAny (model X.prog X.w) X.A (f v u) Q X.xe s₂) X.xe s₁) X.xe s:=by
 refine aK (ha pins s σ H _ I h) fun v s1 ⟨x,H1,I1,r1,q1⟩=>?_
 refine aK (hb pins s1 σ H1 _ I1 q1) fun u s2 ⟨y,H2,I2,r2,q2⟩=>?_
 exact hf v u s2 x y H2 I2 r1 r2 q2
def jI (i:Nat):TE:=fun σ H Q=>∃ v,σ[i]? = some (some v)/\Q v H
def tC (v:V):TE:=fun _ H Q=>Q v H
theorem lB {i:Nat}{x:Str}{pos:Pos} (hN:X.N[i]? = some x) (hv:gX X.env.scope x) (hd:(x == ("__debug__" : Str))=false:=by decide) (hcd:(x == ("__classdict__" : Str))=false:=by decide):PE X (.Name x pos) (jI i):=by
 intro pins s σ H Q I h
 obtain ⟨v,e,h⟩:=h
 obtain ⟨m,hn,hl⟩:=I.loc
 obtain ⟨u,r,l⟩:=hl i x v hN e hv
 have fin:EP X pins σ Q u s:=⟨v,H,I,r,h⟩
 rcases l with ⟨hk,hm⟩ | ⟨hk,c,hc,hcell⟩
 ·exact wpAny_Name (wpAny_loadName_local I.ok.kind hk hn hm fin) hd
 ·rcases hk with hk | hk
  ·exact wpAny_Name (wpAny_loadName_cell I.ok.kind hk hc hcell fin) hd
  ·exact wpAny_Name (wpAny_loadName_free I.ok.kind hk hc hcell fin hcd) hd
theorem A6 {i j pos}:PE X (.Constant (.int i) j pos) (tC (.int i)):=fun _ _ _ H _ I h=>wpAny_Constant_int ⟨.int i,H,I.tok _,⟨_,rfl⟩,h⟩
theorem A7 {b j pos}:PE X (.Constant (.bool b) j pos) (tC (.bl b)):=fun _ _ _ H _ I h=>Constant_bool ⟨.bl b,H,I,rfl,h⟩
theorem A8 {j pos}:PE X (.Constant .none j pos) (tC .non):=fun _ _ _ H _ I h=>Constant_none ⟨.non,H,I,rfl,h⟩
theorem A9 {x j pos}:PE X (.Constant (.str x) j pos) (tC (.str x)):=fun _ _ _ H _ I h=>Calls.Constant_str ⟨.str x,H,I.tok _,⟨_,rfl⟩,h⟩
def Gl (X:Cx) (x:Str):Prop:=X.env.kindOf x=some .globalImplicit
theorem jJ {E:Value->Shared->Prop}{pins:List (Addr × Obj)}{s:Shared}{σ:St}{H:Hp}{x:Str}{u:Value}{pos:Pos}{Q:Value->Shared->Prop} (I:a5 X pins σ H s) (hg:Gl X x) (hm:X.mg x=some u) (h:Q u s)
  (hd:(x == ("__debug__" : Str))=false:=by decide):wpAny (model X.prog X.w) X.A (eval (.Name x pos) X.env) Q E s:=
 Calls.Name_function_global I.ok.kind hg (Calls.loadGlobal_global (by rw [I.ok.glob]; exact I.mod.glob.keeps I.bk) hm h) hd
theorem iI {E:Value->Shared->Prop}{pins:List (Addr × Obj)}{s:Shared}{σ:St}{H:Hp}{x:Str}{u:Value}{pos:Pos}{Q:Value->Shared->Prop} (I:a5 X pins σ H s) (hg:Gl X x) (hm:X.mg x=none) (hv:bootBuiltins x=some u) (h:Q u s)
  (hn:x ≠ "__name__":=by decide) (hd:(x == ("__debug__" : Str))=false:=by decide):wpAny (model X.prog X.w) X.A (eval (.Name x pos) X.env) Q E s:=by
 obtain ⟨mb,h1,h2⟩:=I.mod.blt
 exact Calls.Name_function_global I.ok.kind hg (Calls.loadGlobal_builtin (by rw [I.ok.glob]; exact I.mod.glob.keeps I.bk) hm (by rw [I.ok.blt]; exact h1.keeps I.bk) ((h2 x hn).trans hv) h) hd
theorem sB {x:Str}{v:V}{u:Value}{pos:Pos} (hg:Gl X x) (hm:X.mg x=some u) (r:aS v u) (hd:(x == ("__debug__" : Str))=false:=by decide):PE X (.Name x pos) (tC v):=
 fun _ _ _ H _ I h=>jJ I hg hm ⟨v,H,I,r,h⟩ hd
theorem sC {x:Str}{v:V}{u:Value}{pos:Pos} (hg:Gl X x) (hm:X.mg x=none) (hv:bootBuiltins x=some u) (r:aS v u) (hn:x ≠ "__name__":=by decide) (hd:(x == ("__debug__" : Str))=false:=by decide):PE X (.Name x pos) (tC v):=
 fun _ _ _ H _ I h=>iI I hg hm hv ⟨v,H,I,r,h⟩ hn hd
variable {a b : Expr} {ta tb : TE} {pos : Pos}
def PC (X:Cx) (op:CmpOp) (a b:Expr) (t:TE):Prop:=
 ∀ (pins:List (Addr × Obj)) (s:Shared) (σ:St) (H:Hp) (Q:VK),a5 X pins σ H s->t σ H Q->
  wpAny (model X.prog X.w) X.A (eval a X.env) (fun v s₁=>wpAny (model X.prog X.w) X.A (eval b X.env) (fun u s₂=>wpAny (model X.prog X.w) X.A (compareOp op v u) (EP X pins σ Q) X.xe s₂) X.xe s₁) X.xe s
def tB (t:TE):TT:=fun σ H Q=>t σ H fun x H1=>∃ c,x = .bl c/\Q c H1
theorem ar2 {op:CmpOp}{t:TE} (h:PC X op a b t) (h1:behindInMarks op b=false:=by first | exact nobehind _ (by decide) (by decide) | rfl):PT X (.Compare a [op] [b] pos) (tB t):=by
 intro pins s σ H Q I hw
 refine wpAny_isTrue_Compare1 (aK (h pins s σ H _ I hw) fun v s1 h1=>aK h1 fun u s2 h2=>aK h2 fun c s3 ⟨x,H1,I1,r1,q1⟩=>?_) h1
 obtain ⟨d,rfl,q⟩:=q1
 cases r1
 exact aA9 ⟨H1,I1,q⟩
theorem B0 {e:Expr}{t:TE} (h:PE X e t) (he:∀ whole,isTrue e X.env whole=(do let v <- whole; standAt e.pos; holding [v] (truthy v)):=by intro _; rfl):PT X e (tB t):=by
 intro pins s σ H Q I hw
 refine isTrue_plain (aK (h pins s σ H _ I hw) fun v s1 ⟨x,H1,I1,r1,q1⟩=>?_) (he _)
 obtain ⟨d,rfl,q⟩:=q1
 cases r1
 exact aA9 ⟨H1,I1,q⟩
variable {tA tB' : TT} {bU : List Expr}
def sD (t u:TT):TT:=fun σ H Q=>t σ H fun c H1=>if c=true then Q true H1 else u σ H1 Q
def sE (t:TT):TT:=fun σ H Q=>t σ H fun c H1=>Q (!c) H1
theorem B1 (ha:PT X a tA):PW X (.BoolOp .Or [a] pos) tA:=by
 intro wh pins s σ H Q I h
 refine isTrue_or (aK (ha pins s σ H Q I h) fun c s1 e=>?_)
 cases c with
 | false=>exact isTrue_or_nil e
 | true=>exact e
theorem B2 (ha:PT X a tA) (hb:PW X (.BoolOp .Or (b :: bU) pos) tB'):PW X (.BoolOp .Or (a :: b :: bU) pos) (sD tA tB'):=by
 intro wh pins s σ H Q I h
 refine isTrue_or (aK (ha pins s σ H _ I h) fun c s1 ⟨H1,I1,q1⟩=>?_)
 cases c with
 | true=>exact⟨H1,I1,q1⟩
 | false=>exact hb wh pins s1 σ H1 Q I1 q1
theorem B3 (ha:PT X a tA):PT X (.UnaryOp .Not a pos) (sE tA):=by
 intro pins s σ H Q I h
 exact isTrue_not (ha pins s σ H (fun c H1=>Q (!c) H1) I h)
def sF (ta tb:TE):TE:=fun σ H Q=>ta σ H fun x H1=>∃ c,x = .bl c/\if c=true then tb σ H1 Q else Q (.bl false) H1
def sG (ta tb:TE):TE:=fun σ H Q=>ta σ H fun x H1=>∃ c,x = .bl c/\if c=true then Q (.bl true) H1 else tb σ H1 Q
def sH (ta:TE):TE:=fun σ H Q=>ta σ H fun x H1=>∃ c,x = .bl c/\Q (.bl (!c)) H1
theorem B4 {op}{t:TE} (h:PE X a t):PE X (.BoolOp op [a] pos) t:=fun pins s σ H Q I hw=>BoolOp_one (h pins s σ H Q I hw)
theorem B5 (ha:PE X a ta) (hb:PE X (.BoolOp .And (b :: bU) pos) tb):PE X (.BoolOp .And (a :: b :: bU) pos) (sF ta tb):=by
 intro pins s σ H Q I h
 refine BoolOp_and (aK (ha pins s σ H _ I h) fun v s1 ⟨x,H1,I1,r1,q1⟩=>?_)
 obtain ⟨c,rfl,q1⟩:=q1
 cases r1
 refine aA9 ?_
 cases c with
 | true=>exact hb pins s1 σ H1 Q I1 q1
 | false=>exact⟨.bl false,H1,I1,rfl,q1⟩
theorem B6 (ha:PE X a ta) (hb:PE X (.BoolOp .Or (b :: bU) pos) tb):PE X (.BoolOp .Or (a :: b :: bU) pos) (sG ta tb):=by
 intro pins s σ H Q I h
 refine BoolOp_or (aK (ha pins s σ H _ I h) fun v s1 ⟨x,H1,I1,r1,q1⟩=>?_)
 obtain ⟨c,rfl,q1⟩:=q1
 cases r1
 refine aA9 ?_
 cases c with
 | false=>exact hb pins s1 σ H1 Q I1 q1
 | true=>exact⟨.bl true,H1,I1,rfl,q1⟩
theorem B7 (ha:PE X a ta):PE X (.UnaryOp .Not a pos) (sH ta):=by
 intro pins s σ H Q I h
 refine UnaryOp_ (aK (ha pins s σ H _ I h) fun v s1 ⟨x,H1,I1,r1,q1⟩=>?_)
 obtain ⟨c,rfl,q1⟩:=q1
 cases r1
 exact not_of (aA9 ⟨.bl (!c),H1,I1,rfl,q1⟩)
end
def aJ (K:PySem.W.Frag) (H:Hp) (a:Addr) (xs:List V):Prop:=
 Rd H a (.lst xs) ∨
  ∃ (o:Obj) (its:Array Value) (n:Nat),K.lookup a=some o/\o.cls = .type "list"/\o.dict=none/\o.data = .seq its n/\its.size<=sizeLine/\aF xs its.toList
def aG (K:PySem.W.Frag) (H:Hp) (a:Addr) (xs:List V):Prop:=
 Rd H a (.tup xs) ∨
  ∃ (o:Obj) (its:Array Value) (n:Nat),K.lookup a=some o/\o.cls = .type "tuple"/\o.data = .seq its n/\its.size<=sizeLine/\aF xs its.toList
def B8:Value->Option V
 | .none=>some .non
 | .bool b=>some (.bl b)
 | .int i _=>some (.int i)
 | .str x _=>some (.str x)
 | .bytes b _=>some (.byt b)
 | .float b _=>some (.flt b)
 | .ref a=>some (.ref a)
 | .type n=>some (.ty n)
 | _=>none
theorem aS.abs {x:V}{u:Value} (r:aS x u):B8 u=some x:=by
 cases x with
 | non=>cases r; rfl
 | bl _=>cases r; rfl
 | int _=>obtain ⟨t,rfl⟩:=r; rfl
 | str _=>obtain ⟨t,rfl⟩:=r; rfl
 | byt _=>obtain ⟨t,rfl⟩:=r; rfl
 | flt _=>obtain ⟨t,rfl⟩:=r; rfl
 | ref _=>cases r; rfl
 | ty _=>cases r; rfl
theorem aS.inj {x y:V}{u:Value} (r:aS x u) (q:aS y u):x=y:=av0 (r.abs.symm.trans q.abs)
theorem aF.inj:∀ {xs ys:List V}{us:List Value},aF xs us->aF ys us->xs=ys
 | _,_,_,.nil,.nil=>rfl
 | _,_,_,.cons r t,.cons r' t'=>by rw [r.inj r',aF.inj t t']
section
variable {X : Cx} {pins : List (Addr × Obj)} {σ : St} {H : Hp} {s : Shared} {a : Addr} {xs ys : List V}
theorem aJ.of {K:PySem.W.Frag} (h:H a=some (.lst xs)):aJ K H a xs:=.inl (.inl h)
theorem aG.of {K:PySem.W.Frag} (h:H a=some (.tup xs)):aG K H a xs:=.inl (.inl h)
theorem a5.list (I:a5 X pins σ H s) (h:aJ X.K H a xs):∃ its:List Value,aF xs its/\PlainL s.heap a its.toArray/\xs.length<=sizeLine:=by
 rcases h with h | ⟨o,its,n,hk,hc,hd,hs,hz,r⟩
 ·obtain ⟨z,its,n,r,e⟩:=h.ok I.hok
  exact⟨its,r,⟨_,n,e,rfl,rfl,rfl⟩,z⟩
 ·refine⟨its.toList,r,⟨o,n,I.kIn a o hk,hc,hd,by simpa using hs⟩,?_⟩
  have e:=r.length
  simp only [ax0] at e
  omega
theorem a5.tuple (I:a5 X pins σ H s) (h:aG X.K H a xs):∃ its:List Value,aF xs its/\IsTup s.heap a its.toArray/\xs.length<=sizeLine:=by
 rcases h with h | ⟨o,its,n,hk,hc,hs,hz,r⟩
 ·obtain ⟨z,its,r,p,_⟩:=h.ok I.hok
  exact⟨its,r,p,z⟩
 ·refine⟨its.toList,r,⟨o,I.kIn a o hk,hc,n,by simpa using hs⟩,?_⟩
  have e:=r.length
  simp only [ax0] at e
  omega
theorem a5.list_inj (I:a5 X pins σ H s) (h:aJ X.K H a xs) (h':aJ X.K H a ys):xs=ys:=by
 obtain ⟨its,r,⟨o,n,e,_,_,d⟩,_⟩:=I.list h
 obtain ⟨its',r',⟨o',n',e',_,_,d'⟩,_⟩:=I.list h'
 rw [e] at e'; cases e'
 rw [d] at d'
 injection d' with d1 _
 have:its=its':=by simpa using congrArg Array.toList d1
 subst this
 exact r.inj r'
theorem a5.tuple_inj (I:a5 X pins σ H s) (h:aG X.K H a xs) (h':aG X.K H a ys):xs=ys:=by
 obtain ⟨its,r,⟨o,e,_,n,d⟩,_⟩:=I.tuple h
 obtain ⟨its',r',⟨o',e',_,n',d'⟩,_⟩:=I.tuple h'
 rw [e] at e'; cases e'
 rw [d] at d'
 injection d' with d1 _
 have:its=its':=by simpa using congrArg Array.toList d1
 subst this
 exact r.inj r'
end
abbrev Cx.wish (X:Cx) (E:Value->Shared->Prop):Cx:={ X with xe:=E }
abbrev Cx.nox (X:Cx):Cx:=X.wish fun _ _=>False
theorem Cx.Ok.wish {X:Cx} (ok:X.Ok) (E:Value->Shared->Prop):(X.wish E).Ok:=
 ⟨ok.mod,ok.kind,ok.glob,ok.blt,ok.above,ok.inj,ok.has,ok.cab,ok.hd,ok.frames,ok.stk,ok.exf,ok.bs,ok.bsz,ok.noex,ok.exfs,ok.funs,ok.frf⟩
theorem Cx.Ok.unwish {X:Cx}{E:Value->Shared->Prop} (ok:(X.wish E).Ok):X.Ok:=
 ⟨ok.mod,ok.kind,ok.glob,ok.blt,ok.above,ok.inj,ok.has,ok.cab,ok.hd,ok.frames,ok.stk,ok.exf,ok.bs,ok.bsz,ok.noex,ok.exfs,ok.funs,ok.frf⟩
section
variable {X : Cx} {pins : List (Addr × Obj)} {σ : St} {H : Hp} {s : Shared} {E : Value → Shared → Prop}
theorem a5.wish (I:a5 X pins σ H s) (E:Value->Shared->Prop):a5 (X.wish E) pins σ H s:=⟨I.ok.wish E,I.os,I.bare,I.base,I.loc,I.cell,I.free,I.freeC,I.pin,I.hok,I.len⟩
theorem a5.unwish (I:a5 (X.wish E) pins σ H s):a5 X pins σ H s:=⟨I.ok.unwish,I.os,I.bare,I.base,I.loc,I.cell,I.free,I.freeC,I.pin,I.hok,I.len⟩
theorem SP.unwish {D:cL}{f:Flow}{s':Shared} (h:SP (X.wish E) pins D f s'):SP X pins D f s':=by
 cases f with
 | next=>obtain ⟨σ',H',I,q⟩:=h; exact⟨σ',H',I.unwish,q⟩
 | brk=>obtain ⟨σ',H',I,q⟩:=h; exact⟨σ',H',I.unwish,q⟩
 | cont=>obtain ⟨σ',H',I,q⟩:=h; exact⟨σ',H',I.unwish,q⟩
 | ret u=>obtain ⟨v,σ',H',I,r,q⟩:=h; exact⟨v,σ',H',I.unwish,r,q⟩
theorem cM.nox {st:List Stmt}{t:TS} (h:cM X.nox st t):cM X st t:=fun pins s σ H D I hw=>
 ay1 (h pins s σ H D (I.wish _) hw) (fun _ _ q=>q.unwish) fun _ _ z=>False.elim z
end
section
variable {X : Cx} {st : Stmt} {bU : List Stmt} {t u : TS} {e : Expr} {te : TE} {pos : Pos}
def sI:TS:=fun D σ H=>D.nx σ H
def sJ (t u:TS):TS:=fun D σ H=>t { D with nx:=u D } σ H
theorem B9:cM X [] sI:=fun _ _ σ H _ I h=>wpAny_execs_nil ⟨σ,H,I,h⟩
theorem C0 (h1:PS X st t) (h2:cM X bU u):cM X (st :: bU) (sJ t u):=by
 intro pins s σ H D I h
 refine wpAny_execs_cons (aK (h1 pins s σ H { D with nx:=u D } I h) fun f s1 q=>?_)
 cases f with
 | next=>
  obtain ⟨σ',H',I',q⟩:=q
  exact h2 pins s1 σ' H' D I' q
 | ret v=>exact q
 | brk=>exact q
 | cont=>exact q
theorem C1 (h1:PS X st t):cM X [st] t:=by
 intro pins s σ H D I h
 refine wpAny_execs_cons (aK (h1 pins s σ H D I h) fun f s1 q=>?_)
 cases f with
 | next=>exact wpAny_execs_nil q
 | ret v=>exact q
 | brk=>exact q
 | cont=>exact q
theorem a5.quiet {pins:List (Addr × Obj)}{σ:St}{H:Hp}{s:Shared} (I:a5 X pins σ H s):interactive X.env=false:=by simp [interactive,I.ok.kind]
def jK (te:TE):TS:=fun D σ H=>te σ H fun _ H1=>D.nx σ H1
theorem lC (he:PE X e te) (hs:swapsWith e none pos.line X.env=pure false:=by rfl):PS X (.Expr e pos) (jK te):=by
 intro pins s σ H D I h
 exact wpAny_Expr_any (aK (he pins s σ H _ I h) fun v s1 ⟨x,H1,I1,r1,q1⟩=>⟨σ,H1,I1,q1⟩) I.quiet hs
def o0 (te:TE):TS:=fun D σ H=>te σ H D.rt
theorem sK (he:PE X e te):PS X (.Return (some e) pos) (o0 te):=by
 intro pins s σ H D I h
 exact wpAny_Return_some (aK (he pins s σ H _ I h) fun v s1 ⟨x,H1,I1,r1,q1⟩=>⟨x,σ,H1,I1,r1,q1⟩)
def sL (c:TT) (t u:TS):TS:=fun D σ H=>c σ H fun b H1=>if b=true then t D σ H1 else u D σ H1
theorem C2 {c:Expr}{a b:List Stmt}{tc:TT} (hc:PT X c tc) (ha:cM X a t) (hb:cM X b u):PS X (.If c a b pos) (sL tc t u):=by
 intro pins s σ H D I h
 refine wpAny_If (aK (hc pins s σ H _ I h) fun d s1 ⟨H1,I1,q1⟩=>?_)
 cases d with
 | true=>exact ha pins s1 σ H1 D I1 q1
 | false=>exact hb pins s1 σ H1 D I1 q1
def C3:TS:=fun _ _ _=>False
theorem C4:PS X st C3:=fun _ _ _ _ _ _ h=>h.elim
end
abbrev TG:=V->St->Hp->(St->Hp->Prop)->Prop
abbrev gY:=List V->St->Hp->(St->Hp->Prop)->Prop
def PG (X:Cx) (target:Expr) (t:TG):Prop:=
 ∀ (pins:List (Addr × Obj)) (s:Shared) (σ:St) (H:Hp) (v:V) (u:Value) (Q:St->Hp->Prop),a5 X pins σ H s->aS v u->t v σ H Q->
  wpAny (model X.prog X.w) X.A (assign target X.env u) (fun _ s'=>∃ σ' H',a5 X pins σ' H' s'/\Q σ' H') X.xe s
def lD (X:Cx) (ts:List Expr) (t:gY):Prop:=
 ∀ (pins:List (Addr × Obj)) (s:Shared) (σ:St) (H:Hp) (vs:List V) (us:List Value) (Q:St->Hp->Prop),a5 X pins σ H s->aF vs us->t vs σ H Q->
  wpAny (model X.prog X.w) X.A (assignInOrder ((assignEach ts X.env).map (·.2)) us) (fun _ s'=>∃ σ' H',a5 X pins σ' H' s'/\Q σ' H') X.xe s
section
variable {X : Cx} {pos : Pos}
def cR (i:Nat):TG:=fun v σ H Q=>Q (σ.set i (some v)) H
theorem lE {i:Nat}{x:Str} (hN:X.N.Nodup) (hi:X.N[i]? = some x) (hx:eM X.env.scope x) (hf:X.fn x=true ∨ X.env.scope.names.lookup x=some .local:=by first | exact .inl rfl | exact .inr rfl | assumption):PG X (.Name x pos) (cR i):=by
 intro pins s σ H v u Q I r h
 exact wpAny_assign_Name (jH I hN hi hx r (fun s' I'=>⟨_,H,I',h⟩) hf)
def lF:gY:=fun vs σ H Q=>vs = []/\Q σ H
def gZ (t:TG) (u:gY):gY:=fun vs σ H Q=>∃ v r,vs=v :: r/\t v σ H fun σ' H'=>u r σ' H' Q
theorem C5:lD X [] lF:=by
 intro pins s σ H vs us Q I r h
 obtain ⟨e,h⟩:=h
 subst e
 cases r
 exact assignInOrder_nil ⟨σ,H,I,h⟩
theorem sM {e:Expr}{es:List Expr}{t:TG}{u:gY} (h1:PG X e t) (h2:lD X es u)
  (hs:(assignEach (e :: es) X.env).map (·.2)=assign e X.env :: (assignEach es X.env).map (·.2):=by rfl):lD X (e :: es) (gZ t u):=by
 intro pins s σ H vs us Q I r h
 obtain ⟨v,vr,e1,h⟩:=h
 subst e1
 cases r with
 | cons r rr=>
  rw [hs]
  refine assignInOrder_cons (aK (h1 pins s σ H _ _ _ I r h) fun _ s1 ⟨σ1,H1,I1,q1⟩=>?_)
  exact h2 pins s1 σ1 H1 _ _ Q I1 rr q1
def lG (K:PySem.W.Frag) (n:Nat) (t:gY):TG:=fun v σ H Q=>∃ a xs,v = .ref a/\aG K H a xs/\xs.length=n/\t xs σ H Q
theorem C6 {es:List Expr}{k:Nat}{t:gY}{n:Nat} (hc:X.calm=true) (h:lD X es t)
  (hn:(assignEach es X.env).length=n:=by rfl) (hst:(assignEach es X.env).findIdx? (·.1)=none:=by rfl):PG X (.Tuple es k pos) (lG X.K n t):=by
 intro pins s σ H v u Q I r hw
 obtain ⟨a,xs,e1,hq,hl,hw⟩:=hw
 subst e1
 cases r
 obtain ⟨its,rv,ht,hz⟩:=I.tuple hq
 refine assign_Tuple_tuple (I.ok.hd hc) ht (by simp [hn,<- hl,rv.length]) hst fun h' hx=>?_
 have I1:a5 X pins σ H { s with heap:=h' }:=I.kept (t':=s.toks) fun b o e=>hx b o (av4 (as8 e)) e
 exact h pins _ σ H xs _ Q I1 (by simpa using rv) hw
def lH (te:TE) (g:TG):TS:=fun D σ H=>te σ H fun x H1=>g x σ H1 D.nx
theorem sN {i:Nat}{x:Str}{e:Expr}{te:TE}{pos':Pos} (hN:X.N.Nodup) (hi:X.N[i]? = some x) (hx:eM X.env.scope x) (he:PE X e te) (hs:swapsWith e (some (.Name x pos')) pos.line X.env=pure false:=by rfl) (hf:X.fn x=true ∨ X.env.scope.names.lookup x=some .local:=by first | exact .inl rfl | exact .inr rfl | assumption) :
  PS X (.Assign [.Name x pos'] e pos) (lH te (cR i)):=by
 intro pins s σ H D I h
 refine wpAny_Assign_Name (aK (he pins s σ H _ I h) fun v s1 ⟨y,H1,I1,r1,q1⟩=>?_) hs
 exact jH I1 hN hi hx r1 (fun s2 I2=>⟨_,H1,I2,q1⟩) hf
end
structure It where
 go:Nat->Hp->Prop
 yld:Nat->Hp->V->Hp->Prop
 stop:Nat->Hp->Prop
def dN (X:Cx) (pins:List (Addr × Obj)) (H:Hp) (b:Addr):Prop:=
 H b=none/\b ≠ X.env.locals/\b ∉ X.fs/\(b ∈ X.ex ∨ X.s₀.heap.objs.size<=b)/\(∀ x c,X.env.cells.lookup x=some c->c ≠ b)/\∀ p ∈ X.pn ++ pins,p.1 ≠ b
theorem a5.fpOk {X:Cx}{pins:List (Addr × Obj)}{σ:St}{H H':Hp}{s:Shared}{b:Addr} (I:a5 X pins σ H s) (hb:s.heap.objs.size<=b) (hn:H' b=none):dN X pins H' b:=by
 refine⟨hn,aB5 (as5 I.lt hb),I.nofs hb,.inr (aw6 I.sz hb),fun x c e z=>?_,fun p hp z=>?_⟩
 ·obtain ⟨v,q⟩:=I.cell x c e
  exact absurd (as5 q.lt (by rw [z]; exact hb)) (ax6 _)
 ·exact absurd (as5 (as8 (I.pin p hp).1) (by rw [z]; exact hb)) (ax6 _)
structure gG (P:Program) (w:World) (K:PySem.W.Frag) (tg:Expr) (J:It) (fp:List Addr) (it:Addr) (tn:Nat->Heap->Prop):Prop where
 mem:it ∈ fp
 obj:∀ i h,tn i h->∀ b ∈ fp,∃ o,h.get? b=some o/\∀ v,o.data ≠ .cell v
 keep:∀ i h h',tn i h->(∀ b ∈ fp,∀ o,h.get? b=some o->h'.get? b=some o)->tn i h'
 item:∀ (X:Cx),X.prog=P->X.w=w->X.K=K->X.calm=true->∀ (i:Nat) (pins:List (Addr × Obj)) (s:Shared) (σ:St) (H:Hp) (E:Value->Shared->Prop),a5 X pins σ H s->(∀ b ∈ fp,dN X pins H b)->tn i s.heap->J.go i H->
  wpAny (model P w) X.A (pyNext (.ref it)) (fun r s1=>∃ u,r=some u/\
   wpAny (model P w) X.A (letOwnedTupleGo tg (.ref it) u) (fun _ s2=>∃ x H',a5 X pins σ H' s2/\aS x u/\J.yld i H x H'/\tn (i+1) s2.heap/\∀ b ∈ fp,H' b=none) E s1) E s
 done:∀ (X:Cx),X.prog=P->X.w=w->X.K=K->X.calm=true->∀ (i:Nat) (pins:List (Addr × Obj)) (s:Shared) (σ:St) (H:Hp) (E:Value->Shared->Prop),a5 X pins σ H s->(∀ b ∈ fp,dN X pins H b)->tn i s.heap->J.stop i H->
  wpAny (model P w) X.A (pyNext (.ref it)) (fun r s1=>r=none/\a5 X pins σ H s1) E s
 self:∀ (A:Around) (i:Nat) (s:Shared) (Q:Value->Shared->Prop) (E:Value->Shared->Prop),tn i s.heap->Q (.ref it) s->wpAny (model P w) A (pyIter (.ref it)) Q E s
abbrev TI:=St->Hp->(It->Hp->Prop)->Prop
def sO (X:Cx) (pins:List (Addr × Obj)) (σ:St) (tg:Expr) (R:It->Hp->Prop) (itv:Value) (s2:Shared):Prop:=
 ∃ (it:Addr) (fp:List Addr) (tn:Nat->Heap->Prop) (J:It) (H':Hp),itv = .ref it/\a5 X pins σ H' s2/\gG X.prog X.w X.K tg J fp it tn/\tn 0 s2.heap/\(∀ b ∈ fp,dN X pins H' b)/\R J H'
def PI (X:Cx) (tg iter:Expr) (wi:TI):Prop:=
 ∀ (pins:List (Addr × Obj)) (s:Shared) (σ:St) (H:Hp) (R:It->Hp->Prop),a5 X pins σ H s->wi σ H R->
  wpAny (model X.prog X.w) X.A (eval iter X.env) (fun v s1=>wpAny (model X.prog X.w) X.A (pyIter v) (sO X pins σ tg R) X.xe s1) X.xe s
theorem o3 {M:Model}{A:Around}{E:Value->Shared->Prop}{s:Shared}{tg:Expr}{it:Addr}{u:Value}{o:Obj}{n:String}{vs:Array Value}{Q:Unit->Shared->Prop} (ho:s.heap.get? it=some o) (hc:o.cls = .type n) (hd:o.data = .fields vs)
    (hn : ["enumerate","zip","dict_itemiterator","dict_reverseitemiterator","odict_iterator","itertools.zip_longest","itertools.pairwise"].contains n=false) (hQ:Q () s):wpAny M A (letOwnedTupleGo tg (.ref it) u) Q E s:=by
  unfold letOwnedTupleGo
  cases tg <;> first
    | exact as2 hQ
    | (cases u <;> first
        | exact as2 hQ
        | (refine ar6 (wpAny_load ho ?_)
           rw [hc,hd]
           show wpAny M A (if (["enumerate","zip","dict_itemiterator","dict_reverseitemiterator","odict_iterator","itertools.zip_longest","itertools.pairwise"].contains n && vs[0]? == some (rawInt _))=true then _ else _) Q E s
           rw [if_neg (by intro h; rw [hn,Bool.false_and] at h; cases h)]
           exact as2 hQ))
def o4 (K:PySem.W.Frag) (a:Addr):It:=
 ⟨fun i H=>∃ xs x,aJ K H a xs/\xs[i]? = some x,fun i H x H'=>H'=H/\∀ xs,aJ K H a xs->xs[i]? = some x,fun i H=>∃ xs,aJ K H a xs/\xs.length<=i⟩
def o7 (K:PySem.W.Frag) (a:Addr):It:=
 ⟨fun i H=>∃ xs x,aG K H a xs/\xs[i]? = some x,fun i H x H'=>H'=H/\∀ xs,aG K H a xs->xs[i]? = some x,fun i H=>∃ xs,aG K H a xs/\xs.length<=i⟩
def jL (lo:Int) (n:Nat):It:=⟨fun i _=>i < n,fun i H x H'=>H'=H/\x = .int (lo+i),fun i _=>n<=i⟩
theorem C7 {P:Program}{w:World}{K:PySem.W.Frag}{tg:Expr} (a it:Addr):gG P w K tg (o4 K a) [it] it (fun i h=>h.IsListIter it a i) where
 mem:=by simp
 obj:=fun i h st b hb=>by
  have e:b=it:=by simpa using hb
  subst e
  obtain ⟨o,e,c,d⟩:=st
  exact⟨o,e,fun v z=>by rw [d] at z; cases z⟩
 keep:=fun i h h' st k=>st.at fun o e=>k it (by simp) o e
 item:=by
  intro X hP hw hK hc i pins s σ H E I hf st hg
  subst hP hw hK
  obtain ⟨xs,x,hq,hx⟩:=hg
  obtain ⟨its,rv,p,hz⟩:=I.list hq
  obtain ⟨u,hu,ru⟩:=rv.get hx
  obtain ⟨f0,f1,f2,f3,f4,f5⟩:=hf it (by simp)
  refine wpAny_pyNext_list_item st p.isList (x:=u) (by simpa using hu) fun h' st' sb=>?_
  have I1:a5 X pins σ H { s with heap:=h' }:=I.turned (t':=s.toks) (fun b o hb e=>(sb.2 b hb).trans e) f0 f1 f3 f4 f5
  obtain ⟨o,e,c,d⟩:=id st'
  exact⟨u,rfl,o3 (s:={ s with heap:=h' }) e c d (by decide) ⟨x,H,I1,ru,⟨rfl,fun ys hy=>by rw [I.list_inj hy hq]; exact hx⟩,st',fun b hb=>(hf b hb).1⟩⟩
 done:=by
  intro X hP hw hK hc i pins s σ H E I hf st hg
  subst hP hw hK
  obtain ⟨xs,hq,hx⟩:=hg
  obtain ⟨its,rv,p,hz⟩:=I.list hq
  obtain ⟨f0,f1,f2,f3,f4,f5⟩:=hf it (by simp)
  have hl:=rv.length
  exact wpAny_pyNext_list_end (I.ok.hd hc) st p.isList (by simp; omega) fun h' eb=>⟨rfl,I.turned (t':=s.toks) (fun b o hb e=>eb b o hb e) f0 f1 f3 f4 f5⟩
 self:=fun _ _ _ _ _ st h=>wpAny_pyIter_listiter st h
theorem C8 {P:Program}{w:World}{K:PySem.W.Frag}{tg:Expr} (a it:Addr):gG P w K tg (o7 K a) [it] it (fun i h=>h.IsTupleIter it a i) where
 mem:=by simp
 obj:=fun i h st b hb=>by
  have e:b=it:=by simpa using hb
  subst e
  obtain ⟨o,e,c,d⟩:=st
  exact⟨o,e,fun v z=>by rw [d] at z; cases z⟩
 keep:=fun i h h' st k=>st.at fun o e=>k it (by simp) o e
 item:=by
  intro X hP hw hK hc i pins s σ H E I hf st hg
  subst hP hw hK
  obtain ⟨xs,x,hq,hx⟩:=hg
  obtain ⟨its,rv,p,hz⟩:=I.tuple hq
  obtain ⟨u,hu,ru⟩:=rv.get hx
  obtain ⟨f0,f1,f2,f3,f4,f5⟩:=hf it (by simp)
  refine wpAny_pyNext_tuple_item st (show s.heap.IsTuple a its.toArray from p) (x:=u) (by simpa using hu) fun h' st' sb=>?_
  have I1:a5 X pins σ H { s with heap:=h' }:=I.turned (t':=s.toks) (fun b o hb e=>(sb.2 b hb).trans e) f0 f1 f3 f4 f5
  obtain ⟨o,e,c,d⟩:=id st'
  exact⟨u,rfl,o3 (s:={ s with heap:=h' }) e c d (by decide) ⟨x,H,I1,ru,⟨rfl,fun ys hy=>by rw [I.tuple_inj hy hq]; exact hx⟩,st',fun b hb=>(hf b hb).1⟩⟩
 done:=by
  intro X hP hw hK hc i pins s σ H E I hf st hg
  subst hP hw hK
  obtain ⟨xs,hq,hx⟩:=hg
  obtain ⟨its,rv,p,hz⟩:=I.tuple hq
  obtain ⟨f0,f1,f2,f3,f4,f5⟩:=hf it (by simp)
  have hl:=rv.length
  exact wpAny_pyNext_tuple_end (I.ok.hd hc) st (show s.heap.IsTuple a its.toArray from p) (by simp; omega) fun h' eb=>⟨rfl,I.turned (t':=s.toks) (fun b o hb e=>eb b o hb e) f0 f1 f3 f4 f5⟩
 self:=fun _ _ _ _ _ st h=>wpAny_pyIter_tupleiter st h
theorem C9 {P:Program}{w:World}{K:PySem.W.Frag}{tg:Expr} (it:Addr) (lo:Int) (n:Nat):gG P w K tg (jL lo n) [it] it (fun i h=>IsRangeIter h it (lo+(i:Nat) * 1) ((n:Int) - (i:Nat)) 1) where
 mem:=by simp
 obj:=fun i h st b hb=>by
  have e:b=it:=by simpa using hb
  subst e
  exact⟨_,st,fun v z=>by
   have z':Data.fields _=Data.cell v:=z
   cases z'⟩
 keep:=fun i h h' st k=>k it (by simp) _ st
 item:=by
  intro X hP hw hK hc i pins s σ H E I hf st hg
  subst hP hw hK
  obtain ⟨f0,f1,f2,f3,f4,f5⟩:=hf it (by simp)
  have W:=Walks.range (prog:=X.prog) (w:=X.w) (I.ok.hd hc) it lo 1 n
  refine W.item i s _ _ hg st fun v h' tk hv st' kk=>?_
  obtain ⟨t,rfl⟩:=hv
  have I1:a5 X pins σ H { s with heap:=h',toks:=tk }:=I.turned (fun b o hb e=>kk b o (by simpa using hb) e) f0 f1 f3 f4 f5
  refine⟨_,rfl,o3 (s:={ s with heap:=h',toks:=tk }) (n:="range_iterator") st' rfl rfl (by decide) ⟨.int (lo+i),H,I1,⟨t,?_⟩,⟨rfl,rfl⟩,st',fun b hb=>(hf b hb).1⟩⟩
  rw [Int.mul_one]
 done:=by
  intro X hP hw hK hc i pins s σ H E I hf st hg
  subst hP hw hK
  obtain ⟨f0,f1,f2,f3,f4,f5⟩:=hf it (by simp)
  exact wpAny_pyNext_range_end (I.ok.hd hc) st (by have:n<=i:=hg; omega) fun h' eb=>⟨rfl,I.turned (t':=s.toks) (fun b o hb e=>eb b o hb e) f0 f1 f3 f4 f5⟩
 self:=fun _ _ _ _ _ st h=>wpAny_pyIter_rangeiter st h
section
variable {X : Cx} {tg : Expr}
theorem sP {pins:List (Addr × Obj)}{σ:St}{H:Hp}{s:Shared}{R:It->Hp->Prop}{E:Value->Shared->Prop}{lo hi:Int}{t u v:Tok}{tk:Nat} (I:a5 X pins σ H s) (h1 : -(2 ^ 62)<=lo) (h2:lo < 2 ^ 62) (h3 : -(2 ^ 62)<=hi) (h4:hi < 2 ^ 62)
  (q:R (jL lo (hi - lo).toNat) H):wpAny (model X.prog X.w) X.A (pyIter (.ref s.heap.objs.size)) (sO X pins σ tg R) E { s with heap:=s.heap.push { cls:=.type "range",data:=.fields #[.int lo t,.int hi u,.int 1 v] },toks:=tk }:=by
 refine wpAny_pyIter_range (IsRange.new ..) (small_one h1 h2 h3 h4) ?_
 have I1:a5 X pins σ H { s with heap:=s.heap.push { cls:=.type "range",data:=.fields #[.int lo t,.int hi u,.int 1 v] },toks:=tk }:=I.kept fun b o e=>ar7 _ e
 refine⟨(s.heap.push { cls:=.type "range",data:=.fields #[.int lo t,.int hi u,.int 1 v] }).objs.size,[(s.heap.push { cls:=.type "range",data:=.fields #[.int lo t,.int hi u,.int 1 v] }).objs.size],_,_,H,rfl,
  I1.kept (t':=tk) fun b o e=>ar7 _ e,C9 _ lo (hi - lo).toNat,?_,fun b hb=>?_,q⟩
 ·have e1:lo+((0:Nat):Int) * 1=lo:=by simp
  have e2:(((hi - lo).toNat:Nat):Int) - ((0:Nat):Int)=Builtin.Range.rangeSize lo hi 1:=by rw [rangeSize_one]; split <;> omega
  show IsRangeIter _ _ (lo+((0:Nat):Int) * 1) ((((hi - lo).toNat:Nat):Int) - ((0:Nat):Int)) 1
  rw [e1,e2]
  exact au5 _ rfl
 ·have e:b=(s.heap.push { cls:=.type "range",data:=.fields #[.int lo t,.int hi u,.int 1 v] }).objs.size:=by simpa using hb
  subst e
  exact I1.fpOk (as3 _) (I1.hok.fresh (as3 _))
def sQ (ta:TA):TI:=fun σ H R=>ta σ H fun vs H1=>∃ j:Int,vs = [.int j]/\-(2 ^ 62)<=j/\j < 2 ^ 62/\R (jL 0 j.toNat) H1
def sR (ta:TA):TI:=fun σ H R=>ta σ H fun vs H1=>∃ i j:Int,vs = [.int i,.int j]/\(-(2 ^ 62)<=i/\i < 2 ^ 62/\-(2 ^ 62)<=j/\j < 2 ^ 62)/\R (jL i (j - i).toNat) H1
theorem E1 {a:Expr}{ta:TA}{p pos:Pos} (hg:Gl X "range") (hm:X.mg "range" = none) (ha:PA X [a] ta) (hs:starEach [a] X.env = [(false,eval a X.env)]:=by rfl):PI X tg (.Call (.Name "range" p) [a] [] pos) (sQ ta):=by
 intro pins s σ H R I h
 refine Call_ (iI I hg hm boot_range (aB6 (aK (ha pos pins s σ H _ I h) fun us s1 ⟨vs,H1,I1,r1,q1⟩=>?_) hs rfl))
 obtain ⟨j,e,q1,q2,q⟩:=q1
 subst e
 cases r1 with
 | cons r rr=>
  cases rr
  obtain ⟨t,rfl⟩:=r
  exact call_range_1 (sP I1 (by omega) (by omega) q1 q2 (by simpa using q))
theorem E2 {a b:Expr}{ta:TA}{p pos:Pos} (hg:Gl X "range") (hm:X.mg "range" = none) (ha:PA X [a,b] ta) (hs:starEach [a,b] X.env = [(false,eval a X.env),(false,eval b X.env)]:=by rfl) (hs2:starEach [b] X.env = [(false,eval b X.env)]:=by rfl) :
  PI X tg (.Call (.Name "range" p) [a,b] [] pos) (sR ta):=by
 intro pins s σ H R I h
 refine Call_ (iI I hg hm boot_range (aB6 (aK (ha pos pins s σ H _ I h) fun us s1 ⟨vs,H1,I1,r1,q1⟩=>?_) (by rw [hs,hs2]) (by rw [hs2]; rfl)))
 obtain ⟨i,j,e,⟨q1,q2,q3,q4⟩,q⟩:=q1
 subst e
 cases r1 with
 | cons r rr=>
  cases rr with
  | cons r' rr=>
   cases rr
   obtain ⟨t,rfl⟩:=r
   obtain ⟨t',rfl⟩:=r'
   exact call_range_2 (sP I1 q1 q2 q3 q4 q)
def sS (wi:TI) (g:TG) (tb:TS):TS:=fun D σ H=>wi σ H fun J H1=>∃ W:Nat->Nat->St->Hp->Prop,(∃ m,W 0 m σ H1)/\∀ i m σ H,W i m σ H->
 (J.stop i H/\D.nx σ H) ∨ (J.go i H/\∃ N:St->Hp->Prop,(∀ σ' H',N σ' H'->∃ m',m' < m/\W (i+1) m' σ' H')/\∀ x H',J.yld i H x H'->g x σ H' fun σ2 H2=>tb { D with nx:=N,ct:=N,bk:=D.nx } σ2 H2)
def jM (fp:List Addr) (h:Heap):List (Addr × Obj):=fp.filterMap fun b=>(h.get? b).map fun o=>(b,o)
theorem lI {fp:List Addr}{h:Heap}{b:Addr}{o:Obj} (hb:b ∈ fp) (e:h.get? b=some o):(b,o) ∈ jM fp h:=List.mem_filterMap.mpr ⟨b,hb,by rw [e]; rfl⟩
theorem E3 {fp:List Addr}{h:Heap}{p:Addr × Obj} (hp:p ∈ jM fp h):p.1 ∈ fp/\h.get? p.1=some p.2:=by
 obtain ⟨b,hb,e⟩:=List.mem_filterMap.mp hp
 cases q:h.get? b with
 | none=>rw [q] at e; cases e
 | some o=>
  rw [q] at e
  have e':(b,o)=p:=av0 e
  subst e'
  exact⟨hb,q⟩
theorem a5.pinned {pins:List (Addr × Obj)}{σ:St}{H:Hp}{s:Shared}{fp:List Addr} (I:a5 X pins σ H s) (hf:∀ b ∈ fp,dN X pins H b) (ho:∀ b ∈ fp,∃ o,s.heap.get? b=some o/\∀ v,o.data ≠ .cell v):a5 X (pins ++ jM fp s.heap) σ H s:=
 I.pins_of fun p hp=>(ay0.mp hp).elim (fun z=>I.pin p (au8 _ z)) fun z=>by
  obtain ⟨hb,e⟩:=E3 z
  obtain ⟨f0,f1,f2,_⟩:=hf p.1 hb
  obtain ⟨o,e',d⟩:=ho p.1 hb
  rw [e] at e'; cases e'
  exact⟨e,f0,f1,f2,d⟩
theorem a5.unpinned {pins pl:List (Addr × Obj)}{σ:St}{H:Hp}{s:Shared} (I:a5 X (pins ++ pl) σ H s):a5 X pins σ H s:=I.pins_of fun p hp=>I.pin p (au8 _ (aD1 _ hp))
theorem E4 {iter:Expr}{body:List Stmt}{wi:TI}{g:TG}{tb:TS}{pos:Pos} (hp:PassesOwn (model X.prog X.w) X.A X.env X.xe) (hc:X.calm=true) (hi:PI X tg iter wi) (hg:PG X tg g) (hb:cM X body tb)
  (hs:∀ x,foldedSetIterable iter X.env x=pure x:=by intro _; rfl):PS X (.For tg iter body [] pos) (sS wi g tb):=by
 intro pins s σ H D I h
 refine wpAny_For (aK (hi pins s σ H _ I h) fun v s1 h1=>aK h1 fun itv s2 h2=>?_) hs
 obtain ⟨it,fp,tn,J,H2,e,I2,T,st2,f2,W,⟨m0,w0⟩,turn⟩:=h2
 subst e
 have stat:∀ {H':Hp},(∀ b ∈ fp,H' b=none)->∀ b ∈ fp,dN X pins H' b:=fun hn b hb=>⟨hn b hb,(f2 b hb).2⟩
 refine codeAny_forLoop_any (fun n s'=>∃ i σ' H',a5 X pins σ' H' s'/\tn i s'.heap/\(∀ b ∈ fp,H' b=none)/\W i n σ' H') ?_ m0 ⟨0,σ,H2,I2,st2,fun b hb=>(f2 b hb).1,w0⟩
 rintro n s3 ⟨i,σ3,H3,I3,st3,fr3,w3⟩
 rcases turn i n σ3 H3 w3 with ⟨stop,qn⟩ | ⟨go,N,hN,step⟩
 ·refine wpAny_passesOwn hp (aK (T.done X rfl rfl rfl hc i pins s3 σ3 H3 X.xe I3 (stat fr3) st3 stop) fun r s4 ⟨hr,I4⟩=>?_)
  subst hr
  exact wpAny_execs_nil ⟨σ3,H3,I4,qn⟩
 ·refine wpAny_passesOwn hp (aK (T.item X rfl rfl rfl hc i pins s3 σ3 H3 X.xe I3 (stat fr3) st3 go) fun r s4 ⟨u,hr,h4⟩=>?_)
  subst hr
  refine wpAny_passesOwn hp (aK h4 fun _ s5 ⟨x,H5,I5,r5,y5,st5,fr5⟩=>?_)
  have I5':=I5.pinned (stat fr5) (T.obj _ _ st5)
  refine wpAny_passesOwn hp (aK (hg _ s5 σ3 H5 x u _ I5' r5 (step x H5 y5)) fun _ s6 ⟨σ6,H6,I6,q6⟩=>?_)
  refine wpAny_passesOwn hp (aK (hb _ s6 σ6 H6 _ I6 q6) fun f s7 q7=>?_)
  have again:∀ {σ7:St}{H7:Hp},a5 X (pins ++ jM fp s5.heap) σ7 H7 s7->N σ7 H7->∃ m,m < n/\∃ i σ' H',a5 X pins σ' H' s7/\tn i s7.heap/\(∀ b ∈ fp,H' b=none)/\W i m σ' H':=fun {σ7 H7} I7 n7=>by
   obtain ⟨m',hm,w7⟩:=hN σ7 H7 n7
   refine⟨m',hm,i+1,σ7,H7,I7.unpinned,T.keep _ _ _ st5 fun b hb o e=>(I7.pin (b,o) (au8 _ (au8 _ (lI hb e)))).1,fun b hb=>?_,w7⟩
   obtain ⟨o,e,d⟩:=T.obj _ _ st5 b hb
   exact (I7.pin (b,o) (au8 _ (au8 _ (lI hb e)))).2.1
  cases f with
  | next=>obtain ⟨σ7,H7,I7,n7⟩:=q7; exact again I7 n7
  | cont=>obtain ⟨σ7,H7,I7,n7⟩:=q7; exact again I7 n7
  | brk=>obtain ⟨σ7,H7,I7,q7⟩:=q7; exact⟨σ7,H7,I7.unpinned,q7⟩
  | ret v=>obtain ⟨x7,σ7,H7,I7,r7,q7⟩:=q7; exact⟨x7,σ7,H7,I7.unpinned,r7,q7⟩
end
abbrev R2:=V->V->Hp->VK->Prop
def b8 (X:Cx) (f:Value->Value->Sem Value) (r:R2):Prop:=
 ∀ (pins:List (Addr × Obj)) (s:Shared) (σ:St) (H:Hp) (x y:V) (v u:Value) (Q:VK),a5 X pins σ H s->aS x v->aS y u->r x y H Q->
  wpAny (model X.prog X.w) X.A (f v u) (EP X pins σ Q) X.xe s
def o8 (X:Cx) (f:Value->Sem Value) (r:V->Hp->VK->Prop):Prop:=
 ∀ (pins:List (Addr × Obj)) (s:Shared) (σ:St) (H:Hp) (x:V) (v:Value) (Q:VK),a5 X pins σ H s->aS x v->r x H Q->
  wpAny (model X.prog X.w) X.A (f v) (EP X pins σ Q) X.xe s
def cB (X:Cx) (f:Value) (r:List V->Hp->VK->Prop):Prop:=
 ∀ (pins:List (Addr × Obj)) (s:Shared) (σ:St) (H:Hp) (xs:List V) (us:List Value) (Q:VK),a5 X pins σ H s->aF xs us->r xs H Q->
  wpAny (model X.prog X.w) X.A (call f us) (EP X pins σ Q) X.xe s
def jN (r:R2) (ta tb:TE):TE:=fun σ H Q=>ta σ H fun x H1=>tb σ H1 fun y H2=>r x y H2 Q
def E5 (r:V->Hp->VK->Prop) (ta:TE):TE:=fun σ H Q=>ta σ H fun x H1=>r x H1 Q
def rI (C:Int->Int->Prop) (g:Int->Int->V):R2:=fun x y H Q=>∃ i j,x = .int i/\y = .int j/\C i j/\Q (g i j) H
def fB (g:Int->Int->V):R2:=fun x y H Q=>∃ i j,x = .int i/\y = .int j/\Q (g i j) H
def rU (g:Int->V):V->Hp->VK->Prop:=fun x H Q=>∃ i,x = .int i/\Q (g i) H
section
variable {X : Cx} {a b c : Expr} {ta tb tc : TE} {pos : Pos}
theorem o9 (ha:PE X a ta) (hb:PE X b tb) {pins:List (Addr × Obj)}{s:Shared}{σ:St}{H:Hp}{R:V->V->Hp->Prop} (I:a5 X pins σ H s)
  (h:ta σ H fun x H1=>tb σ H1 fun y H2=>R x y H2) {Q:Value->Shared->Prop}{f:Value->Value->Sem Value}
  (hf:∀ v u s2 x y H2,a5 X pins σ H2 s2->aS x v->aS y u->R x y H2->wpAny (model X.prog X.w) X.A (f v u) Q X.xe s2) :
  wpAny (model X.prog X.w) X.A (eval a X.env) (fun v s₁=>wpAny (model X.prog X.w) X.A (eval b X.env) (fun u s₂=>wpAny (model X.prog X.w) X.A (f v u) Q X.xe s₂) X.xe s₁) X.xe s:=by
 refine aK (ha pins s σ H _ I h) fun v s1 ⟨x,H1,I1,r1,q1⟩=>?_
 refine aK (hb pins s1 σ H1 _ I1 q1) fun u s2 ⟨y,H2,I2,r2,q2⟩=>?_
 exact hf v u s2 x y H2 I2 r1 r2 q2
theorem E6 {op:Operator}{r:R2} (ho:b8 X (binaryOp op) r) (ha:PE X a ta) (hb:PE X b tb):PE X (.BinOp a op b pos) (jN r ta tb):=by
 intro pins s σ H Q I h
 exact wpAny_BinOp (o9 ha hb I h fun v u s2 x y H2 I2 rx ry q=>ho pins s2 σ H2 x y v u Q I2 rx ry q)
theorem E7 {op:UnaryOp}{r:V->Hp->VK->Prop} (ho:o8 X (unaryOp op) r) (ha:PE X a ta):PE X (.UnaryOp op a pos) (E5 r ta):=by
 intro pins s σ H Q I h
 exact UnaryOp_ (aK (ha pins s σ H _ I h) fun v s1 ⟨x,H1,I1,r1,q1⟩=>ho pins s1 σ H1 x v Q I1 r1 q1)
theorem lJ {f:Value->Value->Sem Value}{C:Int->Int->Prop}{g:Int->Int->Int}
  (rule:∀ (i j:Int) (t u:Tok) (s:Shared) (Q:Value->Shared->Prop) (E:Value->Shared->Prop),C i j->Q (.int (g i j) s.toks) { s with toks:=s.toks+1 }->wpAny (model X.prog X.w) X.A (f (.int i t) (.int j u)) Q E s) :
  b8 X f (rI C fun i j=>.int (g i j)):=by
 intro pins s σ H x y v u Q I rx ry h
 obtain ⟨i,j,rfl,rfl,hc,q⟩:=h
 obtain ⟨t,rfl⟩:=rx
 obtain ⟨t',rfl⟩:=ry
 exact rule i j t t' s _ _ hc ⟨.int (g i j),H,I.tok _,⟨_,rfl⟩,q⟩
theorem sU {f:Value->Value->Sem Value}{g:Int->Int->Int}
  (rule:∀ (i j:Int) (t u:Tok) (s:Shared) (Q:Value->Shared->Prop) (E:Value->Shared->Prop),Q (.int (g i j) s.toks) { s with toks:=s.toks+1 }->wpAny (model X.prog X.w) X.A (f (.int i t) (.int j u)) Q E s) :
  b8 X f (fB fun i j=>.int (g i j)):=by
 intro pins s σ H x y v u Q I rx ry h
 obtain ⟨i,j,rfl,rfl,q⟩:=h
 obtain ⟨t,rfl⟩:=rx
 obtain ⟨t',rfl⟩:=ry
 exact rule i j t t' s _ _ ⟨.int (g i j),H,I.tok _,⟨_,rfl⟩,q⟩
theorem oA {f:Value->Value->Sem Value}{g:Int->Int->Bool}
  (rule:∀ (i j:Int) (t u:Tok) (s:Shared) (Q:Value->Shared->Prop) (E:Value->Shared->Prop),Q (.bool (g i j)) s->wpAny (model X.prog X.w) X.A (f (.int i t) (.int j u)) Q E s) :
  b8 X f (fB fun i j=>.bl (g i j)):=by
 intro pins s σ H x y v u Q I rx ry h
 obtain ⟨i,j,rfl,rfl,q⟩:=h
 obtain ⟨t,rfl⟩:=rx
 obtain ⟨t',rfl⟩:=ry
 exact rule i j t t' s _ _ ⟨.bl (g i j),H,I,rfl,q⟩
def oB (i j:Int):Prop:=0 < j/\j < 1073741824
def oC (i j:Int):Prop:=0<=j/\j<=1000000/\i.natAbs < 2 ^ 64
def jO (i j:Int):Prop:=(-(2 ^ 64) < i/\i < 2 ^ 64) ∨ (-(2 ^ 64) < j/\j < 2 ^ 64)
theorem jO.ok {i j:Int} (h:jO i j):IntMulOk i j:=by
 rcases h with ⟨h1,h2⟩ | ⟨h1,h2⟩
 ·exact .of_left (intBits_le_64 h1 h2)
 ·exact .of_right (intBits_le_64 h1 h2)
theorem E8:b8 X (binaryOp .Add) (fB fun i j=>.int (i+j)):=sU fun _ _ _ _ _ _ _ q=>add_int q
theorem E9:b8 X (binaryOp .Sub) (fB fun i j=>.int (i - j)):=sU fun _ _ _ _ _ _ _ q=>sub_int q
theorem F0:b8 X (binaryOp .Mult) (rI jO fun i j=>.int (i * j)):=lJ fun _ _ _ _ _ _ _ hc q=>mul_int q hc.ok
theorem F1:b8 X (binaryOp .FloorDiv) (rI oB fun i j=>.int (i / j)):=lJ fun i j _ _ _ _ _ hc q=>by
 have h1:(0:Int) < j:=hc.1
 have h2:j < 1073741824:=hc.2
 exact floordiv_int (by omega) (by rw [Int.fdiv_eq_ediv_of_nonneg i (by omega)]; exact q) (.inl (PyProof.noPylong_small (by omega)))
theorem F2:b8 X (binaryOp .Mod) (rI (fun _ j=>0 < j) fun i j=>.int (i % j)):=lJ fun i j _ _ _ _ _ hc q=>by
 have h1:(0:Int) < j:=hc
 exact mod_int' (by omega) (by rw [Int.fmod_eq_emod_of_nonneg i (by omega)]; exact q)
theorem F3:b8 X (binaryOp .Pow) (rI oC fun i j=>.int (i ^ j.toNat)):=lJ fun _ _ _ _ _ _ _ hc q=>pow_int_small hc.1 hc.2.1 hc.2.2 q
theorem F4 {f:Value->Sem Value}{g:Int->Int}
  (rule:∀ (i:Int) (t:Tok) (s:Shared) (Q:Value->Shared->Prop) (E:Value->Shared->Prop),Q (.int (g i) s.toks) { s with toks:=s.toks+1 }->wpAny (model X.prog X.w) X.A (f (.int i t)) Q E s) :
  o8 X f (rU fun i=>.int (g i)):=by
 intro pins s σ H x v Q I rx h
 obtain ⟨i,rfl,q⟩:=h
 obtain ⟨t,rfl⟩:=rx
 exact rule i t s _ _ ⟨.int (g i),H,I.tok _,⟨_,rfl⟩,q⟩
theorem F5:o8 X (unaryOp .USub) (rU fun i=>.int (-i)):=F4 fun _ _ _ _ _ q=>neg_int q
end
def sV:V->V->Bool
 | .non,.non=>true | .non,.int _=>true | .int _,.non=>true | .non,.bl _=>true | .bl _,.non=>true | .non,.str _=>true | .str _,.non=>true
 | .int _,.int _=>true | .bl _,.bl _=>true | .str _,.str _=>true | .byt _,.byt _=>true
 | .int _,.str _=>true | .str _,.int _=>true | .bl _,.str _=>true | .str _,.bl _=>true
 | _,_=>false
def oD:R2:=fun x y H Q=>sV x y=true/\Q (.bl (decide (x=y))) H
def oE:R2:=fun x y H Q=>sV x y=true/\Q (.bl (!decide (x=y))) H
theorem sW {i j:Int}:decide (V.int i=V.int j)=(i == j):=by
 rw [aB4]
 simp
theorem sX {i j:Bool}:decide (V.bl i=V.bl j)=(i == j):=by
 rw [aB4]
 simp
theorem sY {i j:Str}:decide (V.str i=V.str j)=(i == j):=by
 rw [aB4]
 simp
theorem sZ {i j:Array UInt8}:decide (V.byt i=V.byt j)=(i.toList == j.toList):=by
 rw [aB4]
 cases i
 cases j
 simp
section
variable {X : Cx} {a b c : Expr} {ta tb tc : TE} {pos : Pos}
theorem b9 {pins:List (Addr × Obj)}{σ:St}{H:Hp}{s:Shared}{Q:VK}{k k':Bool} (I:a5 X pins σ H s) (q:Q (.bl k) H) (e:k=k'):EP X pins σ Q (.bool k') s:=by
 subst e
 exact⟨.bl k,H,I,rfl,q⟩
theorem t0:b8 X (compareOp .Eq) oD:=by
 intro pins s σ H x y v u Q I rx ry h
 obtain ⟨hs,q⟩:=h
 cases x with
 | non=>
  cases rx
  cases y with
  | non=>cases ry; exact PySem.EqNone.eq_none_none (b9 I q (by simp))
  | bl j=>cases ry; exact PySem.EqNone.eq_none_bool (b9 I q (by simp))
  | int j=>obtain ⟨t',rfl⟩:=ry; exact PySem.EqNone.eq_none_int (b9 I q (by simp))
  | str j=>obtain ⟨t',rfl⟩:=ry; exact PySem.EqNone.eq_none_str (b9 I q (by simp))
  | _=>exact absurd (show false=true from hs) at3
 | bl i=>
  cases rx
  cases y with
  | non=>cases ry; exact PySem.EqNone.eq_bool_none (b9 I q (by simp))
  | bl j=>cases ry; exact eq_bool (b9 I q sX)
  | str j=>obtain ⟨t',rfl⟩:=ry; exact PySem.EqMixed.eq_bool_str (b9 I q (by simp))
  | _=>exact absurd (show false=true from hs) at3
 | int i=>
  obtain ⟨t,rfl⟩:=rx
  cases y with
  | non=>cases ry; exact PySem.EqNone.eq_int_none (b9 I q (by simp))
  | int j=>obtain ⟨t',rfl⟩:=ry; exact eq_int (b9 I q sW)
  | str j=>obtain ⟨t',rfl⟩:=ry; exact PySem.EqMixed.eq_int_str (b9 I q (by simp))
  | _=>exact absurd (show false=true from hs) at3
 | str i=>
  obtain ⟨t,rfl⟩:=rx
  cases y with
  | non=>cases ry; exact PySem.EqNone.eq_str_none (b9 I q (by simp))
  | bl j=>cases ry; exact PySem.EqMixed.eq_str_bool (b9 I q (by simp))
  | int j=>obtain ⟨t',rfl⟩:=ry; exact PySem.EqMixed.eq_str_int (b9 I q (by simp))
  | str j=>obtain ⟨t',rfl⟩:=ry; exact eq_str (b9 I q sY)
  | _=>exact absurd (show false=true from hs) at3
 | byt i=>
  obtain ⟨t,rfl⟩:=rx
  cases y with
  | byt j=>obtain ⟨t',rfl⟩:=ry; exact PySem.W.eq_bytes (b9 I q sZ)
  | _=>exact absurd (show false=true from hs) at3
 | _=>cases y <;> exact absurd (show false=true from hs) at3
theorem t5:b8 X (compareOp .NotEq) oE:=by
 intro pins s σ H x y v u Q I rx ry h
 obtain ⟨hs,q⟩:=h
 cases x with
 | non=>
  cases rx
  cases y with
  | non=>cases ry; exact PySem.EqNone.ne_none_none (b9 I q (by simp))
  | bl j=>cases ry; exact PySem.EqNone.ne_none_bool (b9 I q (by simp))
  | int j=>obtain ⟨t',rfl⟩:=ry; exact PySem.EqNone.ne_none_int (b9 I q (by simp))
  | str j=>obtain ⟨t',rfl⟩:=ry; exact PySem.EqNone.ne_none_str (b9 I q (by simp))
  | _=>exact absurd (show false=true from hs) at3
 | bl i=>
  cases rx
  cases y with
  | non=>cases ry; exact PySem.EqNone.ne_bool_none (b9 I q (by simp))
  | bl j=>cases ry; exact ne_bool (b9 I q (congrArg not sX))
  | str j=>obtain ⟨t',rfl⟩:=ry; exact PySem.EqMixed.ne_bool_str (b9 I q (by simp))
  | _=>exact absurd (show false=true from hs) at3
 | int i=>
  obtain ⟨t,rfl⟩:=rx
  cases y with
  | non=>cases ry; exact PySem.EqNone.ne_int_none (b9 I q (by simp))
  | int j=>obtain ⟨t',rfl⟩:=ry; exact ne_int (b9 I q (congrArg not sW))
  | str j=>obtain ⟨t',rfl⟩:=ry; exact PySem.EqMixed.ne_int_str (b9 I q (by simp))
  | _=>exact absurd (show false=true from hs) at3
 | str i=>
  obtain ⟨t,rfl⟩:=rx
  cases y with
  | non=>cases ry; exact PySem.EqNone.ne_str_none (b9 I q (by simp))
  | bl j=>cases ry; exact PySem.EqMixed.ne_str_bool (b9 I q (by simp))
  | int j=>obtain ⟨t',rfl⟩:=ry; exact PySem.EqMixed.ne_str_int (b9 I q (by simp))
  | str j=>obtain ⟨t',rfl⟩:=ry; exact ne_str (b9 I q (congrArg not sY))
  | _=>exact absurd (show false=true from hs) at3
 | byt i=>
  obtain ⟨t,rfl⟩:=rx
  cases y with
  | byt j=>obtain ⟨t',rfl⟩:=ry; exact PySem.W.ne_bytes (b9 I q (congrArg not sZ))
  | _=>exact absurd (show false=true from hs) at3
 | _=>cases y <;> exact absurd (show false=true from hs) at3
theorem oF:b8 X (compareOp .Lt) (fB fun i j=>.bl (decide (i < j))):=oA fun _ _ _ _ _ _ _ q=>lt_int q
theorem t6:b8 X (compareOp .Gt) (fB fun i j=>.bl (decide (j < i))):=oA fun _ _ _ _ _ _ _ q=>gt_int q
theorem t7:b8 X (compareOp .GtE) (fB fun i j=>.bl (decide (j<=i))):=oA fun _ _ _ _ _ _ _ q=>ge_int q
theorem F6:b8 X (compareOp .Is) (fun x y H Q=>y = .non/\Q (.bl (decide (x = .non))) H):=by
 intro pins s σ H x y v u Q I rx ry h
 obtain ⟨rfl,q⟩:=h
 cases ry
 refine is_none_gen (b9 I q ?_)
 cases x <;> first
  | (cases rx; rfl)
  | (obtain ⟨t,rfl⟩:=rx; rfl)
theorem dO (b:Expr) {op:CmpOp} (h:op ≠ .In:=by decide) (h2:op ≠ .NotIn:=by decide):behindInMarks op b=false:=by
 have e1:(op == CmpOp.In)=false:=by cases op <;> first | rfl | exact absurd rfl h
 have e2:(op == CmpOp.NotIn)=false:=by cases op <;> first | rfl | exact absurd rfl h2
 cases b <;> simp [behindInMarks,e1,e2]
theorem F7 {op:CmpOp}{r:R2} (ho:b8 X (compareOp op) r) (ha:PE X a ta) (hb:PE X b tb) (hm:behindInMarks op b=false):PE X (.Compare a [op] [b] pos) (jN r ta tb):=by
 intro pins s σ H Q I h
 exact wpAny_Compare1 (o9 ha hb I h fun v u s2 x y H2 I2 rx ry q=>ho pins s2 σ H2 x y v u Q I2 rx ry q) hm
def F8 (t:TE):TT:=fun σ H Q=>t σ H fun x H'=>∃ k,x = .bl k/\Q k H'
theorem F9 {op:CmpOp}{r:R2} (ho:b8 X (compareOp op) r) (ha:PE X a ta) (hb:PE X b tb) (hm:behindInMarks op b=false):PT X (.Compare a [op] [b] pos) (F8 (jN r ta tb)):=by
 intro pins s σ H Q I h
 refine wpAny_isTrue_Compare1 (aK (ha pins s σ H _ I h) fun v s1 ⟨x,H1,I1,r1,q1⟩=>aK (hb pins s1 σ H1 _ I1 q1) fun u s2 ⟨y,H2,I2,r2,q2⟩=>
  aK (ho pins s2 σ H2 x y v u _ I2 r1 r2 q2) fun c s3 ⟨z,H3,I3,r3,k,e,q3⟩=>?_) hm
 subst e
 cases r3
 exact aA9 ⟨H3,I3,q3⟩
theorem lK:(sizeLine:Nat) < 2 ^ 63:=by rw [sizeLine_eq]; decide
theorem G0:b8 X (binaryOp .Add) (fun x y H Q=>∃ i j,x = .str i/\y = .str j/\i.length+j.length<=sizeLine/\Q (.str (i ++ j)) H):=by
 intro pins s σ H x y v u Q I rx ry h
 obtain ⟨i,j,rfl,rfl,hz,q⟩:=h
 obtain ⟨t,rfl⟩:=rx
 obtain ⟨t',rfl⟩:=ry
 exact add_str (fun t' tk=>⟨.str (i ++ j),H,I.tok _,⟨_,rfl⟩,q⟩) hz
theorem fC {x:V}{us:List Value} (r:aF [x] us):∃ u,us = [u]/\aS x u:=by
 cases r with
 | cons r1 r2=>cases r2; exact⟨_,rfl,r1⟩
theorem jP {x y:V}{us:List Value} (r:aF [x,y] us):∃ u w',us = [u,w']/\aS x u/\aS y w':=by
 cases r with
 | cons r1 r2=>
  cases r2 with
  | cons r3 r4=>cases r4; exact⟨_,_,rfl,r1,r3⟩
theorem G1 (hc:X.calm=true):cB X (.builtin "max") (fun xs H Q=>∃ i j,xs = [.int i,.int j]/\Q (.int (if j > i then j else i)) H):=by
 intro pins s σ H xs us Q I r h
 obtain ⟨i,j,rfl,q⟩:=h
 obtain ⟨u,w',rfl,⟨t,rfl⟩,⟨t',rfl⟩⟩:=jP r
 refine max_two_ints (I.ok.hd hc) fun h' tk k=>⟨_,H,I.kept k,?_,q⟩
 by_cases hj:j > i
 ·rw [if_pos hj,if_pos hj]; exact⟨_,rfl⟩
 ·rw [if_neg hj,if_neg hj]; exact⟨_,rfl⟩
theorem G2 (hc:X.calm=true):cB X (.builtin "min") (fun xs H Q=>∃ i j,xs = [.int i,.int j]/\Q (.int (if j < i then j else i)) H):=by
 intro pins s σ H xs us Q I r h
 obtain ⟨i,j,rfl,q⟩:=h
 obtain ⟨u,w',rfl,⟨t,rfl⟩,⟨t',rfl⟩⟩:=jP r
 refine min_two_ints (I.ok.hd hc) fun h' tk k=>⟨_,H,I.kept k,?_,q⟩
 by_cases hj:j < i
 ·rw [if_pos hj,if_pos hj]; exact⟨_,rfl⟩
 ·rw [if_neg hj,if_neg hj]; exact⟨_,rfl⟩
theorem G3:cB X (.type "int") (fun xs H Q=>(∃ i,xs = [.int i]/\Q (.int i) H) ∨ ∃ k,xs = [.bl k]/\Q (.int (if k then 1 else 0)) H):=by
 intro pins s σ H xs us Q I r h
 rcases h with ⟨i,rfl,q⟩ | ⟨k,rfl,q⟩
 ·obtain ⟨u,rfl,t,rfl⟩:=fC r
  exact call_int_int ⟨.int i,H,I,⟨_,rfl⟩,q⟩
 ·obtain ⟨u,rfl,r1⟩:=fC r
  cases r1
  exact call_int_bool ⟨.int (if k then 1 else 0),H,I.tok _,⟨_,rfl⟩,q⟩
end
structure oG (h:Heap) (x dx C:Addr) (mA:Str->Option Value):Prop where
 obj:h.get? x=some (PySem.W.instObj C dx)
 ns:h.Ns1 dx mA
 ne:dx ≠ x
theorem G4 {h:Heap}{dx:Addr}{mA:Str->Option Value} (n:h.Ns1 dx mA):∃ od,h.get? dx=some od/\∀ name,PySem.W.lookIn name od=some (mA name):=by
 obtain ⟨o,es,ep,ho,hd,hk,_,hm⟩:=n
 refine⟨o,ho,fun name=>?_⟩
 have e:=hm name
 unfold nsFind findBy at e
 rw [<- Array.find?_toList] at e
 unfold PySem.W.lookIn
 rw [hd]
 dsimp only
 split
 ·rename_i y q
  rw [q] at e
  exact congrArg some e
 ·rename_i q
  rw [q] at e
  have a:es.toList.any (·.refKey)=false:=by
   rw [List.any_eq_false]
   intro y hy
   obtain ⟨z,t,hkey⟩:=hk y (Array.mem_toList_iff.mp hy)
   simp [DictEntry.refKey,hkey]
  have a' : ¬ es.toList.any (·.refKey)=true:=by rw [a]; exact at3
  rw [if_neg a']
  exact congrArg some e
theorem oG.look {h:Heap}{x dx C:Addr}{mA:Str->Option Value} (I:oG h x dx C mA):∃ od,PySem.W.InstAt h x (PySem.W.instObj C dx) C (some od)/\∀ name,PySem.W.lookIn name od=some (mA name):=
 let ⟨od,ho,hl⟩:=G4 I.ns
 ⟨od,⟨I.obj,rfl,rfl,ho⟩,hl⟩
section
variable {P : Program} {w : World} {H H' : Hp} {h h' : Heap} {a C dx : Addr} {fs fs' : List (Str × V)}
theorem G5 (hok:bG P w H h) (e:H a=some (.ins C dx fs)):∃ mA,oG h a dx C mA/\(∀ f,nY (fs.lookup f) (mA f))/\PySem.Within mA (fs.map (·.1))/\fs.length<=1000/\H dx=some (.own a):=by
 obtain ⟨d,z,ne,ob,mA,n,r,q⟩:=(show bY P w H h a (.ins C dx fs) from hok a _ e)
 exact⟨mA,⟨ob,n,ne⟩,r,q,z,d⟩
end
structure oH (K:PySem.W.Frag) (C:Addr):Prop where
 pg:PySem.W.plainGet K C Str.empty=true
 hd:PySem.W.hasDictIn K C=true
 po:PySem.W.plainOver K C=true
 sa:PySem.W.findIn K (.ref C) "__setattr__" = some (some (.builtin "object.__setattr__"))
theorem oH.get {K:PySem.W.Frag}{C:Addr} (c:oH K C) (f:Str):PySem.W.plainGet K C f=true:=c.pg
section
variable {X : Cx} {pins : List (Addr × Obj)} {σ : St} {H : Hp} {s : Shared} {A : Around} {E : Value → Shared → Prop} {Q : Value → Shared → Prop} {c : Value} {b : Bool}
inductive dG (K:PySem.W.Frag) (H:Hp):V->Value->Prop where
 | non:dG K H .non (.type "NoneType")
 | bl (x:Bool):dG K H (.bl x) (.type "bool")
 | int (i:Int):dG K H (.int i) (.type "int")
 | str (x:Str):dG K H (.str x) (.type "str")
 | flt (x:UInt64):dG K H (.flt x) (.type "float")
 | lst {a:Addr}{xs:List V} (e:H a=some (.lst xs)):dG K H (.ref a) (.type "list")
 | frz {a:Addr}{o:Obj}{xs:List V} (e:H a=some (.frz o (.lst xs))):dG K H (.ref a) (.type "list")
 | tup {a:Addr}{xs:List V} (e:H a=some (.tup xs)):dG K H (.ref a) (.type "tuple")
 | dK {a:Addr}{kvs:List (aY × V)} (e:H a=some (.dK kvs)):dG K H (.ref a) (.type "dict")
 | dT {a:Addr}{kvs:List (List aY × V)} (e:H a=some (.dT kvs)):dG K H (.ref a) (.type "dict")
 | ins {a C dx:Addr}{fs:List (Str × V)} (e:H a=some (.ins C dx fs)) (cl:oH K C) (ha:PySem.W.findIn K (.ref C) "__class__" = some (some (.builtin "object.__class__")))
   (hn:PySem.W.specialIn K (.builtin "object.__class__") "__get__" = some (some (.builtin "getset_descriptor.__get__"))) (htk:PySem.W.takesIn K (.builtin "object.__class__")=some true)
   (hm:PySem.W.mroIn K C (.type "object")=some true):dG K H (.ref a) (.ref C)
theorem G6 {x:V}{u t:Value} (I:a5 X pins σ H s) (rx:aS x u) (ty:dG X.K H x t) (e:PySem.W.kitOne X.K t c=some b) (h:∀ tk,Q (.bool b) { s with toks:=tk }) :
  wpAny (model X.prog X.w) A (call (.builtin "isinstance") [u,c]) Q E s:=by
 cases ty with
 | non=>cases (show u=Value.none from rx); exact aw4 PySem.W.kitx_none I.kIn True.intro e (fun z=>nomatch z) h
 | bl y=>cases (show u=Value.bool y from rx); exact aw4 PySem.W.kitx_bool I.kIn True.intro e (fun z=>nomatch z) h
 | int i=>obtain ⟨t,q⟩:=(show ∃ t,u=Value.int i t from rx); cases q; exact aw4 PySem.W.kitx_int I.kIn True.intro e (fun z=>nomatch z) h
 | str y=>obtain ⟨t,q⟩:=(show ∃ t,u=Value.str y t from rx); cases q; exact aw4 PySem.W.kitx_str I.kIn True.intro e (fun z=>nomatch z) h
 | flt y=>obtain ⟨t,q⟩:=(show ∃ t,u=Value.float y t from rx); cases q; exact aw4 PySem.W.kitx_float I.kIn True.intro e (fun z=>nomatch z) h
 | @lst a xs ea=>
  cases (show u=Value.ref a from rx)
  obtain ⟨_,_,n,_,h1⟩:=(show bY X.prog X.w H s.heap a (.lst xs) from I.hok a _ ea)
  exact aw4 PySem.W.kitx_list I.kIn ⟨_,h1,rfl⟩ e (fun z=>nomatch z) h
 | @frz a ob xs ea=>
  cases (show u=Value.ref a from rx)
  obtain ⟨_,_,_,n,_,h1⟩:=(show bY X.prog X.w H s.heap a (.frz ob (.lst xs)) from I.hok a _ ea)
  exact aw4 PySem.W.kitx_list I.kIn ⟨_,h1,rfl⟩ e (fun z=>nomatch z) h
 | @tup a xs ea=>
  cases (show u=Value.ref a from rx)
  obtain ⟨_,_,_,p,_⟩:=(show bY X.prog X.w H s.heap a (.tup xs) from I.hok a _ ea)
  obtain ⟨o,h1,h2,_⟩:=p
  exact aw4 PySem.W.kitx_tuple I.kIn ⟨o,h1,h2⟩ e (fun z=>nomatch z) h
 | @dK a kvs ea=>
  cases (show u=Value.ref a from rx)
  obtain ⟨_,_,vs,_,p⟩:=(show bY X.prog X.w H s.heap a (.dK kvs) from I.hok a _ ea)
  obtain ⟨o,es,ep,h1,h2,_⟩:=p
  exact aw4 PySem.W.kitx_dict I.kIn ⟨o,h1,h2.1⟩ e (fun z=>nomatch z) h
 | @dT a kvs ea=>
  cases (show u=Value.ref a from rx)
  obtain ⟨_,_,xs,_,o,es,ep,h1,h2,_⟩:=(show bY X.prog X.w H s.heap a (.dT kvs) from I.hok a _ ea)
  exact aw4 PySem.W.kitx_dict I.kIn ⟨o,h1,h2.1⟩ e (fun z=>nomatch z) h
 | @ins a C dx fs ea cl ha hn htk hm=>
  cases (show u=Value.ref a from rx)
  obtain ⟨mA,O,_⟩:=G5 I.hok ea
  obtain ⟨od,J,_⟩:=O.look
  exact aw4 (PySem.W.kitx_own (cl.get _) cl.hd ha hn htk hm) I.kIn J e (fun z=>nomatch z) h
end
structure bE (k:Nat) (A:Around):Prop where
 hd:A.handled=none
 dp:A.depth+3 * k+5 < recursionLimit
 un:A.units+16 * k+200 < cLine
theorem bE.mono {j k:Nat}{A:Around} (r:bE k A) (h:j<=k):bE j A:=⟨r.hd,by have:=r.dp; omega,by have:=r.un; omega⟩
theorem bE.deeper {k:Nat}{A:Around} (r:bE (k+1) A) (env:Env):bE k (A.deeper env):=
 ⟨r.hd,by have:=r.dp; show A.depth+1+3 * k+5 < _; omega,by have:=r.un; show A.units+3+16 * k+200 < _; omega⟩
theorem bE.depth {k:Nat}{A:Around} (r:bE k A):A.depth < recursionLimit:=by have:=r.dp; omega
theorem bE.units {k:Nat}{A:Around} (r:bE k A):A.units+64 < cLine:=by have:=r.un; omega
def gH:TA:=fun _ H Q=>Q [] H
def fD (ta:TE) (tr:TA):TA:=fun σ H Q=>ta σ H fun x H1=>tr σ H1 fun xs H2=>Q (x :: xs) H2
section
variable {X : Cx} {e : Expr} {es : List Expr} {te : TE} {t : TA} {pos : Pos}
theorem fO:PA X [] gH:=fun _ _ _ _ H Q I h=>Calls.spliced_nil ⟨[],H,I,.nil,h⟩
theorem dP (ha:PE X e te) (hr:PA X es t) (hs:starEach (e :: es) X.env=(false,eval e X.env) :: starEach es X.env:=by rfl):PA X (e :: es) (fD te t):=by
 intro pos pins s σ H Q I h
 rw [hs]
 show wpAny _ _ (spliced ((false,eval e X.env) :: backTo pos (starEach es X.env))) _ _ s
 refine Calls.spliced_cons (aK (ha pins s σ H _ I h) fun u s1 ⟨x,H1,I1,r1,q1⟩=>?_)
 exact aK (hr pos pins s1 σ H1 _ I1 q1) fun us s2 ⟨xs,H2,I2,r2,q2⟩=>⟨x :: xs,H2,I2,.cons r1 r2,q2⟩
def t8 (t:TA):TE:=fun σ H Q=>t σ H fun xs H1=>xs.length<=sizeLine/\∀ p,H1 p=none->Q (.ref p) (upd H1 p (.tup xs))
def t9 (t:TA):TE:=fun σ H Q=>t σ H fun xs H1=>xs.length<=sizeLine/\∀ p,H1 p=none->Q (.ref p) (upd H1 p (.lst xs))
theorem G7 {x1} (h:PA X es t):PE X (.Tuple es x1 pos) (t8 t):=by
 intro pins s σ H Q I hq
 refine wpAny_Tuple_spliced (aK (h pos pins s σ H _ I hq) fun us s1 ⟨xs,H1,I1,r,z,q⟩=>⟨by rw [<- r.length]; exact z,?_⟩)
 have hf:H1 s1.heap.objs.size=none:=I1.hok.fresh (as3 _)
 refine⟨.ref s1.heap.objs.size,upd H1 s1.heap.objs.size (.tup xs),I1.laid (t':=s1.toks) (fun b u e=>ar7 _ e) (as3 _) ?_,rfl,q _ hf⟩
 exact⟨z,us,r,⟨_,au5 _ rfl,rfl,_,rfl⟩,fA.new _ _ rfl⟩
theorem G8 (h:PA X es t):PE X (.List es pos) (t9 t):=by
 intro pins s σ H Q I hq
 refine wpAny_List_spliced (aK (h pos pins s σ H _ I hq) fun us s1 ⟨xs,H1,I1,r,z,q⟩=>⟨by rw [<- r.length]; exact z,?_⟩)
 have hf:H1 s1.heap.objs.size=none:=I1.hok.fresh (as3 _)
 refine⟨.ref s1.heap.objs.size,upd H1 s1.heap.objs.size (.lst xs),I1.laid (t':=s1.toks) (fun b u e=>ar7 _ e) (as3 _) ?_,rfl,q _ hf⟩
 exact⟨z,us,0,r,au5 _ rfl⟩
end
abbrev Sp:=List V->Hp->VK->XK->Prop
abbrev eD:=List Env->Hp->Shared->XK->Value->Shared->Prop
structure lL (P:Program) (w:World) (K:PySem.W.Frag) (mg:Str->Option Value) (base:Heap) (A:Around) (outer:List Env) (s:Shared) (H:Hp):Prop where
 frames:A.frames=some outer
 mod:Mod K mg base
 bs:∀ b o,base.get? b=some o->s.heap.get? b=some o/\H b=none
 bsz:base.objs.size<=s.heap.objs.size
 funs:s.heap.FunFrames base outer
 frf:∀ b ∈ aZ outer,H b=none
 hok:bG P w H s.heap
 bare:AllBare s.gens
def CE (outer:List Env) (P:Program) (w:World) (H:Hp) (s:Shared) (Q:VK) (u:Value) (s':Shared):Prop:=
 ∃ v H',s'.os=s.os/\AllBare s'.gens/\Un (aZ outer) [] H H' s.heap s'.heap/\bG P w H' s'.heap/\aS v u/\Q v H'
def CR (CX:eD) (outer:List Env) (P:Program) (w:World) (H:Hp) (s:Shared) (Q:VK) (E:XK) (r:Result) (s':Shared):Prop:=
 match r with
 | .ok (.ret u)=>CE outer P w H s Q u s'
 | .ok _=>False
 | .error e=>CX outer H s E e s'
structure cI (P:Program) (w:World) (K:PySem.W.Frag) (mg:Str->Option Value) (base:Heap) (CX:eD) (k:Nat) (f:Addr) (fd:FuncData) (ps:List Str) (sp:Sp):Prop where
 len:∀ vs H Q E,sp vs H Q E->vs.length=ps.length
 run:∀ (A:Around) (outer:List Env) (s:Shared) (H:Hp) (args:Args) (us:List Value) (vs:List V) (Q:VK) (E:XK),bE k A->lL P w K mg base A outer s H->BindsTo s fd args (ps.zip us)->aF vs us->sp vs H Q E->
  codeAny (model P w) A (.call (.ref f) args) (CR CX outer P w H s Q E) s
theorem cI.imp {P:Program}{w:World}{K:PySem.W.Frag}{mg:Str->Option Value}{base:Heap}{CX:eD}{k:Nat}{f:Addr}{fd:FuncData}{ps:List Str}{sp sp':Sp} (F:cI P w K mg base CX k f fd ps sp)
  (h:∀ vs H Q E,sp' vs H Q E->sp vs H Q E):cI P w K mg base CX k f fd ps sp':=
 ⟨fun vs H Q E q=>F.len vs H Q E (h _ _ _ _ q),fun A outer s H args us vs Q E hr he hb hv hs=>F.run A outer s H args us vs Q E hr he hb hv (h _ _ _ _ hs)⟩
section
variable {X : Cx} {pins : List (Addr × Obj)} {σ : St} {H : Hp} {s s' : Shared}
theorem a5.env0 (I:a5 X pins σ H s):lL X.prog X.w X.K X.mg X.base X.A X.stack s H:=
 ⟨I.ok.frames,I.ok.mod,I.bs,aw6 I.ok.bsz I.sz,I.stack,I.stkFree,I.hok,I.bare⟩
theorem a5.after {Q:VK}{u:Value} (I:a5 X pins σ H s) (h:CE X.stack X.prog X.w H s Q u s'):EP X pins σ Q u s':=by
 obtain ⟨v,H',os,bare,un,hok,r,q⟩:=h
 obtain ⟨hh,g,d,t,os'⟩:=s'
 obtain rfl:os'=s.os:=os
 exact⟨v,H',I.call (h':=hh) (g':=g) (d':=d) (t':=t) (ch:=[]) un hok bare (fun b z=>absurd z (by simp)),r,q⟩
end
def oI (sp:Sp) (dvs:List V) (E:XK) (t:TA):TE:=fun σ H Q=>t σ H fun vs H1=>sp (vs ++ dvs) H1 Q E
def fP (K:PySem.W.Frag) (fd:FuncData) (ps:List Str) (ds:List Value):Prop:=
 ∀ (s:Shared) (us:List Value),K.In s.heap->(us ++ ds).length=ps.length->BindsTo s fd ⟨us,[]⟩ (ps.zip (us ++ ds))
theorem fP.all {K:PySem.W.Frag}{fd:FuncData}{ps:List Str} (h:∀ us:List Value,us.length=ps.length->bindArgs fd ⟨us,[]⟩=pure (ps.zip us)):fP K fd ps []:=fun s us _ hl=>by
 rw [ax3] at hl ⊢
 exact .of_eq (h us hl)
def jQ (CX:eD) (X:Cx) (E:XK):Prop:=∀ (pins:List (Addr × Obj)) (σ:St) (H:Hp) (s:Shared) (e:Value) (s':Shared),a5 X pins σ H s->CX X.stack H s E e s'->X.xe e s'
section
variable {X : Cx} {CX : eD} {k : Nat} {f C : Addr} {fd : FuncData} {ps : List Str} {sp : Sp} {dvs : List V} {ds : List Value} {E : XK} {x m : Str} {p pos apos : Pos} {e o : Expr} {es : List Expr} {ta : TE} {t : TA}
theorem G9 {pins:List (Addr × Obj)}{σ:St}{H:Hp}{s:Shared}{Q:VK}{us:List Value}{vs:List V} (F:cI X.prog X.w X.K X.mg X.base CX k f fd ps sp) (hr:bE k X.A) (hb:fP X.K fd ps ds) (hd:aF dvs ds) (hx:jQ CX X E)
  (I:a5 X pins σ H s) (r:aF vs us) (h:sp (vs ++ dvs) H Q E):wpAny (model X.prog X.w) X.A (call (.ref f) us) (EP X pins σ Q) X.xe s:=by
 have r2:aF (vs ++ dvs) (us ++ ds):=r.append hd
 have hl:(us ++ ds).length=ps.length:=by rw [<- r2.length]; exact F.len _ _ _ _ h
 refine wpAny_call (codeAny_mono (F.run X.A X.stack s H ⟨us,[]⟩ (us ++ ds) (vs ++ dvs) Q E hr I.env0 (hb s us I.kIn hl) r2 h) fun r s' hq=>?_)
 cases r with
 | error e=>exact hx pins σ H s e s' I hq
 | ok fl=>
  cases fl with
  | ret u=>exact I.after hq
  | next=>exact False.elim hq
  | brk=>exact False.elim hq
  | cont=>exact False.elim hq
theorem oJ (F:cI X.prog X.w X.K X.mg X.base CX k f fd ps sp) (hr:bE k X.A) (hg:Gl X x) (hm:X.mg x=some (.ref f)) (hk:PySem.W.keepIn X.K (.ref f)=true) (hb:fP X.K fd ps ds) (hd:aF dvs ds) (hx:jQ CX X E)
  (ha:PA X (e :: es) t) (hdb:(x == ("__debug__" : Str))=false:=by decide) (he:starEach (e :: es) X.env=(false,eval e X.env) :: starEach es X.env:=by rfl) (hpl:(backTo pos (starEach es X.env)).any (·.1)=false:=by rfl) :
  PE X (.Call (.Name x p) (e :: es) [] pos) (oI sp dvs E t):=by
 intro pins s σ H Q I h
 refine wpAny_Call_Name_kw (jJ I hg hm ?_ hdb)
 refine PySem.W.callWith_K (h₀:=X.base) I.ok.mod.kin hk (aK (ha pos pins s σ H _ I h) fun us s1 ⟨vs,H1,I1,r,q⟩=>⟨I1.kIn,?_⟩) he hpl
 exact G9 F hr hb hd hx I1 r q
end
def PK (X:Cx) (kws:List Keyword) (t:TA):Prop:=
 ∀ (pos:Pos) (pins:List (Addr × Obj)) (s:Shared) (σ:St) (H:Hp) (Q:List V->Hp->Prop),a5 X pins σ H s->t σ H Q->wpAny (model X.prog X.w) X.A (evalAll ((backToKw pos (keywordEach kws X.env)).map (·.2))) (AP X pins σ Q) X.xe s
structure FnScope (N P:List Str) (sc:Scope):Prop where
 kind:sc.kind = .function
 co:sc.isCoroutine=false
 gen:sc.isGenerator=false
 nd:N.Nodup
 pre:N.take P.length=P
 par:∀ x ∈ P,sc.names.lookup x=some .local ∨ sc.names.lookup x=some .cell
 nofree:∀ y ∈ sc.names,y.2 ≠ .free
theorem tD {kindOf:Str->Option NameKind}{x:Str}:∀ {binds:List (Str × Value)}{m:Str->Option Value},(∀ v,(x,v) ∉ binds)->bindL kindOf binds m x=m x
 | [],_,_=>rfl
 | (n,v) :: r,m,h=>by
  unfold bindL
  rw [tD fun w hw=>h w (au4 _ hw)]
  split
  ·have:x ≠ n:=by rintro rfl; exact h v au6
   simp [this]
  ·rfl
theorem tE {kindOf:Str->Option NameKind}{x:Str}:∀ {binds:List (Str × Value)}{m:Str->Option Value},(∀ v,(x,v) ∉ binds)->bindC kindOf binds m x=m x
 | [],_,_=>rfl
 | (n,v) :: r,m,h=>by
  unfold bindC
  rw [tE fun w hw=>h w (au4 _ hw)]
  split
  ·rfl
  ·have:x ≠ n:=by rintro rfl; exact h v au6
   simp [this]
theorem tF {kindOf:Str->Option NameKind}{x:Str}{v:Value}:∀ {P:List Str}{vs:List Value}{i:Nat}{m:Str->Option Value},P.Nodup->P[i]? = some x->vs[i]? = some v->kindOf x=some .local->
  bindL kindOf (P.zip vs) m x=some v
 | [],_,_,_,_,h,_,_=>by simp at h
 | _ :: _,[],_,_,_,_,h,_=>by simp at h
 | p :: P,w :: vs,0,m,nd,h1,h2,hk=>by
  simp at h1 h2; subst h1; subst h2
  show bindL kindOf ((p,w) :: P.zip vs) m p=_
  unfold bindL
  rw [tD fun v hv=>(List.nodup_cons.mp nd).1 (List.of_mem_zip hv).1,if_pos hk]
  simp
 | p :: P,w :: vs,i+1,m,nd,h1,h2,hk=>by
  show bindL kindOf ((p,w) :: P.zip vs) m x=_
  unfold bindL
  exact tF (i:=i) (List.nodup_cons.mp nd).2 (by simpa using h1) (by simpa using h2) hk
theorem tG {kindOf:Str->Option NameKind}{x:Str}{v:Value}:∀ {P:List Str}{vs:List Value}{i:Nat}{m:Str->Option Value},P.Nodup->P[i]? = some x->vs[i]? = some v->kindOf x ≠ some .local->
  bindC kindOf (P.zip vs) m x=some v
 | [],_,_,_,_,h,_,_=>by simp at h
 | _ :: _,[],_,_,_,_,h,_=>by simp at h
 | p :: P,w :: vs,0,m,nd,h1,h2,hk=>by
  simp at h1 h2; subst h1; subst h2
  show bindC kindOf ((p,w) :: P.zip vs) m p=_
  unfold bindC
  rw [tE fun v hv=>(List.nodup_cons.mp nd).1 (List.of_mem_zip hv).1,if_neg hk]
  simp
 | p :: P,w :: vs,i+1,m,nd,h1,h2,hk=>by
  show bindC kindOf ((p,w) :: P.zip vs) m x=_
  unfold bindC
  exact tG (i:=i) (List.nodup_cons.mp nd).2 (by simpa using h1) (by simpa using h2) hk
def eF (N:List Str) (vs:List V):St:=vs.map some ++ List.replicate (N.length - vs.length) none
def cE (CX:eD) (P:Program) (w:World) (K:PySem.W.Frag) (mg:Str->Option Value) (base:Heap) (N:List Str) (qual:Str) (scope:Scope) (f:Addr) (cd:Value) (A:Around) (outer:List Env) (s:Shared) (H:Hp) (E:XK):Cx where
 prog:=P
 w:=w
 K:=K
 mg:=mg
 base:=base
 A:=A.deeper (envOfC qual scope s.heap.objs.size f cd)
 N:=N
 s₀:=s
 H₀:=H
 env:=envOfC qual scope s.heap.objs.size f cd
 outer:=outer
 stack:=envOfC qual scope s.heap.objs.size f cd :: outer
 ex:=[]
 calm:=true
 fn:=fun _=>true
 pn:=[]
 xe:=fun e s'=>wpAny (model P w) (A.deeper (envOfC qual scope s.heap.objs.size f cd)) (leaving (envOfC qual scope s.heap.objs.size f cd) e) (fun _ s''=>CX outer H s E e s'') (fun e' s''=>CX outer H s E e' s'') s'
theorem tH {sc:Scope}{n:Nat}{x:Str} (h:sc.names.lookup x=some .cell):∃ c,(cellsFrom n sc.names []).lookup x=some c:=by
 have q:=PySem.W.cellsFrom_some sc.names n [] (.inl h)
 exact Option.isSome_iff_exists.mp q
theorem J0 {CX:eD}{P:Program}{w:World}{K:PySem.W.Frag}{mg:Str->Option Value}{base:Heap}{N ps:List Str}{qual:Str}{scope:Scope}{f:Addr}{cd:Value}{A:Around}{outer:List Env}{s s1:Shared}{H:Hp}{E:XK}{us:List Value}{vs:List V}
  (S:FnScope N ps scope) (hd:A.handled=none) (e0:lL P w K mg base A outer s H) (hl:vs.length=ps.length) (r:aF vs us)
  (x:InCallC s s.heap.objs.size (bindL (envOfC qual scope s.heap.objs.size f cd).kindOf (ps.zip us) fun _=>none) (cellsFrom (s.heap.objs.size+1) scope.names []) (bindC (envOfC qual scope s.heap.objs.size f cd).kindOf (ps.zip us) fun _=>none) s1) :
  a5 (cE CX P w K mg base N qual scope f cd A outer s H E) [] (eF N vs) H s1:=by
 have hpl:ps.length<=N.length:=by have:=congrArg List.length S.pre; rw [List.length_take] at this; omega
 obtain ⟨h1,tk,rfl,hk⟩:=x.done
 have noA:∀ b:Addr,b ∉ (cE CX P w K mg base N qual scope f cd A outer s H E).ex:=fun b z=>absurd (show b ∈ ([]:List Addr) from z) (by simp)
 refine⟨⟨e0.mod,S.kind,rfl,rfl,as3 _,fun y z c h1 h2=>?_,fun y hy=>?_,fun y c _ h=>?_,fun _=>hd,Around.frames_deeper e0.frames,.inr ⟨rfl,rfl⟩,fun b z=>absurd z (noA b),e0.bs,e0.bsz,fun b _ _=>noA b,fun b z=>absurd z (noA b),e0.funs,e0.frf⟩,
  rfl,e0.bare,Un.kept hk,⟨_,x.toInCall.ns,fun i y v h1 h2 h3=>?_⟩,fun y c h=>⟨_,x.cell y c h⟩,e0.hok.fresh (as3 _),fun y c h=>?_,fun p hp=>absurd (show p ∈ ([]:List (Addr × Obj)) from hp) (by simp),e0.hok.kept hk,?_⟩
 ·exact name_of_addr x.apart (av9 h1) (av9 h2)
 ·have hy:scope.names.lookup y=some .cell ∨ scope.names.lookup y=some .free:=hy
  rcases hy with hy | hy
  ·exact tH hy
  ·exact absurd rfl (S.nofree _ (av9 hy))
 ·exact aA4 (x.above y c (av9 h))
 ·have hi:i < vs.length:=by
   unfold eF at h2
   by_cases hi:i < vs.length
   ·exact hi
   ·rw [aC2 (by simpa using hi)] at h2
    rw [List.getElem?_replicate] at h2
    split at h2 <;> cases h2
  have ha:vs[i]? = some v:=by
   unfold eF at h2
   rw [aA1 (by simpa using hi),au9] at h2
   cases e:vs[i]? with
   | none=>rw [e] at h2; cases h2
   | some a=>rw [e] at h2; cases h2; rfl
  obtain ⟨u,hu,rv⟩:=r.get ha
  have hp:ps[i]? = some y:=by
   rw [<- S.pre,List.getElem?_take_of_lt (by omega)]; exact h1
  have ndP:ps.Nodup:=by rw [<- S.pre]; exact S.nd.sublist (List.take_sublist _ _)
  refine⟨u,rv,?_⟩
  rcases S.par y (List.mem_of_getElem? hp) with k | k
  ·exact .inl ⟨k,tF ndP hp hu k⟩
  ·obtain ⟨c,e⟩:=tH (n:=s.heap.objs.size+1) k
   refine .inr ⟨.inl k,c,e,?_⟩
   have q:=x.cell y c e
   rw [tG ndP hp hu (by show scope.names.lookup y ≠ _; rw [k]; decide)] at q
   exact q
 ·exact e0.hok.fresh (aA4 (x.above y c (av9 h)))
 ·unfold eF
  show _=N.length
  rw [aw7,at4,List.length_replicate]
  omega
theorem tI {CX:eD}{P:Program}{w:World}{K:PySem.W.Frag}{mg:Str->Option Value}{base:Heap}{k:Nat}{f:Addr}{name qual:Str}{params:Arguments}{body:List Stmt}{scope:Scope}{dV kV doc pm cdv ct oc:Value}{an od:Option Addr}
  {osl:Array (Option Value)}{N ps:List Str}{sp:Sp} (lk:K.lookup f=some ⟨oc,od,.func (PySem.W.fnOf name qual params body scope dV kV doc pm an cdv ct),osl⟩) (hcd:PySem.W.codeIn K cdv qual=true) (S:FnScope N ps scope)
  (len:∀ vs H Q E,sp vs H Q E->vs.length=ps.length)
  (hbody:∀ (A:Around) (outer:List Env) (s:Shared) (H:Hp) (vs:List V) (Q:VK) (E:XK),bE k (A.deeper (envOfC qual scope s.heap.objs.size f cdv))->sp vs H Q E->
   ∃ t,cM (cE CX P w K mg base N qual scope f cdv A outer s H E) body t/\t { nx:=fun _ H'=>Q .non H',rt:=Q } (eF N vs) H) :
  cI P w K mg base CX (k+1) f (PySem.W.fnOf name qual params body scope dV kV doc pm an cdv ct) ps sp:=by
 refine⟨len,fun A outer s H args us vs Q E hr e0 hb r hsp=>?_⟩
 have hl:=len _ _ _ _ hsp
 have KX:K.In s.heap:=e0.mod.kin.keeps fun b o e=>(e0.bs b o e).1
 have lim:s.heap.NoLimit:=e0.mod.nolimit.keeps fun b o e=>(e0.bs b o e).1
 have hkind:∀ y ∈ ps.zip us,scope.names.lookup y.1=some .local ∨ (scope.names.lookup y.1=some .cell/\((cellsFrom (s.heap.objs.size+1) scope.names []).lookup y.1).isSome=true):=fun ⟨n,v⟩ hy=>by
  rcases S.par n (List.of_mem_zip hy).1 with q | q
  ·exact .inl q
  ·exact .inr ⟨q,PySem.W.cellsFrom_some _ _ _ (.inl q)⟩
 refine codeAny_call_function hr.depth (KX _ _ lk) rfl S.co S.gen rfl (PySem.W.codeRec_of KX hcd) (hb _ _ _ _ ?_)
 refine wpAny_newFunctionEnv_cells S.kind hkind fun env he s1 x=>?_
 subst he
 refine⟨lim.keeps x.toInCall.keep,codeAny_func ?_⟩
 obtain ⟨t,ht,hq⟩:=hbody A outer s H vs Q E (hr.deeper _) hsp
 have I:a5 (cE CX P w K mg base N qual scope f cdv A outer s H E) [] (eF N vs) H s1:=J0 S hr.hd e0 hl r x
 refine ay1 (ht [] s1 (eF N vs) H _ I hq) (fun fl s' hs=>?_) fun e s' hs=>hs
 have fin:∀ {σ':St}{H':Hp}{v:V}{u:Value},a5 (cE CX P w K mg base N qual scope f cdv A outer s H E) [] σ' H' s'->aS v u->Q v H'->CE outer P w H s Q u s':=
  fun {σ' H' v u} J rv q=>⟨v,H',J.os,J.bare,J.base,J.hok,rv,q⟩
 cases fl with
 | ret u=>
  obtain ⟨v,σ',H',J,rv,q⟩:=hs
  exact fin J rv q
 | next=>
  obtain ⟨σ',H',J,q⟩:=hs
  exact fin (v:=V.non) (u:=Value.none) J rfl q
 | brk=>
  obtain ⟨_,_,_,q⟩:=hs
  exact False.elim q
 | cont=>
  obtain ⟨_,_,_,q⟩:=hs
  exact False.elim q
section
variable {X : Cx} {x : Str} {p pos : Pos} {e : Expr} {es : List Expr} {t : TA} {id T : String} {r : List V → Hp → VK → Prop}
def oK (r:List V->Hp->VK->Prop) (t:TA):TE:=fun σ H Q=>t σ H fun vs H1=>r vs H1 Q
theorem oM (hc:cB X (.builtin id) r) (hg:Gl X x) (hm:X.mg x=none) (hv:bootBuiltins x=some (.builtin id)) (ha:PA X (e :: es) t) (hn:x ≠ "__name__":=by decide) (hdb:(x == ("__debug__" : Str))=false:=by decide)
  (he:starEach (e :: es) X.env=(false,eval e X.env) :: starEach es X.env:=by rfl) (hpl:(backTo pos (starEach es X.env)).any (·.1)=false:=by rfl):PE X (.Call (.Name x p) (e :: es) [] pos) (oK r t):=by
 intro pins s σ H Q I h
 refine wpAny_Call_Name_kw (iI I hg hm hv ?_ hn hdb)
 exact PyProof.Rows.callWith_builtin1 (aK (ha pos pins s σ H _ I h) fun us s1 ⟨vs,H1,I1,r1,q1⟩=>hc pins s1 σ H1 vs us Q I1 r1 q1) he hpl
theorem J1 (hc:cB X (.type T) r) (hg:Gl X x) (hm:X.mg x=none) (hv:bootBuiltins x=some (.type T)) (ha:PA X (e :: es) t) (hn:x ≠ "__name__":=by decide) (hdb:(x == ("__debug__" : Str))=false:=by decide)
  (he:starEach (e :: es) X.env=(false,eval e X.env) :: starEach es X.env:=by rfl) (hpl:(backTo pos (starEach es X.env)).any (·.1)=false:=by rfl):PE X (.Call (.Name x p) (e :: es) [] pos) (oK r t):=by
 intro pins s σ H Q I h
 refine wpAny_Call_Name_kw (iI I hg hm hv ?_ hn hdb)
 exact aB6 (aK (ha pos pins s σ H _ I h) fun us s1 ⟨vs,H1,I1,r1,q1⟩=>hc pins s1 σ H1 vs us Q I1 r1 q1) he hpl
end
end L2
namespace HT
open PySem PyProof.Rows
def bI:List Int->List Int->Bool
 | [],[]=>false
 | [],_ :: _=>true
 | _ :: _,[]=>false
 | x :: xs,y :: ys=>if x=y then bI xs ys else decide (x < y)
theorem gI (x y:Int) (xs ys:List Int):bI (x :: xs) (y :: ys)=if x=y then bI xs ys else decide (x < y):=rfl
theorem oN:bI [] []=false:=rfl
theorem J2 (y:Int) (ys:List Int):bI [] (y :: ys)=true:=rfl
theorem J3 (x:Int) (xs:List Int):bI (x :: xs) []=false:=rfl
theorem J4 (A:Around) (s:Shared) (a:Int) (t:Tok) (c:Int) (u:Tok):∃ e,SeqAt.EqAt A s (.int a t) (.int c u) e/\(e=true ↔ a=c):=
 ⟨(a == c),SeqAt.EqAt.int_int a t c u,by simp⟩
theorem J5 (A:Around) (s:Shared) (a:Int) (t:Tok) (c:Int) (u:Tok) (prog:Program) (w:World) (E:Value->Shared->Prop) (Q:Value->Shared->Prop) (h:Q (.bool (decide (a < c))) s) :
  wpAny (model prog w) A (richCompare .Lt (.int a t) (.int c u)) Q E s:=
 (PyProof.Rows.lt_int h:wpAny (model prog w) A (compareOp .Lt (.int a t) (.int c u)) Q E s)
section
open PySem.SeqAt
open PySem.AutoSeq1 (wpAny_loadPart')
open PySem.MeetsSeq PySem.MeetsSeq2 PySem.MeetsSeq3
theorem J6 (l b:Addr) (items items2:Array Value) (n n2:Nat) (dd dd2:Option Addr) (sl sl2:Array (Option Value)) (ns ms:List Int) (hi:IntsAre items.toList ns) (hj:IntsAre items2.toList ms) :
  Meets (Builtin.«tuple.__lt__» ⟨[.ref l,.ref b],[]⟩)
   (fun _ R s=>s.heap.get? l=some { cls:=.type "tuple",dict:=dd,data:=.seq items n,slots:=sl }/\s.heap.get? b=some { cls:=.type "tuple",dict:=dd2,data:=.seq items2 n2,slots:=sl2 }/\
    R (.ok (.ret (.bool (bI ns ms)))) s):=
 .of_wp fun prog w A R s h=>by
  obtain ⟨hp,g,d,tk,os⟩:=s; obtain ⟨hl,hb,h⟩:=h
  have f2:=AutoSeq1.sub_tuple_tuple
  have z1:items.size=ns.length:=by rw [<- hi.length]; simp
  have z2:items2.size=ms.length:=by rw [<- hj.length]; simp
  wp_walk using wpAny_loadPart' hl,wpAny_loadPart' hb,wpAny_forIn_list _ (fun bU b s'=>b.1=none/\s'=⟨hp,g,d,tk,os⟩/\∃ (vs ws:List Value) (ns' ms':List Int),bU=vs.zip ws/\
   IntsAre vs ns'/\IntsAre ws ms'/\ns'.length+items2.size=ms'.length+items.size/\R (.ok (.ret (.bool (bI ns' ms')))) ⟨hp,g,d,tk,os⟩) _
  case turn=>
   rintro ⟨y,x⟩ bU b s' ⟨hb',rfl,vs,ws,ns',ms',hz,hvi,hwi,hlen,hR⟩
   cases hvi with
   | nil=>rw [List.zip_nil_left] at hz; cases hz
   | cons a t hvi'=>
    cases hwi with
    | nil=>rw [List.zip_nil_right] at hz; cases hz
    | cons c u hwi'=>
     rw [aC3] at hz
     injection hz with hyx hrest
     injection hyx with hy hx
     subst hy hx
     rw [gI] at hR
     simp only [aB9] at hlen
     obtain ⟨e,he,hiff⟩:=J4 A.in1 ⟨hp,g,d,tk,os⟩ a t c u
     refine ar6 (he prog w _ _ ?_)
     cases e with
     | true=>
      rw [if_pos (hiff.mp rfl)] at hR
      wp_walk
      exact⟨rfl,rfl,_,_,_,_,hrest,hvi',hwi',by omega,hR⟩
     | false=>
      rw [if_neg (fun q=>absurd (hiff.mpr q) at3)] at hR
      have hri:=J5 A.in1 ⟨hp,g,d,tk,os⟩ a t c u prog w
      wp_walk using hri
      exact⟨_,rfl,by simpa using hR⟩
  case fin=>
   rintro ⟨b1,b2⟩ s' ⟨hb',rfl,vs,ws,ns',ms',hz,hvi,hwi,hlen,hR⟩
   simp only at hb'
   subst hb'
   have hv:bI ns' ms'=decide (items.size < items2.size):=by
    cases hvi with
    | nil=>
     cases hwi with
     | nil=>
      simp only [List.length_nil] at hlen
      rw [oN]
      exact (as0 (by omega)).symm
     | cons c u hw=>
      simp only [List.length_nil,aB9] at hlen
      rw [J2]
      exact (at0 (by omega)).symm
    | cons a t hv=>
     cases hwi with
     | nil=>
      simp only [List.length_nil,aB9] at hlen
      rw [J3]
      exact (as0 (by omega)).symm
     | cons c u hw=>
      rw [aC3] at hz
      cases hz
   rw [hv] at hR
   wp_walk
   exact⟨_,rfl,by simpa [Builtin.Tuple.tupleCompareSizes] using hR⟩
  case h=>
   exact⟨rfl,rfl,items.toList,items2.toList,ns,ms,rfl,hi,hj,by omega,h⟩
end
section
variable {prog : Program} {w : World} {A : Around} {E : Value → Shared → Prop} {s : Shared}
theorem J7 {l b:Addr}{items items2:Array Value}{ns ms:List Int}{Q:Value->Shared->Prop} (hl:IsTup s.heap l items) (hb:IsTup s.heap b items2) (hi:IntsAre items.toList ns) (hj:IntsAre items2.toList ms)
  (hu:A.units < cLine) (h:Q (.bool (bI ns ms)) s):wpAny (model prog w) A (compareOp .Lt (.ref l) (.ref b)) Q E s:=by
 obtain ⟨⟨cls,dd,data,sl⟩,ho,hc,n,hd⟩:=id hl
 obtain ⟨⟨cls2,dd2,data2,sl2⟩,ho2,hc2,n2,hd2⟩:=id hb
 simp only at hc hd hc2 hd2
 subst hc hd hc2 hd2
 exact richCompare_meets_room (op:=.Lt) ⟨_,ho,rfl⟩ ⟨_,ho2,rfl⟩ PySem.F.slot_tuple_lt PySem.F.entry_tuple_lt (PySem.F.args_tuple_lt_2 _ _) (J6 l b items items2 n n2 dd dd2 sl sl2 ns ms hi hj)
  ⟨ho,ho2,show Value.bool (bI ns ms) ≠ Value.notImplemented/\Q (.bool (bI ns ms)) s from ⟨(fun x=>nomatch x),h⟩⟩ hu
def aL (n d:Nat):Option Int->Nat
 | none=>d
 | some v=>if v < 0 then (v+(n:Int)).toNat else min v.toNat n
theorem J8 (n d:Nat) (hd:d<=n) (o:Option Int):aL n d o<=n:=by
 cases o with
 | none=>exact hd
 | some v=>
  show (if v < 0 then (v+(n:Int)).toNat else min v.toNat n)<=n
  by_cases hv:v < 0
  ·rw [if_pos hv]; omega
  ·rw [if_neg hv]; exact Nat.min_le_right _ _
theorem tJ (v:Int) (n d:Nat):(if v < 0 then max (v+(n:Int)) 0 else min v (n:Int))=((aL n d (some v):Nat):Int):=by
 show (if v < 0 then max (v+(n:Int)) 0 else min v (n:Int))=(((if v < 0 then (v+(n:Int)).toNat else min v.toNat n):Nat):Int)
 by_cases hv:v < 0
 ·simp only [if_pos hv]; omega
 ·simp only [if_neg hv]; omega
theorem K0 (lo hi:Option Int) (n:Nat):Builtin.Slice.sliceAdjust lo hi 1 (n:Int)=(((aL n 0 lo:Nat):Int),((aL n n hi:Nat):Int)):=by
 have h1 : ¬ ((1:Int) < 0):=by omega
 unfold Builtin.Slice.sliceAdjust
 simp only [h1,aD2]
 refine Prod.ext ?_ ?_
 ·cases lo with
  | none=>rfl
  | some v=>exact tJ v n 0
 ·cases hi with
  | none=>rfl
  | some v=>exact tJ v n n
theorem K1 (i j:Nat):Builtin.Slice.slicePlaces (i:Int) (j:Int) 1=j - i:=by
 unfold Builtin.Slice.slicePlaces
 have h1:(1:Int) > 0:=by omega
 simp only [h1,if_true,Int.ediv_one]
 split <;> omega
theorem tK {v:Value}{o:Option Int}{Q:Option Int->Shared->Prop} (p:IsPart v o) (h:Q o s):wpAny (model prog w) A (Builtin.Slice.slicePartIndex v) Q E s:=by
 cases p with
 | none=>exact slicePart_none h
 | int i t=>exact slicePart_int h
theorem tL {sl:Addr}{vl vu:Value}{lo hi:Option Int}{n:Nat}{Q:Int × Int × Nat->Shared->Prop} (hs:s.heap.IsSliceOf sl vl vu .none) (pl:IsPart vl lo) (pu:IsPart vu hi)
  (h:Q (((aL n 0 lo:Nat):Int),1,aL n n hi - aL n 0 lo) s):wpAny (model prog w) A (Builtin.Slice.sliceApplied (.ref sl) (pure (n:Int))) Q E s:=by
 obtain ⟨os,hos,hcs,hds⟩:=id hs
 unfold Builtin.Slice.sliceApplied Builtin.Slice.sliceFields
 refine ar6 (ar6 (ay7 hos hds (x:=vl) rfl (ar6 (ay7 hos hds (x:=vu) rfl (ar6 (ay7 hos hds (x:=.none) rfl (as2 ?_)))))))
 refine ar6 (slicePart_none ?_)
 show wpAny _ _ (if ((1:Int) == 0)=true then _ else _) _ _ s
 rw [if_neg (by decide)]
 refine ar6 (tK pl (ar6 (tK pu (ar6 (as2 ?_)))))
 show wpAny _ _ (match Builtin.Slice.sliceAdjust lo hi 1 (n:Int) with | (lo,hi)=>pure (lo,(1:Int),Builtin.Slice.slicePlaces lo hi 1)) _ _ s
 rw [K0 lo hi n]
 show wpAny _ _ (pure (((aL n 0 lo:Nat):Int),(1:Int),Builtin.Slice.slicePlaces ((aL n 0 lo:Nat):Int) ((aL n n hi:Nat):Int) 1)) _ _ s
 rw [K1]
 exact as2 h
theorem K2 (xs:Array Value) (i k:Nat):((List.range k).filterMap fun (m:Nat)=>xs[((i:Int)+(m:Int) * 1).toNat]?).toArray=((xs.toList.drop i).take k).toArray:=by
 have e:(fun (m:Nat)=>xs[((i:Int)+(m:Int) * 1).toNat]?)=fun m=>xs[i+m]?:=by
  funext m
  have:((i:Int)+(m:Int) * 1).toNat=i+m:=by omega
  rw [this]
 rw [e]
 have:=pick_run xs i k
 rw [List.filterMap_map] at this
 have e2:((fun x=>xs[x]?) ∘ fun x=>i+x)=fun m=>xs[i+m]?:=rfl
 rw [e2] at this
 rw [this]
theorem K3 {t sl:Addr}{items:Array Value}{vl vu:Value}{lo hi:Option Int}{Q:Value->Shared->Prop} (ht:IsTup s.heap t items) (hs:s.heap.IsSliceOf sl vl vu .none) (pl:IsPart vl lo) (pu:IsPart vu hi)
  (hw : ¬ (aL items.size 0 lo=0/\aL items.size items.size hi=items.size))
  (h:Q (.ref s.heap.objs.size) { s with heap:=s.heap.push { cls:=.type "tuple",data:=.seq ((items.toList.drop (aL items.size 0 lo)).take (aL items.size items.size hi - aL items.size 0 lo)).toArray } })
  (hsz:items.size<=sizeLine):wpAny (model prog w) A (getItem (.ref t) (.ref sl)) Q E s:=by
 have htake:sizeOk (.seq ((items.toList.drop (aL items.size 0 lo)).take (aL items.size items.size hi - aL items.size 0 lo)).toArray):=by
  show ((items.toList.drop (aL items.size 0 lo)).take (aL items.size items.size hi - aL items.size 0 lo)).toArray.size<=sizeLine
  rw [ar8,List.length_take,aC0,ax0]
  omega
 have hj:aL items.size items.size hi<=items.size:=J8 _ _ (as3 _) hi
 obtain ⟨os,hos,hcs,hds⟩:=id hs
 have hTs:s.TypeIs (.ref sl) "slice":=⟨os,hos,hcs⟩
 unfold getItem
 try with_reducible refine aB8 ?_
 first | refine ar6 (as2 ?_) | skip
 refine ar6 (wpAny_sequenceKey ht.typeIs (by decide) ?_)
 refine ar6 (az6 (name:=Str.ofString "__getitem__") ht.typeIs aA0
  (aA2 aA0 ht.typeIs entry_tuple_getitem ?_ (args_tuple_getitem _ _)))
 show wpAny _ _ (Builtin.Tuple.tupleItemsOf (.ref t) >>= _) _ _ s
 refine ar6 (tupleItemsOf_ ht ?_)
 refine ar6 (wpAny_typeOf hTs ?_)
 rw [if_pos (by decide)]
 refine ar6 (tL hs pl pu ?_)
 have hno : ¬ ((((aL items.size 0 lo:Nat):Int) == 0 && (1:Int) == 1 && (aL items.size items.size hi - aL items.size 0 lo) == items.size)=true):=by
  intro q
  rw [az7,az7] at q
  have q1:((aL items.size 0 lo:Nat):Int)=0:=eq_of_beq q.1.1
  have q2:aL items.size items.size hi - aL items.size 0 lo=items.size:=eq_of_beq q.2
  exact hw ⟨by omega,by omega⟩
 show wpAny _ _ (if (((aL items.size 0 lo:Nat):Int) == 0 && (1:Int) == 1 && (aL items.size items.size hi - aL items.size 0 lo) == items.size)=true then _ else _) _ _ s
 rw [if_neg hno,K2]
 first
  | exact ar6 (m:=Builtin.Tuple.tupleExact _) (aB0 (as2 ⟨_,rfl,as2 h⟩) htake)
  | exact ar6 (m:=Builtin.Tuple.tupleExact _) (aB0 (ar6 (as2 (as2 ⟨_,rfl,as2 h⟩))) htake)
  | exact ar6 (ar6 (m:=Builtin.Tuple.tupleExact _) (aB0 (as2 (as2 ⟨_,rfl,as2 h⟩)) htake))
  | exact ar6 (ar6 (m:=Builtin.Tuple.tupleExact _) (aB0 (as2 ⟨_,rfl,as2 h⟩) htake))
end
end HT
namespace L2
open PySem PySem.Spec PyProof.Rows
abbrev TO:=St->Hp->(Option Int->Hp->Prop)->Prop
def PO (X:Cx) (e:Option Expr) (t:TO):Prop:=
 ∀ (pins:List (Addr × Obj)) (s:Shared) (σ:St) (H:Hp) (Q:Option Int->Hp->Prop),a5 X pins σ H s->t σ H Q->
  wpAny (model X.prog X.w) X.A (evalPart e X.env) (fun u s'=>∃ o H',a5 X pins σ H' s'/\IsPart u o/\Q o H') X.xe s
def K4:TO:=fun _ H Q=>Q none H
def K5 (t:TE):TO:=fun σ H Q=>t σ H fun x H1=>∃ i,x = .int i/\Q (some i) H1
theorem jR {ns:List Int}:∀ {us:List Value},aF (ns.map V.int) us->IntsAre us ns:=by
 induction ns with
 | nil=>intro us r; rw [List.map_nil] at r; cases r; exact .nil
 | cons n ns ih=>
  intro us r
  rw [List.map_cons] at r
  cases r with
  | cons r1 r2=>
   obtain ⟨t,e⟩:=r1
   subst e
   exact .cons n t (ih r2)
section
variable {X : Cx} {e : Expr} {te : TE} {lo hi : Option Expr} {tl th : TO} {pos p2 : Pos}
theorem K6:PO X none K4:=by
 intro pins s σ H Q I h
 rw [evalPart_none]
 exact as2 ⟨none,H,I,.none,h⟩
theorem K7 (h:PE X e te):PO X (some e) (K5 te):=by
 intro pins s σ H Q I hw
 rw [evalPart_some]
 refine aK (h pins s σ H _ I hw) fun u s1 ⟨x,H1,I1,r1,q1⟩=>?_
 obtain ⟨i,rfl,q⟩:=q1
 obtain ⟨t,rfl⟩:=r1
 exact⟨some i,H1,I1,.int i t,q⟩
def gJ (X:Cx) (r:V->Option Int->Option Int->Hp->VK->Prop):Prop:=
 ∀ (pins:List (Addr × Obj)) (s:Shared) (σ:St) (H:Hp) (x:V) (v vl vu:Value) (lo hi:Option Int) (sl:Addr) (Q:VK),a5 X pins σ H s->aS x v->s.heap.IsSliceOf sl vl vu .none->IsPart vl lo->IsPart vu hi->r x lo hi H Q->
  ∃ T id,typeLookup (.type T) "__getitem__" = pure (some (.builtin id))/\s.TypeIs v T/\wpAny (model X.prog X.w) X.A (getItem v (.ref sl)) (EP X pins σ Q) X.xe s
theorem gJ.or {r r':V->Option Int->Option Int->Hp->VK->Prop} (h:gJ X r) (h':gJ X r'):gJ X (fun x lo hi H Q=>r x lo hi H Q ∨ r' x lo hi H Q):=by
 intro pins s σ H x v vl vu lo hi sl Q I rx hs pl pu q
 rcases q with q | q
 ·exact h pins s σ H x v vl vu lo hi sl Q I rx hs pl pu q
 ·exact h' pins s σ H x v vl vu lo hi sl Q I rx hs pl pu q
def K8 (r:V->Option Int->Option Int->Hp->VK->Prop) (te:TE) (tl th:TO):TE:=fun σ H Q=>te σ H fun x H1=>tl σ H1 fun l H2=>th σ H2 fun u H3=>r x l u H3 Q
theorem K9 {r:V->Option Int->Option Int->Hp->VK->Prop} (hr:gJ X r) (he:PE X e te) (hl:PO X lo tl) (hu:PO X hi th):PE X (.Subscript e (.Slice lo hi none p2) pos) (K8 r te tl th):=by
 intro pins s σ H Q I h
 refine Subscript_ (aK (he pins s σ H _ I h) fun v s1 ⟨x,H1,I1,r1,q1⟩=>?_)
 refine wpAny_Slice (aK (hl pins s1 σ H1 _ I1 q1) fun vl s2 ⟨l,H2,I2,pl,q2⟩=>aK (hu pins s2 σ H2 _ I2 q2) fun vu s3 ⟨u,H3,I3,pu,q3⟩=>?_)
 rw [evalPart_none]
 refine as2 ?_
 have I4:a5 X pins σ H3 { s3 with heap:=s3.heap.push { cls:=.type "slice",data:=.fields #[vl,vu,.none] } }:=I3.kept (t':=s3.toks) fun b ob q=>ar7 _ q
 obtain ⟨T,id,hT,ht,hg⟩:=hr pins { s3 with heap:=s3.heap.push { cls:=.type "slice",data:=.fields #[vl,vu,.none] } } σ H3 x v vl vu l u s3.heap.objs.size Q I4 r1 (Heap.IsSliceOf.new ..) pl pu q3
 show wpAny (model X.prog X.w) X.A (subscriptTail e (.Slice lo hi none p2) v (.ref s3.heap.objs.size)) (EP X pins σ Q) X.xe { s3 with heap:=s3.heap.push { cls:=.type "slice",data:=.fields #[vl,vu,.none] } }
 exact tail_any (ops:=[.ref s3.heap.objs.size,v]) ht hT hg (by with_unfolding_all rfl)
def eN (xs:List V) (lo hi:Option Int):List V:=(xs.drop (HT.aL xs.length 0 lo)).take (HT.aL xs.length xs.length hi - HT.aL xs.length 0 lo)
theorem tM (xs:List V) (lo hi:Option Int):(eN xs lo hi).length<=xs.length:=by
 unfold eN
 rw [List.length_take,aC0]
 omega
def L4 (K:PySem.W.Frag):V->Option Int->Option Int->Hp->VK->Prop:=fun x lo hi H Q=>∃ a xs,x = .ref a/\aG K H a xs/\
 ¬ (HT.aL xs.length 0 lo=0/\HT.aL xs.length xs.length hi=xs.length)/\∀ p,H p=none->Q (.ref p) (upd H p (.tup (eN xs lo hi)))
theorem L5:gJ X (L4 X.K):=by
 intro pins s σ H x v vl vu lo hi sl Q I rx hs pl pu h
 obtain ⟨a,xs,rfl,hx,hw,q⟩:=h
 cases rx
 obtain ⟨its,r,ht,hz⟩:=I.tuple hx
 have hlen:its.toArray.size=xs.length:=by rw [ar8]; exact r.length.symm
 refine⟨"tuple",_,PyProof.Rows.slot_tuple_getitem.lookup,ht.typeIs,?_⟩
 refine HT.K3 ht hs pl pu (by rw [hlen]; exact hw) ?_ (by rw [hlen]; exact hz)
 rw [hlen]
 refine⟨.ref s.heap.objs.size,_,I.laid (t':=s.toks) (o:=.tup (eN xs lo hi)) (fun b ob q=>ar7 _ q) (as3 _) ?_,rfl,q _ (I.hok.fresh (as3 _))⟩
 exact⟨aw6 (tM xs lo hi) hz,_,(r.drop (HT.aL xs.length 0 lo)).take (HT.aL xs.length xs.length hi - HT.aL xs.length 0 lo),IsTup.new _ _,fA.new _ _ rfl⟩
def oO (K:PySem.W.Frag):R2:=fun x y H Q=>∃ a b ns ms,x = .ref a/\y = .ref b/\aG K H a (ns.map V.int)/\aG K H b (ms.map V.int)/\Q (.bl (HT.bI ns ms)) H
theorem L6 (hu:X.A.units < cLine):b8 X (compareOp .Lt) (oO X.K):=by
 intro pins s σ H x y v u Q I rx ry h
 obtain ⟨a,b,ns,ms,rfl,rfl,ha,hb,q⟩:=h
 cases rx
 cases ry
 obtain ⟨its,r1,p1,_⟩:=I.tuple ha
 obtain ⟨its2,r2,p2,_⟩:=I.tuple hb
 have i1:IntsAre its.toArray.toList ns:=jR r1
 have i2:IntsAre its2.toArray.toList ms:=jR r2
 exact HT.J7 p1 p2 i1 i2 hu ⟨.bl (HT.bI ns ms),H,I,rfl,q⟩
theorem aF.nil_iff {xs:List V}{us:List Value} (r:aF xs us):us = [] ↔ xs = []:=by
 cases r with
 | nil=>simp
 | cons _ _=>simp
end
def hI (n:Nat) (i:Int):Option Nat:=if 0<=i then (if i < n then some i.toNat else none) else if -(n:Int)<=i then some (i+n).toNat else none
def atI {α:Type} (xs:List α) (i:Int):Option α:=(hI xs.length i).bind fun j=>xs[j]?
theorem L7 {n:Nat}{i:Int}{j:Nat} (h:hI n i=some j):seqIndex? i n=some j/\j < n/\-(n:Int)<=i/\i < n:=by
 unfold hI at h
 by_cases h0:0<=i
 ·rw [if_pos h0] at h
  by_cases h1:i < n
  ·rw [if_pos h1] at h
   have e:i.toNat=j:=av0 h
   exact⟨by rw [seqIndex_of h0 h1,e],by omega,by omega,h1⟩
  ·rw [if_neg h1] at h; cases h
 ·rw [if_neg h0] at h
  by_cases h1 : -(n:Int)<=i
  ·rw [if_pos h1] at h
   have e:(i+n).toNat=j:=av0 h
   exact⟨by rw [seqIndex_neg (by omega) h1,e],by omega,h1,by omega⟩
  ·rw [if_neg h1] at h; cases h
theorem oP {α:Type}{xs:List α}{i:Int}{v:α} (h:atI xs i=some v):∃ j,seqIndex? i xs.length=some j/\xs[j]? = some v/\j < xs.length/\-(xs.length:Int)<=i/\i < xs.length:=by
 unfold atI at h
 cases e:hI xs.length i with
 | none=>rw [e] at h; cases h
 | some j=>
  rw [e] at h
  obtain ⟨h1,h2,h3,h4⟩:=L7 e
  exact⟨j,h1,h,h2,h3,h4⟩
theorem tN {α:Type}{xs:List α}{j:Nat}{v:α} (h:xs[j]? = some v):atI xs (j:Int)=some v:=by
 have hj:j < xs.length:=(au3.mp h).1
 have e:hI xs.length (j:Int)=some j:=by
  unfold hI
  rw [if_pos (by omega),if_pos (by omega)]; simp
 unfold atI; rw [e]; exact h
def tO (b:Expr):Prop:=∀ o i,subscripted b false o i=operate [o,i] (getItem o i)
def fQ (X:Cx) (r:R2):Prop:=
 ∀ (value slice:Expr) (pins:List (Addr × Obj)) (s:Shared) (σ:St) (H:Hp) (x y:V) (v u:Value) (Q:VK),a5 X pins σ H s->aS x v->aS y u->r x y H Q->
  subscripted slice false v u=operate [v,u] (getItem v u)->wpAny (model X.prog X.w) X.A (subscriptTail value slice v u) (EP X pins σ Q) X.xe s
def L8 (X:Cx) (id:String) (r:V->List V->Hp->VK->Prop):Prop:=
 ∀ (pins:List (Addr × Obj)) (s:Shared) (σ:St) (H:Hp) (x:V) (xs:List V) (v:Value) (us:List Value) (Q:VK),a5 X pins σ H s->aS x v->aF xs us->r x xs H Q->
  wpAny (model X.prog X.w) X.A (call (.builtin id) (v :: us)) (EP X pins σ Q) X.xe s
section
variable {X : Cx} {a b : Expr} {ta tb : TE} {pos : Pos}
theorem fQ.or {r r':R2} (h:fQ X r) (h':fQ X r'):fQ X (fun x y H Q=>r x y H Q ∨ r' x y H Q):=by
 intro value slice pins s σ H x y v u Q I rx ry q hs
 rcases q with q | q
 ·exact h value slice pins s σ H x y v u Q I rx ry q hs
 ·exact h' value slice pins s σ H x y v u Q I rx ry q hs
theorem L9 {r:R2} (hr:fQ X r) (ha:PE X a ta) (hb:PE X b tb) (hs:tO b):PE X (.Subscript a b pos) (jN r ta tb):=by
 intro pins s σ H Q I h
 exact Subscript_ (o9 ha hb I h fun v u s2 x y H2 I2 rx ry q=>hr a b pins s2 σ H2 x y v u Q I2 rx ry q (hs _ _))
def tP (K:PySem.W.Frag):R2:=fun x y H Q=>∃ p xs i v,x = .ref p/\y = .int i/\aJ K H p xs/\atI xs i=some v/\Q v H
def tQ (K:PySem.W.Frag):R2:=fun x y H Q=>∃ p xs i v,x = .ref p/\y = .int i/\aG K H p xs/\atI xs i=some v/\Q v H
def tR:R2:=fun x y H Q=>∃ z i c,x = .str z/\y = .int i/\z.length<=sizeLine/\atI z.cps.toList i=some c/\Q (.str ⟨#[c]⟩) H
theorem M0:fQ X (tP X.K):=by
 intro value slice pins s σ H x y v u Q I rx ry h hs
 obtain ⟨p,xs,i,z,rfl,rfl,hq,he,q⟩:=h
 cases rx
 obtain ⟨t,rfl⟩:=ry
 obtain ⟨its,r,pl,hz⟩:=I.list hq
 obtain ⟨j,h1,h2,h3,h4,h5⟩:=oP he
 obtain ⟨w,ew,rw'⟩:=r.get h2
 have hl:=r.length
 have hn:=lK
 have fin:EP X pins σ Q w s:=⟨z,H,I,rw',q⟩
 by_cases h0:0<=i
 ·have hj:i.toNat=j:=by
   rw [seqIndex_of h0 h5] at h1
   exact av0 h1
  exact item_listR pl.isList h0 (by omega) (by rw [hj]; simpa using ew) fin hs
 ·have hj:(i+(its.toArray.size:Int)).toNat=j:=by
   rw [seqIndex_neg (by omega) h4] at h1
   rw [ar8,<- hl]
   exact av0 h1
  exact subscriptTail_builtinR (x:=w) pl.isList.typeIs slot_list_getitem.lookup
   (wpAny_getItem_list_neg (Q:=fun r s'=>r=w/\EP X pins σ Q r s') pl.isList (by omega) (by rw [ar8] <;> omega) (by omega) (by rw [hj]; simpa using ew) ⟨rfl,fin⟩) hs
theorem M3:fQ X (tQ X.K):=by
 intro value slice pins s σ H x y v u Q I rx ry h hs
 obtain ⟨p,xs,i,z,rfl,rfl,hq,he,q⟩:=h
 cases rx
 obtain ⟨t,rfl⟩:=ry
 obtain ⟨its,r,pl,hz⟩:=I.tuple hq
 obtain ⟨j,h1,h2,h3,h4,h5⟩:=oP he
 obtain ⟨w,ew,rw'⟩:=r.get h2
 have hl:=r.length
 have hn:=lK
 have fin:EP X pins σ Q w s:=⟨z,H,I,rw',q⟩
 exact subscriptTail_builtinR (x:=w) pl.typeIs slot_tuple_getitem.lookup
  (getItem_tuple (j:=j) (Q:=fun r s'=>r=w/\EP X pins σ Q r s') pl (by omega) (by omega) (by rw [ar8,<- hl]; exact h1) (by simpa using ew) ⟨rfl,fin⟩) hs
theorem M4:fQ X tR:=by
 intro value slice pins s σ H x y v u Q I rx ry h hs
 obtain ⟨z,i,c,rfl,rfl,hz,he,q⟩:=h
 obtain ⟨t,rfl⟩:=rx
 obtain ⟨t',rfl⟩:=ry
 obtain ⟨j,h1,h2,h3,h4,h5⟩:=oP he
 have hl:z.cps.toList.length=z.length:=by simp [Str.length]
 rw [hl] at h1 h4 h5
 have hn:=lK
 exact tail_any (typeIs_str s z t) slot_str_getitem.lookup (getItem_str (c:=c) (by
  have e1:decide (i < -(2 ^ 63:Int))=false:=as0 (by omega)
  have e2:decide (i >= 2 ^ 63)=false:=as0 (by omega)
  rw [e1,e2,Bool.or_false]) (by rw [h1]; simpa using h2) ⟨.str ⟨#[c]⟩,H,I.tok _,⟨_,rfl⟩,q⟩) hs
def tS (K:PySem.W.Frag):R2:=fun x y H Q=>tP K x y H Q ∨ tQ K x y H Q ∨ tR x y H Q
theorem M5:fQ X (tS X.K):=M0.or (M3.or M4)
theorem M6 (lo hi:Option Int) (n:Nat):(sliceBounds lo hi none n).1=((HT.aL n 0 lo:Nat):Int)/\(sliceBounds lo hi none n).2.1=((HT.aL n n hi:Nat):Int)/\(sliceBounds lo hi none n).2.2=1:=by
 refine⟨?_,?_,rfl⟩
 ·cases lo with
  | none=>simp [sliceBounds,HT.aL]
  | some i=>
   simp only [sliceBounds,HT.aL,Option.getD_none,show (1:Int) > 0 by decide,if_true]
   by_cases h:i < 0
   ·simp only [h,if_true] <;> omega
   ·simp only [h,aD2] <;> omega
 ·cases hi with
  | none=>simp [sliceBounds,HT.aL]
  | some i=>
   simp only [sliceBounds,HT.aL,Option.getD_none,show (1:Int) > 0 by decide,if_true]
   by_cases h:i < 0
   ·simp only [h,if_true] <;> omega
   ·simp only [h,aD2] <;> omega
theorem M7 (its:List Value) (lo hi:Option Int):slicePick its.toArray lo hi none=((its.drop (HT.aL its.length 0 lo)).take (HT.aL its.length its.length hi - HT.aL its.length 0 lo)).toArray:=by
 obtain ⟨h1,h2,h3⟩:=M6 lo hi its.toArray.size
 unfold slicePick
 rw [h1,h2,h3]
 simp only [sliceRange_one,pick_run,ar8] <;> rfl
def M8 (K:PySem.W.Frag):V->Option Int->Option Int->Hp->VK->Prop:=fun x lo hi H Q=>∃ a xs,x = .ref a/\aJ K H a xs/\∀ p,H p=none->Q (.ref p) (upd H p (.lst (eN xs lo hi)))
theorem M9:gJ X (M8 X.K):=by
 intro pins s σ H x v vl vu lo hi sl Q I rx hs pl pu h
 obtain ⟨a,xs,rfl,hx,q⟩:=h
 cases rx
 obtain ⟨its,r,ht,hz⟩:=I.list hx
 have hlen:=r.length
 refine⟨"list",_,slot_list_getitem.lookup,ht.isList.typeIs,?_⟩
 refine wpAny_getItem_list_slice ht.isList hs pl pu .none (by simp) ?_ (by rw [ar8] <;> omega)
 rw [M7,<- hlen]
 refine⟨.ref s.heap.objs.size,_,I.laid (t':=s.toks) (o:=.lst (eN xs lo hi)) (fun b ob q=>ar7 _ q) (as3 _) ?_,rfl,q _ (I.hok.fresh (as3 _))⟩
 exact⟨aw6 (tM xs lo hi) hz,_,0,(r.drop (HT.aL xs.length 0 lo)).take (HT.aL xs.length xs.length hi - HT.aL xs.length 0 lo),au5 _ rfl⟩
theorem N0:cB X (.builtin "len") (fun xs H Q=>∃ p ys,xs = [.ref p]/\(aJ X.K H p ys ∨ aG X.K H p ys)/\Q (.int ys.length) H):=by
 intro pins s σ H xs us Q I r h
 obtain ⟨p,ys,rfl,hq,q⟩:=h
 obtain ⟨u,rfl,rx⟩:=fC r
 cases rx
 have hn:=lK
 rcases hq with hq | hq
 ·obtain ⟨its,r',pl,hz⟩:=I.list hq
  have hlen:=r'.length
  exact Calls.call_len_list pl.isList (by simp only [ar8] <;> omega) ⟨.int ys.length,H,I.tok _,⟨s.toks+1,by rw [ar8,hlen]⟩,q⟩
 ·obtain ⟨its,r',pl,hz⟩:=I.tuple hq
  have hlen:=r'.length
  exact len_tuple pl (by simp only [ar8] <;> omega) ⟨.int ys.length,H,I.tok _,⟨s.toks+1,by rw [ar8,hlen]⟩,q⟩
theorem cB.or {f:Value}{r r':List V->Hp->VK->Prop} (h:cB X f r) (h':cB X f r'):cB X f (fun xs H Q=>r xs H Q ∨ r' xs H Q):=by
 intro pins s σ H xs us Q I rs q
 rcases q with q | q
 ·exact h pins s σ H xs us Q I rs q
 ·exact h' pins s σ H xs us Q I rs q
theorem N1:cB X (.type "tuple") (fun xs H Q=>∃ p ys,xs = [.ref p]/\((aJ X.K H p ys/\∀ l,H l=none->Q (.ref l) (upd H l (.tup ys))) ∨ (aG X.K H p ys/\Q (.ref p) H))):=by
 intro pins s σ H xs us Q I r h
 obtain ⟨p,ys,rfl,h⟩:=h
 obtain ⟨u,rfl,rx⟩:=fC r
 cases rx
 rcases h with ⟨hq,q⟩ | ⟨hq,q⟩
 ·obtain ⟨its,r',pl,hz⟩:=I.list hq
  have hlen:=r'.length
  refine call_tuple_list pl.isList (fun h' kp=>?_) (by simp only [ar8] <;> omega)
  have I1:a5 X pins σ H { s with heap:=h' }:=I.kept (t':=s.toks) kp
  have I2:a5 X pins σ (upd H h'.objs.size (.tup ys)) { s with heap:=h'.push { cls:=.type "tuple",data:=.seq its.toArray } }:=
   I1.laid (t':=s.toks) (fun b o e=>ar7 _ e) (as3 _) (show bY X.prog X.w _ _ _ (.tup ys) from ⟨hz,its,r',IsTup.new _ _,fA.new _ _ rfl⟩)
  exact⟨.ref h'.objs.size,_,I2,rfl,q _ (I1.hok.fresh (as3 _))⟩
 ·obtain ⟨its,r',pl,hz⟩:=I.tuple hq
  exact call_tuple_same pl ⟨.ref p,H,I,rfl,q⟩
def eO (K:PySem.W.Frag) (T:String) (x:V) (H:Hp):Prop:=match x with
 | .str _=>T="str"
 | .int _=>T="int"
 | .ref p=>(T="list"/\∃ xs,aJ K H p xs) ∨ (T="tuple"/\∃ o,K.lookup p=some o/\o.cls = .type "tuple"/\o.dict=none) ∨
   (T="dict"/\((∃ kvs,H p=some (.dK kvs)) ∨ ∃ kvs,H p=some (.dT kvs))) ∨ (T="set"/\∃ S n,H p=some (.set S n))
 | _=>False
theorem N2 {pins:List (Addr × Obj)}{σ:St}{H:Hp}{s:Shared}{T:String}{x:V}{v:Value} (I:a5 X pins σ H s) (r:aS x v) (ty:eO X.K T x H) :
  s.TypeIs v T/\∀ a,v = .ref a->∃ ob,s.heap.get? a=some ob/\ob.dict=none:=by
 cases x with
 | str z=>
  obtain ⟨t,rfl⟩:=r
  cases (show T="str" from ty)
  exact⟨typeIs_str s z t,fun _ e=>nomatch e⟩
 | int i=>
  obtain ⟨t,rfl⟩:=r
  cases (show T="int" from ty)
  exact⟨typeIs_int s i t,fun _ e=>nomatch e⟩
 | ref p=>
  cases r
  rcases ty with ⟨rfl,xs,hq⟩ | ⟨rfl,o,hk,hc,hd⟩ | ⟨rfl,hk⟩ | ⟨rfl,S,n,hk⟩
  ·obtain ⟨its,_,pl,_⟩:=I.list hq
   refine⟨pl.isList.typeIs,fun a e=>?_⟩
   cases e
   obtain ⟨o,n,e,c,hd,_⟩:=pl
   exact⟨o,e,hd⟩
  ·refine⟨⟨o,I.kIn p o hk,hc⟩,fun a e=>?_⟩
   cases e
   exact⟨o,I.kIn _ o hk,hd⟩
  ·have z:∃ o,s.heap.get? p=some o/\o.ExactDict:=by
    rcases hk with ⟨kvs,hk⟩ | ⟨kvs,hk⟩
    ·obtain ⟨_,_,_,_,o,_,_,e,ex,_⟩:=I.hok p _ hk
     exact⟨o,e,ex⟩
    ·obtain ⟨_,_,_,_,o,_,_,e,ex,_⟩:=I.hok p _ hk
     exact⟨o,e,ex⟩
   obtain ⟨o,e,ex⟩:=z
   refine⟨⟨o,e,ex.1⟩,fun a e2=>?_⟩
   cases e2
   exact⟨o,e,ex.2.1⟩
  ·obtain ⟨o,_,_,_,e,ex,_⟩:=I.hok p _ hk
   refine⟨⟨o,e,ex.1⟩,fun a e2=>?_⟩
   cases e2
   exact⟨o,e,ex.2.1⟩
 | _=>exact False.elim ty
def lM (K:PySem.W.Frag) (T:String) (r:V->List V->Hp->VK->Prop) (to:TE) (t:TA):TE:=fun σ H Q=>to σ H fun x H1=>eO K T x H1/\t σ H1 fun xs H2=>r x xs H2 Q
variable {o e : Expr} {es : List Expr} {to : TE} {t : TA} {name : Str} {apos cpos : Pos} {T id : String} {r : V → List V → Hp → VK → Prop}
theorem oQ (pa:PlainAttrs T) (slot:Slot T name id) (hty:typeOf (.builtin id)=pure (.type "method_descriptor")) (hm:L8 X id r) (ho:PE X o to) (ha:PA X (e :: es) t)
  (hbase:attributeBase o name X.env (eval o X.env)=eval o X.env:=by rfl)
  (hfew:((backTo cpos (starEach (e :: es) X.env)).all (fun x=>!x.1) && (backToKw cpos (keywordEach [] X.env)).all (fun x=>x.1.isSome)
   && decide ((e :: es).length+([]:List Keyword).length+(if ([]:List Keyword).isEmpty then 0 else 1) < 30))=true:=by rfl)
  (hline:(apos.endLine == cpos.line)=true:=by rfl) (hs:starEach (e :: es) X.env=(false,eval e X.env) :: starEach es X.env:=by rfl) (hplain:(backTo cpos (starEach es X.env)).any (·.1)=false:=by rfl) :
  PE X (.Call (.Attribute o name apos) (e :: es) [] cpos) (lM X.K T r to t):=by
 intro pins s σ H Q I h
 refine wpAny_Call_method_late hbase hfew hline rfl (aK (ho pins s σ H _ I h) fun v s1 ⟨x,H1,I1,r1,ty,q1⟩=>?_)
 obtain ⟨h1,h2⟩:=N2 I1 r1 ty
 refine⟨T,id,pa,slot,hty,h1,h2,?_⟩
 have hA:=ha cpos pins s1 σ H1 _ I1 q1
 rw [hs] at hA ⊢
 refine Calls.callWith_builtin (by show (false || (backTo cpos (starEach es X.env)).any (·.1))=false; rw [hplain] <;> rfl) (Calls.evalArgs_plain ?_)
 exact aK hA fun us s2 ⟨vs,H2,I2,r2,q2⟩=>hm pins s2 σ H2 x vs v us Q I2 r1 r2 q2
end
def lN (X:Cx) (id:String) (r:V->List V->Hp->VK->Prop):Prop:=
 ∀ (pins:List (Addr × Obj)) (s:Shared) (σ:St) (H:Hp) (x:V) (xs:List V) (v:Value) (us:List Value) (Q:VK),a5 X pins σ H s->aS x v->aF xs us->r x xs H Q->
  wpAny (model X.prog X.w) X.A (call (.builtin id) (v :: us)) (EP X pins σ Q) X.xe s
theorem aF.one {x:V}{us:List Value} (h:aF [x] us):∃ u,us = [u]/\aS x u:=by
 cases h with
 | cons r t=>
  cases t
  exact⟨_,rfl,r⟩
theorem aF.two {x y:V}{us:List Value} (h:aF [x,y] us):∃ u v,us = [u,v]/\aS x u/\aS y v:=by
 cases h with
 | cons r t=>
  cases t with
  | cons q t=>
   cases t
   exact⟨_,_,rfl,r,q⟩
theorem aF.eraseIdx:∀ {xs:List V}{us:List Value} (i:Nat),aF xs us->aF (xs.eraseIdx i) (us.eraseIdx i)
 | _,_,_,.nil=>.nil
 | _,_,0,.cons _ t=>t
 | _,_,i+1,.cons r t=>.cons r (aF.eraseIdx i t)
theorem aF.rep {xs:List V}{us:List Value} (h:aF xs us):∀ k:Nat,aF (List.replicate k xs).flatten (List.replicate k us).flatten
 | 0=>.nil
 | k+1=>by
  rw [ax1,ax1,aB1,aB1]
  exact aF.append h (aF.rep h k)
theorem oR (its:List Value):∀ (k:Nat) (acc:List Value),
  List.foldl (fun x1 x2=>x1 ++ x2) acc.toArray (List.replicate k its.toArray)=(acc ++ (List.replicate k its).flatten).toArray
 | 0,acc=>by simp
 | k+1,acc=>by
  have e:acc.toArray ++ its.toArray=(acc ++ its).toArray:=by simp
  have e2:(acc ++ its) ++ (List.replicate k its).flatten=acc ++ (List.replicate (k+1) its).flatten:=by
   rw [ax1,aB1,at5]
  rw [<- e2,<- oR its k (acc ++ its),<- e,ax1,List.foldl_cons]
section
variable {X : Cx} {pins : List (Addr × Obj)} {σ : St} {H : Hp} {s : Shared} {l b : Addr} {xs ys zs : List V}
theorem a5.lset {its its':List Value}{n:Nat}{f:Array Value->Array Value}{t':Nat} (I:a5 X pins σ H s) (hH:H l=some (.lst xs))
  (e:s.heap.get? l=some { cls:=.type "list",data:=.seq its.toArray n }) (hf:f its.toArray=its'.toArray) (hv:aF ys its') (hz:ys.length<=sizeLine) :
  a5 X pins σ (upd H l (.lst ys)) { s with heap:=s.heap.update l (Obj.mapSeq f),toks:=t' }:=by
 have q:=PySem.IsL.update e f
 rw [hf] at q
 refine I.write (x:=l) (e:=l) (by rw [hH]; exact trivial) (.inl rfl) (fun b' u hb hu=>(Heap.get?_update_other s.heap (Obj.mapSeq f) (Ne.symm hb)).trans hu) ⟨_,q⟩ ?_
 exact⟨hz,its',_,hv,q⟩
theorem a5.lnew {its:List Value}{t':Nat} (I:a5 X pins σ H s) (hv:aF ys its) (hz:ys.length<=sizeLine) :
  a5 X pins σ (upd H s.heap.objs.size (.lst ys)) { s with heap:=s.heap.push { cls:=.type "list",data:=.seq its.toArray },toks:=t' }:=
 I.laid (fun _ _ q=>ar7 _ q) (as3 _) ⟨hz,its,0,hv,au5 _ rfl⟩
theorem a5.fresh (I:a5 X pins σ H s):H s.heap.objs.size=none:=I.hok.fresh (as3 _)
theorem a5.lstM (I:a5 X pins σ H s) (hH:H l=some (.lst xs)):xs.length<=sizeLine/\∃ (its:List Value) (n:Nat),aF xs its/\xs.length=its.length/\s.heap.get? l=some { cls:=.type "list",data:=.seq its.toArray n }:=by
 obtain ⟨z,its,n,r,e⟩:=I.hok l _ hH
 exact⟨z,its,n,r,r.length,e⟩
theorem oS {n:Nat} (h:n<=sizeLine):Builtin.List.listTooLong n=false:=by
 unfold Builtin.List.listTooLong
 exact as0 (by omega)
end
section
variable {X : Cx}
def oT:V->List V->Hp->VK->Prop:=fun x vs H Q=>∃ l xs y,x = .ref l/\vs = [y]/\H l=some (.lst xs)/\xs.length < sizeLine/\Q .non (upd H l (.lst (xs ++ [y])))
theorem oU:lN X "list.append" oT:=by
 intro pins s σ H x vs v us Q I rx rv h
 obtain ⟨l,xs,y,rfl,rfl,hH,hz,q⟩:=h
 cases rx
 obtain ⟨u,rfl,ru⟩:=rv.one
 obtain ⟨z,its,n,r,hl,e⟩:=I.lstM hH
 refine call_meets F.slot_list_append ⟨_,e,rfl⟩ F.entry_list_append (F.args_list_append_2 _ _) (PySem.list_append l its.toArray n u (by rw [ar8]; omega)) ⟨e,?_⟩
 refine⟨.non,_,I.lset (its':=its ++ [u]) hH e (by simp) (r.append (.cons ru .nil)) ?_,rfl,q⟩
 rw [aw7,List.length_singleton]
 omega
def tT:V->List V->Hp->VK->Prop:=fun x vs H Q=>∃ l b xs zs,x = .ref l/\vs = [.ref b]/\H l=some (.lst xs)/\H b=some (.lst zs)/\xs.length+zs.length<=sizeLine/\Q .non (upd H l (.lst (xs ++ zs)))
theorem N3:lN X "list.extend" tT:=by
 intro pins s σ H x vs v us Q I rx rv h
 obtain ⟨l,b,xs,zs,rfl,rfl,hH,hB,hz,q⟩:=h
 cases rx
 obtain ⟨u,rfl,ru⟩:=rv.one
 cases ru
 obtain ⟨z,its,n,r,hl,e⟩:=I.lstM hH
 obtain ⟨z2,its2,n2,r2,hl2,e2⟩:=I.lstM hB
 have hsz:its.toArray.size+its2.toArray.size<=sizeLine:=by rw [ar8,ar8]; omega
 have hlong : ¬ (!its.toArray.isEmpty && Builtin.List.listTooLong (its.toArray.size+its2.toArray.size))=true:=by
  rw [oS hsz,Bool.and_false]
  exact at3
 refine call_meets F.slot_list_extend ⟨_,e,rfl⟩ F.entry_list_extend (F.args_list_extend_2 _ _)
  (AutoSeq1.list_extend_list_list_0 l its.toArray n b its2.toArray n2 hlong (by rw [ar8]; omega) (by omega)) ⟨e,e2,?_⟩
 refine⟨.non,_,I.lset (its':=its ++ its2) hH e (by simp) (r.append r2) ?_,rfl,q⟩
 rw [aw7]
 omega
def tU:R2:=fun x y H Q=>∃ l b xs zs,x = .ref l/\y = .ref b/\H l=some (.lst xs)/\H b=some (.lst zs)/\xs.length+zs.length<=sizeLine/\∀ p,H p=none->Q (.ref p) (upd H p (.lst (xs ++ zs)))
theorem N4:b8 X (binaryOp .Add) tU:=by
 intro pins s σ H x y v u Q I rx ry h
 obtain ⟨l,b,xs,zs,rfl,rfl,hH,hB,hz,q⟩:=h
 cases rx
 cases ry
 obtain ⟨z,its,n,r,hl,e⟩:=I.lstM hH
 obtain ⟨z2,its2,n2,r2,hl2,e2⟩:=I.lstM hB
 refine PySem.P.add_list e e2 ?_ (by rw [ar8,ar8]; omega)
 have ea:its.toArray ++ its2.toArray=(its ++ its2).toArray:=by simp
 rw [ea]
 exact⟨.ref _,_,I.lnew (t':=s.toks) (r.append r2) (by rw [aw7]; omega),rfl,q _ I.fresh⟩
def tV:R2:=fun x y H Q=>∃ l k xs,x = .ref l/\y = .int k/\H l=some (.lst xs)/\-(2 ^ 63)<=k/\k < 2 ^ 63/\xs.length * k.toNat<=sizeLine/\
 ∀ p,H p=none->Q (.ref p) (upd H p (.lst (List.replicate k.toNat xs).flatten))
theorem tW {α:Type} (xs:List α) (k:Nat):(List.replicate k xs).flatten.length=k * xs.length:=by
 induction k with
 | zero=>simp
 | succ k ih=>rw [ax1,aB1,aw7,ih,Nat.succ_mul,Nat.add_comm]
theorem N5:b8 X (binaryOp .Mult) tV:=by
 intro pins s σ H x y v u Q I rx ry h
 obtain ⟨l,k,xs,rfl,rfl,hH,h1,h2,hz,q⟩:=h
 cases rx
 obtain ⟨t,rfl⟩:=ry
 obtain ⟨z,its,n,r,hl,e⟩:=I.lstM hH
 have hlen:its.toArray.size * k.toNat<=sizeLine:=by rw [ar8,<- hl]; exact hz
 have hcap : ¬ its.toArray.size * k.toNat > (2 ^ 63 - 1) / 8:=by
  have:(sizeLine:Nat)<=(2 ^ 63 - 1) / 8:=by decide
  omega
 have hfit : ¬ (!Builtin.List.listFitsIndex k)=true:=by
  rw [fitsIndex_both h1 h2]
  exact at3
 have hlong : ¬ Builtin.List.listTooLong (its.toArray.size * k.toNat)=true:=by
  rw [oS hlen]
  exact at3
 have hnew:List.foldl (fun x1 x2=>x1 ++ x2) #[] (List.replicate (if its.toArray.isEmpty=true then 0 else k.toNat) its.toArray)=(List.replicate k.toNat its).flatten.toArray:=by
  have f0:∀ m:Nat,List.foldl (fun x1 x2=>x1 ++ x2) #[] (List.replicate m its.toArray)=(List.replicate m its).flatten.toArray:=fun m=>by
   have:=oR its m []
   rw [List.nil_append] at this
   exact this
  rw [f0]
  cases its with
  | nil=>simp
  | cons a r'=>rw [if_neg (by simp)]
 refine wpAny_binaryOp_repeat_ref (T:="list") (U:="int") (by decide) ⟨_,e,rfl⟩ (fun s'=>typeIs_int s' k t) noFill_list_mul F.fills_int_mul F.slot_int_rmul repeat_list F.slot_int_index.lookup
  (call_meets F.slot_int_rmul (typeIs_int s k t) F.entry_int_rmul (F.args_int_rmul_2 _ _) (int___rmul___int_list k t l its.toArray n)
   ⟨e,rfl,⟨_,e,rfl⟩,call_meets F.slot_list_mul ⟨_,e,rfl⟩ F.entry_list_mul (F.args_list_mul_2 _ _) (AutoListH.list___mul___list_int_3 l its.toArray n k t hfit hcap hlong) ⟨e,?_⟩⟩)
 rw [hnew]
 exact⟨.ref _,_,I.lnew (t':=s.toks) (r.rep k.toNat) (by rw [tW,Nat.mul_comm]; exact hz),rfl,q _ I.fresh⟩
end
section
variable {κ : Type} [DecidableEq κ]
theorem KV.length {kvs:List (κ × V)}{vs:List (κ × Value)} (r:KV kvs vs):kvs.length=vs.length:=Paired.length r
end
section
variable {P : Program} {w : World} {H : Hp} {h : Heap} {a : Addr}
theorem N6 {u:HO} (ok:bG P w H h) (e:Rd H a u):bY P w H h a u:=e.ok ok
theorem N7 {kvs:List (aY × V)} (ok:bG P w H h) (e:Rd H a (.dK kvs)):kvs.length<=sizeLine/\(a == sysModules)=false/\∃ vs,KV kvs vs/\h.DictOf (nX P w) a vs:=
 show bY P w H h a (.dK kvs) from N6 ok e
end
section
variable {X : Cx} {pins : List (Addr × Obj)} {σ : St} {H : Hp} {s : Shared} {a : Addr} {kvs : List (aY × V)} {k : aY} {u : Value} {A : Around} {E : Value → Shared → Prop}
theorem N8 {Q:Value->Shared->Prop} (I:a5 X pins σ H s) (e:Rd H a (.dK kvs)) (h:∀ t s',a5 X pins σ H s'->Q (.int kvs.length t) s'):wpAny (model X.prog X.w) A (call (.builtin "len") [.ref a]) Q E s:=by
 obtain ⟨z,hd,vs,rel,dd⟩:=N7 I.hok e
 refine call_len_dict hd dd (by rw [<- rel.length]; rw [sizeLine_eq] at z; omega) ?_
 rw [<- rel.length]
 exact h _ _ (I.tok _)
end
structure M1 (X:Cx) (o:Expr) (m:Str) (apos:Pos) (e:Expr) (cpos:Pos):Prop where
 base:attributeBase o m X.env (eval o X.env)=eval o X.env
 few:((backTo cpos (starEach [e] X.env)).all (fun x=>!x.1) && (backToKw cpos (keywordEach [] X.env)).all (fun x=>x.1.isSome)
  && decide (([e]:List Expr).length+([]:List Keyword).length+(if ([]:List Keyword).isEmpty then 0 else 1) < 30))=true
 line:(apos.endLine == cpos.line)=true
 trees:backTo cpos (starEach [e] X.env) = [(false,eval e X.env)]
structure M2 (X:Cx) (o:Expr) (m:Str) (apos:Pos) (e f:Expr) (cpos:Pos):Prop where
 base:attributeBase o m X.env (eval o X.env)=eval o X.env
 few:((backTo cpos (starEach [e,f] X.env)).all (fun x=>!x.1) && (backToKw cpos (keywordEach [] X.env)).all (fun x=>x.1.isSome)
  && decide (([e,f]:List Expr).length+([]:List Keyword).length+(if ([]:List Keyword).isEmpty then 0 else 1) < 30))=true
 line:(apos.endLine == cpos.line)=true
 trees:backTo cpos (starEach [e,f] X.env) = [(false,eval e X.env),(false,eval f X.env)]
end L2
namespace Att
open PySem PySem.W PySem.Calls PyProof.Rows
theorem N9 {P:Params}{h:Heap}:∀ (ns:List Int) (vs:List Value),WellAll P h vs (ns.map WData.int)->IntsAre vs ns:=by
 intro ns
 induction ns with
 | nil=>
  intro vs w
  rw [List.map_nil] at w
  cases w
  exact .nil
 | cons n ns ih=>
  intro vs w
  rw [List.map_cons] at w
  cases w with
  | cons a b=>
   cases a
   exact .cons _ _ (ih _ b)
theorem tX {l:OpenLaw}{n:Nat} (hn:l.most=some n) {P:Params}{h:Heap}{args:List WData}{vals:List Value}
  (hpre:l.row.toRowW.claim.pre args=true) (hwl:WellAll P h vals args) :
  ∃ a vs ns,vals = [Value.ref a]/\args = [WData.list (ns.map WData.int)]/\h.get? a=some { cls:=.type "list",data:=.seq vs.toArray }/\IntsAre vs ns/\ns.length<=n:=by
 have hsh:WShape.hasAll [] args [.list .int]=true:=(pre_splitW hpre).1
 have hc:l.pre.holds [] { args:=args }=true:=(pre_splitW hpre).2
 obtain ⟨d,r,rfl,h1,h2⟩:=hasAllW_cons hsh
 obtain rfl:=hasAllW_nil h2
 obtain ⟨xs,rfl,h3⟩:=hasW_list h1
 obtain ⟨ns,rfl⟩:=items_int h3
 have hlen:ns.length<=n:=by
  unfold OpenLaw.pre at hc
  have h4:(WTm.not (.lt (.lit (.int (n:Int))) (.len (.arg 0)))).holds [] { args:=[.list (ns.map .int)] }=true:=by
   have h4:=(holds_andW hc).1
   rw [hn] at h4
   exact h4
  have h5:=condW_of h4 (w_not (w_lt w_lit (w_len_list (w_arg rfl))))
  rw [at4] at h5
  refine Nat.le_of_not_lt fun q=>?_
  have q':(n:Int) < ((ns.length:Nat):Int):=by omega
  first
   | (rw [at0 q'] at h5; exact absurd h5 (by decide))
   | (simp at h5; omega)
 cases hwl with
 | cons w1 w2=>
  cases w2
  cases w1 with
  | list ho hall=>exact⟨_,_,ns,rfl,rfl,ho,N9 ns _ hall,hlen⟩
theorem tY (l:OpenLaw) (args:List WData):l.row.toRowW.claim.post args (.bool true) args=true:=
 postW_of (r:=l.row.toRowW) (X:=(true == true))
  (show WShape.has [] (.bool true) .bool=true by first | rfl | decide | simp [WShape.has,WShape.arms,WShape.armsAll])
  (show (WTm.eq .res (.lit (.bool true))).value [] { args:=args,res:=some (.bool true),after:=args }=some (.bool (true == true)) from w_eq_bool (w_res rfl) w_lit) rfl
theorem ar3 {l:OpenLaw}{n:Nat}{q:Program}{loose:List Str}{XP:(Str->Option Value)->Heap->Prop}{YP:World->Heap->Prop}{d:DefRec}{x:Str}
  (hn:l.most=some n) (hdf:d.params.defaults = [])
  (hbind:∀ pm cd doc v:Value,bindArgs (docDef d.name d.params d.body d.scope pm cd doc) ⟨[v],[]⟩=pure [(x,v)])
  (hx:d.scope.names.lookup x=some .local ∨ d.scope.names.lookup x=some .cell)
  (hk:d.scope.kind = .function) (hco:d.scope.isCoroutine=false) (hgen:d.scope.isGenerator=false)
  (body:∀ (w:World) (s₀ s₁ s:Shared) (mg mb:Str->Option Value) (fa:Addr) (o:Obj) (pm cd doc:Value) (a:Addr) (vs:List Value) (ns:List Int),
   Ground q loose [] XP w s₀ mg mb s₁.heap->YP w s₁.heap->
   s₁.heap.get? fa=some o->o.data = .func (docDef d.name d.params d.body d.scope pm cd doc)->s₁.heap.CodeRec cd d.name->mg d.name=some (.ref fa)->
   s₁.heap.get? a=some { cls:=.type "list",data:=.seq vs.toArray }->IntsAre vs ns->ns.length<=n->
   s.gens = #[]->s.os=s₁.os->
   Fr s₁.heap s₁.heap.objs.size s.heap (bindL (envOfC d.name d.scope s₁.heap.objs.size fa cd).kindOf [(x,.ref a)] fun _=>none)->
   Cl s₁.heap.objs.size (cellsFrom (s₁.heap.objs.size+1) d.scope.names []) s.heap (bindC (envOfC d.name d.scope s₁.heap.objs.size fa cd).kindOf [(x,.ref a)] fun _=>none)->
   wpAny (model l.prog w) (callerA.deeper (envOfC d.name d.scope s₁.heap.objs.size fa cd)) (execs d.body (envOfC d.name d.scope s₁.heap.objs.size fa cd))
    (fun f s'=>f = .ret (.bool true)/\OldK s₁.heap s'.heap/\s'.os=s₁.os/\AllBare s'.gens) (fun _ _=>False) s) :
  WalkO q loose XP YP l.row.toRowW d [] (fun f vs=>PySem.call f vs):=by
 intro w s₀ s₁ mg mb G Y fa o pm cd doc dV kV ho hd hcd hD hmg hg args vals as hpre hlay hrd hwl hlo
 obtain rfl:dV = .none:=Dflts.none hD hdf
 obtain rfl:kV = .none:=Dflts.noKw hD
 obtain ⟨a,vs,ns,rfl,rfl,hobj,hints,hlen⟩:=tX hn hpre hwl
 refine enter_call ?_
 refine call_cells_ret (o:=o) (by rw [depth_caller]; decide) ho (fd_plain hd) G.T.nolimit hcd (hbind pm cd doc (.ref a)) (fun y hy=>?_) (fun h₁ tk F X=>?_) hco hgen hk
 ·obtain rfl:y=(x,Value.ref a):=au2.mp hy
  rcases hx with e | e
  ·exact .inl e
  ·exact .inr ⟨e,cellsFrom_some _ _ _ (.inl e)⟩
 ·refine ay1 (body w s₀ s₁ { s₁ with heap:=h₁,toks:=tk } mg mb fa o pm cd doc a vs ns G Y ho (fd_plain hd) hcd hmg hobj hints hlen hg rfl F X) (fun f s' hq=>?_) (fun _ _ hq=>hq)
  obtain ⟨rfl,h2,h3,h4⟩:=hq
  exact⟨.inl ⟨.bool true,.bool true,[],rfl,fun _=>rfl,.bool true,tY l _,fun _=>⟨List.Pairwise.nil,fun _ hm=>(nomatch hm)⟩⟩,h2,h3,h4⟩
theorem O0 {l:OpenLaw}{n:Nat}{q:Program}{loose:List Str}{XP:(Str->Option Value)->Heap->Prop}{YP:World->Heap->Prop}{d:DefRec}
  (hn:l.most=some n) (hdf:d.params.defaults = [])
  (call:∀ (w:World) (s₀ s₁:Shared) (mg mb:Str->Option Value) (fa:Addr) (o:Obj) (pm cd doc:Value) (a:Addr) (vs:List Value) (ns:List Int),
   Ground q loose [] XP w s₀ mg mb s₁.heap->YP w s₁.heap->
   s₁.heap.get? fa=some o->o.data = .func (docDef d.name d.params d.body d.scope pm cd doc)->s₁.heap.CodeRec cd d.name->mg d.name=some (.ref fa)->
   s₁.heap.get? a=some { cls:=.type "list",data:=.seq vs.toArray }->IntsAre vs ns->ns.length<=n->s₁.gens = #[]->
   codeAny (model l.prog w) callerA (.call (.ref fa) ⟨[.ref a],[]⟩) (fun r s'=>r = .ok (.ret (.bool true))/\OldK s₁.heap s'.heap/\s'.os=s₁.os/\AllBare s'.gens) s₁) :
  WalkO q loose XP YP l.row.toRowW d [] (fun f vs=>PySem.call f vs):=by
 intro w s₀ s₁ mg mb G Y fa o pm cd doc dV kV ho hd hcd hD hmg hg args vals as hpre hlay hrd hwl hlo
 obtain rfl:dV = .none:=Dflts.none hD hdf
 obtain rfl:kV = .none:=Dflts.noKw hD
 obtain ⟨a,vs,ns,rfl,rfl,hobj,hints,hlen⟩:=tX hn hpre hwl
 refine enter_call (codeAny_mono (call w s₀ s₁ mg mb fa o pm cd doc a vs ns G Y ho (fd_plain hd) hcd hmg hobj hints hlen hg) fun r s' hq=>?_)
 obtain ⟨rfl,h2,h3,h4⟩:=hq
 exact⟨.inl ⟨.bool true,.bool true,[],rfl,fun _=>rfl,.bool true,tY l _,fun _=>⟨List.Pairwise.nil,fun _ hm=>(nomatch hm)⟩⟩,h2,h3,h4⟩
end Att
namespace L2
open PySem PySem.Spec PyProof.Rows
theorem tZ:∀ {vs:List Value}{ns:List Int},IntsAre vs ns->aF (ns.map V.int) vs
 | _,_,.nil=>.nil
 | _,_,.cons n t h=>.cons ⟨t,rfl⟩ (tZ h)
def lO (H:Hp):Prop:=∀ b,H b=none ∨ ∃ o xs,H b=some (.frz o (.lst xs))
theorem O1 {P:Program}{w:World}{K:PySem.W.Frag}{mg mb:Str->Option Value}{CX:eD}{k:Nat}{fa a:Addr}{fd:FuncData}{x:Str}{sp:Sp}{s₁:Shared}{vs:List Value}{ns:List Int}
  (KX:K.In s₁.heap) (hns:s₁.heap.Ns mainGlobals mg) (hb:s₁.heap.Ns builtinsNs mb) (hbb:∀ x:Str,x ≠ "__name__"->mb x=bootBuiltins x) (hlim:s₁.heap.NoLimit) (hg:s₁.gens = #[])
  (ha:s₁.heap.get? a=some { cls:=.type "list",data:=.seq vs.toArray }) (hi:IntsAre vs ns) (hl:ns.length<=sizeLine) (hr:bE k callerA)
  (F:∀ base:Heap,K.In base->base.Ns mainGlobals mg->cI P w K mg base CX k fa fd [x] sp) (hbind:∀ (s:Shared) (u:Value),BindsTo s fd ⟨[u],[]⟩ [(x,u)])
  (hsp:∀ H:Hp,lO H->aJ K H a (ns.map V.int)->sp [.ref a] H (fun v _=>v = .bl true) fun _ _ _=>False)
  (hCX:∀ H e s',CX [] H s₁ (fun _ _ _=>False) e s'->False) :
  codeAny (model P w) callerA (.call (.ref fa) ⟨[.ref a],[]⟩) (fun r s'=>r = .ok (.ret (.bool true))/\OldK s₁.heap s'.heap/\s'.os=s₁.os/\AllBare s'.gens) s₁:=by
 have rv:=tZ hi
 have lenV:=hi.length
 have core:∀ H:Hp,lO H->aJ K H a (ns.map V.int)->bG P w H s₁.heap->(∀ b,H b ≠ none->b=a)->(H a ≠ none->K.lookup a=none)->
   codeAny (model P w) callerA (.call (.ref fa) ⟨[.ref a],[]⟩) (fun r s'=>r = .ok (.ret (.bool true))/\OldK s₁.heap s'.heap/\s'.os=s₁.os/\AllBare s'.gens) s₁:=by
  intro H hO hS hok hA hK
  have base_of:∀ {b:Addr}{o:Obj},s₁.heap.get? b=some o->H b=none->(fN s₁.heap H).get? b=some o:=fun e n=>A2 e n
  have noA:∀ {b:Addr}{o:Obj}{es:Array DictEntry}{ep:Nat},s₁.heap.get? b=some o->o.data = .dict es ep->H b=none:=fun {b o es ep} e d=>by
   cases q:H b with
   | none=>rfl
   | some u=>
    have e':b=a:=hA b (by rw [q]; simp)
    subst e'
    rw [ha] at e; cases e
    have d':Data.seq vs.toArray _=Data.dict es ep:=d
    cases d'
  have nsK:∀ {b:Addr}{m:Str->Option Value},s₁.heap.Ns b m->(fN s₁.heap H).Ns b m:=fun {b m} ⟨o,es,ep,e,d,r⟩=>⟨o,es,ep,base_of e (noA e d),d,r⟩
  have hKb:K.In (fN s₁.heap H):=fun b o e=>base_of (KX b o e) (by
   cases q:H b with
   | none=>rfl
   | some u=>
    have e':b=a:=hA b (by rw [q]; simp)
    subst e'
    rw [hK (by rw [q]; simp)] at e; cases e)
  have hM:Mod K mg (fN s₁.heap H):=⟨hKb,nsK hns,⟨mb,nsK hb,hbb⟩,let ⟨mc,h1,h2⟩:=hlim; ⟨mc,nsK h1,h2⟩⟩
  have e0:lL P w K mg (fN s₁.heap H) callerA [] s₁ H:=⟨rfl,hM,fun b o e=>A3 e,Nat.le_of_eq (A1 _ _),trivial,fun b hb=>absurd (show b ∈ ([]:List Addr) from hb) (by simp),hok,.of_eq hg⟩
  refine codeAny_mono ((F _ hKb (nsK hns)).run callerA [] s₁ H ⟨[.ref a],[]⟩ [.ref a] [.ref a] _ _ hr e0 (hbind s₁ (.ref a)) (.cons rfl .nil) (hsp H hO hS)) fun r s' h=>?_
  cases r with
  | error e=>exact (hCX H e s' h).elim
  | ok fl=>
   cases fl with
   | next=>exact False.elim h
   | brk=>exact False.elim h
   | cont=>exact False.elim h
   | ret u=>
    obtain ⟨v,H',os,bare,un,hok',r',q⟩:=h
    have q':v = .bl true:=q
    subst q'
    obtain rfl:u=Value.bool true:=r'
    refine⟨rfl,OldK.of_keep fun b o e=>?_,os,bare⟩
    cases q:H b with
    | none=>exact un.keep b o e q (by intro z; exact absurd (show b ∈ ([]:List Addr) from z) (by simp)) (by simp)
    | some u=>
     rcases hO b with z | ⟨ob,xs,z⟩
     ·rw [q] at z; cases z
     ·have z2:=un.frzs b ob _ z
      obtain ⟨e1,_⟩:=hok b _ z
      obtain ⟨e2,_⟩:=hok' b _ z2
      rw [e] at e1; cases e1
      exact e2
 cases hk:K.lookup a with
 | some o=>
  have e:=KX a o hk
  rw [ha] at e
  cases e
  refine core (fun _=>none) (fun _=>.inl rfl) (.inr ⟨_,vs.toArray,_,hk,rfl,rfl,rfl,by rw [ar8,lenV]; exact hl,by simpa using rv⟩) (fun b u z=>by have z':(none:Option HO)=some u:=z; cases z') (fun b z=>absurd rfl z) fun z=>absurd rfl z
 | none=>
  refine core (fun b=>if b=a then some (.frz { cls:=.type "list",data:=.seq vs.toArray } (.lst (ns.map V.int))) else none) (fun b=>?_) (.inl (.inr ⟨{ cls:=.type "list",data:=.seq vs.toArray },if_pos rfl⟩)) (fun b u z=>?_) (fun b z=>?_) fun _=>hk
  ·by_cases hb:b=a
   ·exact .inr ⟨_,_,if_pos hb⟩
   ·exact .inl (if_neg hb)
  ·by_cases hb:b=a
   ·have z':=(if_pos hb).symm.trans z
    cases z'
    subst hb
    exact⟨ha,by rw [at4]; exact hl,vs,_,rv,ha⟩
   ·have z':=(if_neg hb).symm.trans z
    cases z'
  ·by_cases hb:b=a
   ·exact hb
   ·exact absurd (if_neg hb) z
theorem O2 {l:PySem.W.OpenLaw}{n k:Nat}{q:Program}{loose:List Str}{XP:(Str->Option Value)->Heap->Prop}{YP:World->Heap->Prop}{d:DefRec}{K:Params->PySem.W.Frag}{CX:World->eD}{sp:World->Sp}{x:Str}
  (hn:l.most=some n) (hn2:n<=sizeLine) (hdf:d.params.defaults = []) (hr:bE k callerA)
  (hY:∀ (w:World) (h:Heap),YP w h->(K w.params).In h)
  (F:∀ (w:World) (mg:Str->Option Value) (fa:Addr) (h:Heap),(K w.params).In h->h.Ns mainGlobals mg->mg d.name=some (.ref fa)->
   ∃ fd:FuncData,(∀ (s:Shared) (u:Value),BindsTo s fd ⟨[u],[]⟩ [(x,u)])/\
    ∀ base:Heap,(K w.params).In base->base.Ns mainGlobals mg->cI l.prog w (K w.params) mg base (CX w) k fa fd [x] (sp w))
  (hsp:∀ (w:World) (H:Hp) (a:Addr) (ns:List Int),ns.length<=n->lO H->aJ (K w.params) H a (ns.map V.int)->sp w [.ref a] H (fun v _=>v = .bl true) fun _ _ _=>False)
  (hCX:∀ (w:World) (H:Hp) (s:Shared) (e:Value) (s':Shared),CX w [] H s (fun _ _ _=>False) e s'->False) :
  PySem.W.WalkO q loose XP YP l.row.toRowW d [] (fun f vs=>PySem.call f vs):=by
 refine Att.O0 hn hdf fun w s₀ s₁ mg mb fa o pm cd doc a vs ns G Y ho hd hcd hmg hobj hints hlen hg=>?_
 have KX:=hY w _ Y
 obtain ⟨fd,hb,hF⟩:=F w mg fa _ KX G.T.g hmg
 exact O1 KX G.T.g G.T.b G.T.builtins G.T.nolimit hg hobj hints (aw6 hlen hn2) hr hF hb (fun H hO hS=>hsp w H a ns hlen hO hS) fun H e s'=>hCX w H s₁ e s'
def fR (s:Stmt):Arguments:=match s with
 | .FunctionDef _ a _ _ _ _ _ _ _ _=>a
 | _=>{ posonlyargs:=[],args:=[],vararg:=none,kwonlyargs:=[],kw_defaults:=[],kwarg:=none,defaults:=[] }
def cW (s:Stmt):List Stmt:=match s with
 | .FunctionDef _ _ b _ _ _ _ _ _ _=>b
 | _=>[]
def aP (s:Stmt):Scope:=match s with
 | .FunctionDef _ _ _ _ _ _ sc _ _ _=>sc
 | _=>{ kind:=.function,names:=[],isGenerator:=false,isCoroutine:=false }
abbrev dD:eD:=fun _ _ _ _ _ _=>False
abbrev E0:XK:=fun _ _ _=>False
theorem O3 {X:Cx}:jQ dD X E0:=fun _ _ _ _ _ _ _ h=>h.elim
structure dQ (K:PySem.W.Frag) (x qual:Str) (st:Stmt) (f:Addr) (fd:FuncData):Prop where
 ex:∃ (oc:Value) (od:Option Addr) (kV doc pm:Value) (an:Option Addr) (cdv ct:Value) (osl:Array (Option Value)),
  fd=PySem.W.fnOf x qual (fR st) (cW st) (aP st) .none kV doc pm an cdv ct/\K.lookup f=some ⟨oc,od,.func fd,osl⟩/\PySem.W.codeIn K cdv qual=true
 kp:PySem.W.keepIn K (.ref f)=true
section
variable {P : Program} {w : World} {K : PySem.W.Frag} {mg : Str → Option Value} {base : Heap}
theorem dQ.ok {x qual:Str}{st:Stmt}{f:Addr}{fd:FuncData}{N ps:List Str}{k:Nat}{sp:Sp} (F:dQ K x qual st f fd) (S:FnScope N ps (aP st)) (len:∀ vs H Q E,sp vs H Q E->vs.length=ps.length)
  (hbody:∀ (cdv:Value) (A:Around) (outer:List Env) (s:Shared) (H:Hp) (vs:List V) (Q:VK) (E:XK),bE k (A.deeper (envOfC qual (aP st) s.heap.objs.size f cdv))->sp vs H Q E->
   ∃ t,cM (cE dD P w K mg base N qual (aP st) f cdv A outer s H E).nox (cW st) t/\t { nx:=fun _ H'=>Q .non H',rt:=Q } (eF N vs) H):cI P w K mg base dD (k+1) f fd ps sp:=by
 obtain ⟨oc,od,kV,doc,pm,an,cdv,ct,osl,rfl,lk,hcd⟩:=F.ex
 refine tI lk hcd S len fun A outer s H vs Q E hr hsp=>?_
 obtain ⟨t,h,q⟩:=hbody cdv A outer s H vs Q E hr hsp
 exact⟨t,h.nox,q⟩
theorem dQ.binds {x qual:Str}{st:Stmt}{f:Addr}{fd:FuncData}{ps:List Str} (F:dQ K x qual st f fd)
  (h:∀ (kV doc pm:Value) (an:Option Addr) (cdv ct:Value) (us:List Value),us.length=ps.length->bindArgs (PySem.W.fnOf x qual (fR st) (cW st) (aP st) .none kV doc pm an cdv ct) ⟨us,[]⟩=pure (ps.zip us)):fP K fd ps []:=by
 obtain ⟨oc,od,kV,doc,pm,an,cdv,ct,osl,rfl,lk,hcd⟩:=F.ex
 exact .all (h kV doc pm an cdv ct)
theorem O4 {x qual:Str}{st:Stmt}{f:Addr}{oc:Value}{od an:Option Addr}{osl:Array (Option Value)}{kV doc pm cdv ct:Value} (l:K.lookup f=some ⟨oc,od,.func (PySem.W.fnOf x qual (fR st) (cW st) (aP st) .none kV doc pm an cdv ct),osl⟩)
  (c:PySem.W.codeIn K cdv qual=true) (k:PySem.W.keepIn K (.ref f)=true):dQ K x qual st f (PySem.W.fnOf x qual (fR st) (cW st) (aP st) .none kV doc pm an cdv ct):=⟨⟨oc,od,kV,doc,pm,an,cdv,ct,osl,rfl,l,c⟩,k⟩
end
theorem O5 {A:Around}{k:Nat} (hr:bE k A):A.units+1 < cLine:=Nat.lt_of_le_of_lt (Nat.add_le_add_left (by decide:1<=64) _) hr.units
theorem O6 {n:Nat} (h:n<=1000):n < sizeLine:=Nat.lt_of_le_of_lt h (by decide)
section
variable {X : Cx}
theorem O7:cB X (.builtin "len") (fun xs H Q=>∃ a kvs,xs = [V.ref a]/\H a=some (.dK kvs)/\Q (.int kvs.length) H):=by
 intro pins s σ H xs us Q I r h
 obtain ⟨a,kvs,rfl,ha,q⟩:=h
 obtain ⟨u,rfl,ru⟩:=fC r
 cases ru
 exact N8 I (.inl ha) fun t s' I'=>⟨.int kvs.length,H,I',⟨t,rfl⟩,q⟩
end
theorem aQ {A B:Prop} (h:B):if false=true then A else B:=by
 rw [if_neg at3]
 exact h
theorem bK {A B:Prop} (h:A):if true=true then A else B:=by
 rw [if_pos rfl]
 exact h
def aA (H H':Hp):Prop:=∀ b o,H b=some o->H' b=some o
theorem aA.refl (H:Hp):aA H H:=fun _ _ h=>h
theorem aA.trans {H H1 H2:Hp} (a:aA H H1) (b:aA H1 H2):aA H H2:=fun c o h=>b c o (a c o h)
theorem aA.free {H H':Hp} (e:aA H H') {l:Addr} (h:H' l=Option.none):H l=Option.none:=by
 cases q:H l with
 | none=>rfl
 | some o=>
  rw [e l o q] at h
  cases h
def cS (cells:List (Str × Addr)):List (Str × NameKind)->List (Str × Addr)->List (Str × Addr)
 | [],cs=>cs
 | (n,k) :: r,cs=>cS cells r (if k == .free then (n,(cells.lookup n).getD 0) :: cs else cs)
theorem oV {env:Env}:∀ (ns:List (Str × NameKind)) (cs:List (Str × Addr)),(∀ x ∈ ns,x.2 = .free->∃ c,env.cells.lookup x.1=some c)->
  (forIn ns cs (fun (x:Str × NameKind) r=>(match x with
   | (name,kind)=>if (kind == .free)=true then (do let y <- cellOf env name; pure (ForInStep.yield ((name,y) :: r))) else pure (ForInStep.yield r)):_->_->Sem _))=(pure (cS env.cells ns cs):Sem (List (Str × Addr)))
 | [],cs,_=>by rw [List.forIn_nil]; rfl
 | (n,k) :: r,cs,h=>by
  rw [List.forIn_cons]
  have hr:∀ x ∈ r,x.2 = .free->∃ c,env.cells.lookup x.1=some c:=fun x hx=>h x (au4 _ hx)
  cases hk:(k == NameKind.free) with
  | true=>
   have e:k = .free:=by simpa using hk
   obtain ⟨c,hc⟩:=h (n,k) au6 e
   simp only [hk,if_true]
   have e1:cellOf env n=pure c:=by unfold cellOf; rw [hc]
   rw [e1]
   show ((pure c >>= fun y=>pure (ForInStep.yield ((n,y) :: cs))) >>= _:Sem _)=_
   rw [pure_bind,pure_bind]
   have:=oV (env:=env) r ((n,c) :: cs) hr
   refine this.trans ?_
   unfold cS
   simp only [hk,if_true,hc,Option.getD_some]
   cases r <;> rfl
  | false=>
   simp only [hk,aw8,aD2]
   rw [pure_bind]
   have:=oV (env:=env) r cs hr
   refine this.trans ?_
   conv=>rhs; unfold cS
   simp only [hk,aw8,aD2]
theorem u0 {scope:Scope}{env:Env} (h:∀ x ∈ scope.names,x.2 = .free->∃ c,env.cells.lookup x.1=some c):closureFor scope env=pure (cS env.cells scope.names []):=by
 have e:=oV (env:=env) scope.names [] h
 unfold closureFor
 rw [show (pure (cS env.cells scope.names []):Sem (List (Str × Addr)))=(pure (cS env.cells scope.names []) >>= pure) by rw [pure_bind]]
 rw [<- e]
theorem lP {cells:List (Str × Addr)}:∀ (ns:List (Str × NameKind)) (cs:List (Str × Addr)) {x:Str}{c:Addr},(∀ y ∈ ns,y.2 = .free->∃ c,cells.lookup y.1=some c)->
  (∀ x c,cs.lookup x=some c->cells.lookup x=some c)->(cS cells ns cs).lookup x=some c->cells.lookup x=some c
 | [],cs,x,c,_,hc,h=>hc x c h
 | (n,k) :: r,cs,x,c,hn,hc,h=>by
  unfold cS at h
  have hr:∀ y ∈ r,y.2 = .free->∃ c,cells.lookup y.1=some c:=fun y hy=>hn y (au4 _ hy)
  cases hk:(k == NameKind.free) with
  | false=>
   simp only [hk,aw8,aD2] at h
   exact lP r cs hr hc h
  | true=>
   simp only [hk,if_true] at h
   refine lP r _ hr (fun y d e=>?_) h
   obtain ⟨c0,h0⟩:=hn (n,k) au6 (by simpa using hk)
   have h0:cells.lookup n=some c0:=h0
   rw [h0] at e
   rw [aw5] at e
   by_cases hyn:y=n
   ·subst hyn
    simp only [ax5,Option.getD_some] at e
    rw [h0]; exact e
   ·have:(y == n)=false:=beq_eq_false_iff_ne.mpr hyn
    simp only [this] at e
    exact hc y d e
theorem oW {cells:List (Str × Addr)}:∀ (ns:List (Str × NameKind)) (cs:List (Str × Addr)) {x:Str},((x,NameKind.free) ∈ ns ∨ ∃ c,cs.lookup x=some c)->∃ c,(cS cells ns cs).lookup x=some c
 | [],cs,x,h=>by
  rcases h with h | h
  ·simp at h
  ·exact h
 | (n,k) :: r,cs,x,h=>by
  unfold cS
  refine oW r _ ?_
  rcases h with h | ⟨c,h⟩
  ·rcases as4.mp h with e | e
   ·cases e
    exact .inr ⟨_,by simp [aw5]; rfl⟩
   ·exact .inl e
  ·right
   cases hk:(k == NameKind.free) with
   | false=>exact⟨c,by simpa [hk] using h⟩
   | true=>
    simp only [if_true]
    rw [aw5]
    by_cases hxn:(x == n)=true
    ·simp only [hxn]; exact⟨_,rfl⟩
    ·simp only [Bool.eq_false_iff.mpr hxn]; exact⟨c,h⟩
theorem lQ {env:Env}:∀ {names:List (Str × NameKind)}{x:Str}{k:NameKind},(names.map fun (n,k)=>if (k == NameKind.free && env.scope.kind == .function && env.kindOf n == some .cell) then (n,NameKind.cell) else (n,k)).lookup x=some k->
  names.lookup x=some k ∨ (names.lookup x=some .free/\k = .cell)
 | [],_,_,h=>by simp at h
 | (n,q) :: r,x,k,h=>by
  have ih:=@lQ env r x k
  rw [List.map_cons] at h
  by_cases hx:(x == n)=true
  ·have e:x=n:=by simpa using hx
   subst e
   by_cases hc:(q == NameKind.free && env.scope.kind == .function && env.kindOf x == some .cell)=true
   ·simp only [hc,if_true,aw5,ax5] at h
    have hq:q = .free:=by simp at hc; exact hc.1.1
    exact .inr ⟨by simp [aw5,hq],(av0 h).symm⟩
   ·simp only [hc,aw8,aD2,aw5,ax5] at h
    exact .inl (by simp [aw5]; exact av0 h)
  ·have hx':(x == n)=false:=Bool.eq_false_iff.mpr hx
   have h':(r.map fun (n,k)=>if (k == NameKind.free && env.scope.kind == .function && env.kindOf n == some .cell) then (n,NameKind.cell) else (n,k)).lookup x=some k:=by
    by_cases hc:(q == NameKind.free && env.scope.kind == .function && env.kindOf n == some .cell)=true
    ·simp only [hc,if_true,aw5,hx'] at h; exact h
    ·simp only [hc,aw8,aD2,aw5,hx'] at h; exact h
   simp only [aw5,hx']
   exact ih h'
def dR (fr:List (Option Nat)) (σ:St):St:=fr.map fun o=>o.bind fun j=>(σ[j]?).join
def Wk (σ₁ σ₂:St):Prop:=σ₁.length=σ₂.length/\∀ (i:Nat) v,σ₁[i]? = some (some v)->σ₂[i]? = some (some v)
theorem fS:∀ (ns:List (Str × NameKind)) (n:Nat) (cs:List (Str × Addr)),cellsFrom n ns cs=cellsFrom n ns [] ++ cs
 | [],_,_=>rfl
 | (x,k) :: r,n,cs=>by
  unfold cellsFrom
  split
  ·rw [fS r (n+1) ((x,n) :: cs),fS r (n+1) [(x,n)]]; simp
  ·exact fS r n cs
theorem oX:∀ (ns:List (Str × NameKind)) (n:Nat) {x:Str}{c:Addr},(x,c) ∈ cellsFrom n ns []->(x,NameKind.cell) ∈ ns
 | [],_,_,_,h=>by simp [cellsFrom] at h
 | (y,k) :: r,n,x,c,h=>by
  unfold cellsFrom at h
  split at h
  ·rename_i hk
   rw [fS] at h
   rcases ay0.mp h with z | z
   ·exact au4 _ (oX r _ z)
   ·rw [au2] at z
    cases z
    have:k = .cell:=by simpa using hk
    rw [this]; exact au6
  ·exact au4 _ (oX r _ h)
theorem lR:∀ (ns:List (Str × NameKind)) (n:Nat) {x:Str},(x,NameKind.cell) ∈ ns->∃ c,(x,c) ∈ cellsFrom n ns []
 | (y,k) :: r,n,x,h=>by
  unfold cellsFrom
  rcases as4.mp h with z | z
  ·cases z
   rw [if_pos (by rfl),fS]
   exact⟨n,au8 _ (by simp)⟩
  ·split
   ·obtain ⟨c,hc⟩:=lR r (n+1) z
    rw [fS]
    exact⟨c,aD1 _ hc⟩
   ·exact lR r n z
theorem oY {α:Type}:∀ {l:List (Str × α)}{x:Str}{c:α},(x,c) ∈ l->∃ d,l.lookup x=some d
 | (y,v) :: r,x,c,h=>by
  rw [aw5]
  cases hb:x == y with
  | true=>exact⟨v,rfl⟩
  | false=>
   rcases as4.mp h with z | z
   ·cases z; simp at hb
   ·exact oY z
theorem lS {α:Type}{x:Str}:∀ (l r:List (Str × α)),(l ++ r).lookup x=(match l.lookup x with | some v=>some v | none=>r.lookup x)
 | [],_=>rfl
 | (y,v) :: l,r=>by
  rw [List.cons_append,aw5,aw5]
  cases hb:x == y with
  | true=>rfl
  | false=>exact lS l r
def eG (X:Cx) (scope:Scope) (C:Addr):List (Str × Addr):=cellsFrom (C+1) scope.names (cS X.env.cells scope.names [])
theorem hJ {X:Cx}{scope:Scope}{C:Addr}{x:Str}{c:Addr} (h:(eG X scope C).lookup x=some c) :
  (x,c) ∈ cellsFrom (C+1) scope.names [] ∨ ((∀ d,(x,d) ∉ cellsFrom (C+1) scope.names [])/\(cS X.env.cells scope.names []).lookup x=some c):=by
 unfold eG at h
 rw [fS,lS] at h
 cases e:(cellsFrom (C+1) scope.names []).lookup x with
 | some v=>rw [e] at h; cases h; exact .inl (av9 e)
 | none=>
  rw [e] at h
  refine .inr ⟨fun d hd=>?_,h⟩
  obtain ⟨d',z⟩:=oY hd
  rw [e] at z; cases z
theorem O8 {X:Cx}{scope:Scope}{C:Addr}{x:Str}{c:Addr} (hn:(x,NameKind.cell) ∉ scope.names) (h:(cS X.env.cells scope.names []).lookup x=some c):(eG X scope C).lookup x=some c:=by
 unfold eG
 rw [fS,lS]
 cases e:(cellsFrom (C+1) scope.names []).lookup x with
 | some v=>exact absurd (oX _ _ (av9 e)) hn
 | none=>exact h
theorem u5 {X:Cx}{scope:Scope}{C:Addr}{x:Str} (h:(x,NameKind.cell) ∈ scope.names ∨ ∃ c,(cS X.env.cells scope.names []).lookup x=some c):∃ c,(eG X scope C).lookup x=some c:=by
 unfold eG
 rw [fS,lS]
 cases e:(cellsFrom (C+1) scope.names []).lookup x with
 | some v=>exact⟨v,rfl⟩
 | none=>
  rcases h with h | h
  ·obtain ⟨c,hc⟩:=lR scope.names (C+1) h
   obtain ⟨d,hd⟩:=oY hc
   rw [e] at hd; cases hd
  ·exact h
def bA (X:Cx) (scope:Scope) (N:List Str) (s:Shared) (H:Hp) (C:Addr) (fp:List Addr) (E:Value->Shared->Prop):Cx:=
 { X with N:=N,s₀:=s,H₀:=H,env:=compEnvC scope (eG X scope C) C X.env,outer:=X.stack,ex:=fp,fn:=fun x=>scope.names.lookup x == some .cell,pn:=[],xe:=E }
structure cN (X:Cx) (scope:Scope) (N:List Str) (fr:List (Option Nat)):Prop where
 kind:scope.kind = .function
 own:∀ y ∈ scope.names,y.2 = .cell->scope.names.lookup y.1=some .cell
 names:∀ y ∈ scope.names,y.2 = .local->scope.names.lookup y.1=some .local
 free:∀ y ∈ scope.names,y.2 = .free->X.env.scope.names.lookup y.1=some .cell ∨ X.env.scope.names.lookup y.1=some .free
 len:fr.length=N.length
 from_:∀ (i j:Nat),fr[i]? = some (some j)->∃ x,N[i]? = some x/\X.N[j]? = some x/\scope.names.lookup x=some .free
section
variable {X : Cx} {pins : List (Addr × Obj)} {σ : St} {H : Hp} {s : Shared} {scope : Scope} {N : List Str} {fr : List (Option Nat)}
theorem cN.cells (S:cN X scope N fr) (I:a5 X pins σ H s):∀ y ∈ scope.names,y.2 = .free->∃ c,X.env.cells.lookup y.1=some c:=fun y hy hk=>I.ok.has y.1 (S.free y hy hk)
theorem O9 {C D:Addr}{fp:List Addr}{E:Value->Shared->Prop}{h1:Heap}{tk:Nat}{m:Str->Option Value} (S:cN X scope N fr) (I:a5 X pins σ H s)
  (hf:∀ b ∈ fp,dN X pins H b) (hfl:∀ b ∈ fp,b < s.heap.objs.size) (hD:s.heap.objs.size<=D) (hC:s.heap.objs.size<=C) (hDC:D < C)
  (old:∀ b o,s.heap.get? b=some o->h1.get? b=some o) (hns:h1.Ns C m) (hacc:h1.get? D=some { cls:=.type "list",data:=.seq #[] 0 }) (hco:CellsOk h1 (C+1) (cellsFrom (C+1) scope.names [])) :
  a5 (bA X scope N s H C fp E) [] (dR fr σ) (upd H D (.lst [])) { s with heap:=h1,toks:=tk }:=by
 have hHD:H D=none:=I.hok.fresh hD
 have cl:=S.cells I
 have cs:∀ {x:Str}{c:Addr},(cS X.env.cells scope.names []).lookup x=some c->X.env.cells.lookup x=some c:=fun {x c} h=>lP scope.names [] cl (fun _ _ z=>by simp at z) h
 have clt:∀ {x:Str}{c:Addr},X.env.cells.lookup x=some c->c < s.heap.objs.size:=fun {x c} h=>by obtain ⟨v,z⟩:=I.cell x c h; exact z.lt
 have nge:∀ {x:Str}{c:Addr},(x,c) ∈ cellsFrom (C+1) scope.names []->C < c:=fun {x c} h=>(hco.empty x c h).2
 refine⟨⟨I.ok.mod,?_,I.ok.glob,I.ok.blt,hC,?_,?_,?_,I.ok.hd,I.ok.frames,.inl rfl,?_,I.bs,aw6 I.ok.bsz I.sz,?_,?_,I.stack,I.stkFree⟩,rfl,I.bare,Un.laid old hD hHD,⟨m,hns,?_⟩,?_,?_,?_,fun p hp=>absurd (show p ∈ ([]:List (Addr × Obj)) from hp) (by simp),?_,?_⟩
 ·exact S.kind
 ·intro x y c h1 h2
  rcases hJ h1 with a | ⟨_,a⟩ <;> rcases hJ h2 with b | ⟨_,b⟩
  ·exact name_of_addr hco.apart a b
  ·exact absurd (as5 (Nat.lt_trans (nge a) (clt (cs b))) hC) (ax6 _)
  ·exact absurd (as5 (Nat.lt_trans (nge b) (clt (cs a))) hC) (ax6 _)
  ·exact I.ok.inj x y c (cs a) (cs b)
 ·intro x hx
  have hx:(relabel scope X.env).names.lookup x=some .cell ∨ (relabel scope X.env).names.lookup x=some .free:=hx
  have fin:(x,NameKind.free) ∈ scope.names->∃ c,(eG X scope C).lookup x=some c:=fun z=>u5 (.inr (oW scope.names [] (.inl z)))
  rcases hx with hx | hx
  ·rcases lQ hx with z | z
   ·exact u5 (.inl (av9 z))
   ·exact fin (av9 z.1)
  ·rcases lQ hx with z | z
   ·exact fin (av9 z)
   ·exact absurd z.2 (by decide)
 ·intro x c hx h
  have hx:(scope.names.lookup x == some NameKind.cell)=true:=hx
  have hx:scope.names.lookup x=some .cell:=by simpa using hx
  rcases hJ h with a | ⟨a,_⟩
  ·exact aw6 hC (aA4 (nge a))
  ·obtain ⟨d,hd⟩:=lR scope.names (C+1) (av9 hx)
   exact absurd hd (a d)
 ·intro b hb
  refine⟨av4 (as5 (hfl b hb) hC),fun x c e=>?_⟩
  rcases hJ e with a | ⟨_,a⟩
  ·exact aB5 (Nat.lt_trans (as5 (hfl b hb) hC) (nge a))
  ·exact (hf b hb).2.2.2.2.1 x c (cs a)
 ·intro b o e hb
  rcases (hf b hb).2.2.2.1 with z | z
  ·exact I.ok.noex b o e z
  ·exact absurd (as5 (as8 e) (aw6 I.ok.bsz z)) (ax6 _)
 ·intro b hb z
  rcases as4.mp (I.stkSub b z) with e | e
  ·exact (hf b hb).2.1 e
  ·exact (hf b hb).2.2.1 e
 ·intro i x v e1 e2 e3
  have e2:(fr.map fun o=>o.bind fun j=>(σ[j]?).join)[i]? = some (some v):=e2
  rw [au9] at e2
  cases ef:fr[i]? with
  | none=>rw [ef] at e2; cases e2
  | some o=>
   rw [ef] at e2
   cases o with
   | none=>cases e2
   | some j=>
    have e2:some ((σ[j]?).join)=some (some v):=e2
    have ej:σ[j]? = some (some v):=by
     cases q:σ[j]? with
     | none=>rw [q] at e2; cases e2
     | some w=>rw [q] at e2; cases w with
      | none=>cases e2
      | some w=>cases e2; rfl
    obtain ⟨y,a1,a2,a4⟩:=S.from_ i j ef
    have e1:N[i]? = some x:=e1
    rw [e1] at a1
    cases a1
    have a3:(x,NameKind.free) ∈ scope.names:=av9 a4
    have vis:gX X.env.scope x:=(S.free _ a3 rfl).elim (fun z=>.inr (.inl z)) fun z=>.inr (.inr z)
    obtain ⟨m0,hn0,hl0⟩:=I.loc
    obtain ⟨u,r,l⟩:=hl0 j x v a2 ej vis
    refine⟨u,r,.inr ⟨?_,?_⟩⟩
    ·have e3:(relabel scope X.env).names.lookup x=some .local ∨ (relabel scope X.env).names.lookup x=some .cell ∨ (relabel scope X.env).names.lookup x=some .free:=e3
     rcases e3 with z | z | z
     ·rcases lQ z with y | y
      ·rw [a4] at y; cases y
      ·exact absurd y.2 (by decide)
     ·exact .inl z
     ·exact .inr z
    ·obtain ⟨c,hc⟩:=oW (cells:=X.env.cells) scope.names [] (x:=x) (.inl a3)
     refine⟨c,O8 (fun z=>by have:=S.own _ z rfl; rw [a4] at this; cases this) hc,?_⟩
     have hc':=cs hc
     have S1:=S.free (x,.free) a3 rfl
     rcases l with ⟨k,_⟩ | ⟨_,c2,hc2,z⟩
     ·have k:X.env.scope.names.lookup x=some .local:=k
      rcases S1 with q | q <;> (have q:X.env.scope.names.lookup x=_:=q; rw [k] at q; cases q)
     ·rw [hc'] at hc2; cases hc2
      obtain ⟨oc,ho,hd⟩:=z
      exact⟨oc,old c oc ho,hd⟩
 ·intro x c e
  rcases hJ e with a | ⟨_,a⟩
  ·exact⟨_,(hco.empty x c a).1⟩
  ·obtain ⟨v,oc,ho,hd⟩:=I.cell x c (cs a)
   exact⟨v,oc,old c oc ho,hd⟩
 ·show upd H D (.lst []) C=none
  rw [aT (aB5 hDC)]; exact I.hok.fresh hC
 ·intro x c e
  show upd H D (.lst []) c=none
  rcases hJ e with a | ⟨_,a⟩
  ·rw [aT (aB5 (Nat.lt_trans hDC (nge a)))]; exact I.hok.fresh (aw6 hC (aA4 (nge a)))
  ·have q:=cs a
   rw [aT (av4 (as5 (clt q) hD))]
   exact I.freeC x c q
 ·exact I.hok.laid old hD ⟨ay8 _,[],0,.nil,hacc⟩
 ·show (dR fr σ).length=N.length
  unfold dR; rw [at4]; exact S.len
end
def hU (X:Cx) (ifs:List Expr) (t:TT):Prop:=
 ∀ (pins:List (Addr × Obj)) (s:Shared) (σ:St) (H:Hp) (Q:Bool->Hp->Prop),a5 X pins σ H s->t σ H Q->
  wpAny (model X.prog X.w) X.A (forIn ifs true fun c r=>if r=true then do let ok <- isTrue c X.env (eval c X.env); pure (ForInStep.yield ok) else pure (ForInStep.yield r)) (TP X pins σ Q) X.xe s
def u6:TT:=fun _ H Q=>Q true H
theorem P0 {X:Cx}:hU X [] u6:=fun _ _ _ H _ I h=>wpAny_tests_nil ⟨H,I,h⟩
theorem u7 {X:Cx}{c:Expr}{t:TT} (h:PT X c t):hU X [c] t:=fun pins s σ H Q I hq=>wpAny_tests_one (h pins s σ H Q I hq)
section
variable {prog : Program} {w : World} {A : Around}
def oZ (prog:Program) (w:World) (A:Around) (elt tg:Expr) (ifs:List Expr) (it acc:Value) (env:Env) (lost:Value->Shared->Prop) (stop next:Shared->Prop) (s:Shared):Prop:=
 let M:=model prog w
 let tests:Sem Bool:=forIn ifs true fun c r=>if r=true then do let ok <- isTrue c env (eval c env); pure (ForInStep.yield ok) else pure (ForInStep.yield r)
 let put:Shared->Prop:=wpAny M A (eval elt env) (fun x=>wpAny M A (call (.builtin "list.append") [acc,x]) (fun _=>next) lost) lost
 let taken:Value->Shared->Prop:=fun v=>wpAny M A (letOwnedTupleGo tg it v) (fun _=>wpAny M A (assign tg env v) (fun _=>wpAny M A tests (fun ok s'=>if ok=true then put s' else next s') lost) lost) lost
 wpAny M A (pyNext it) (fun r s'=>match r with
  | none=>stop s'
  | some v=>taken v s') lost s
theorem P3 {R:Result->Shared->Prop}{s:Shared}{elt tg iter:Expr}{ifs:List Expr}{scope:Scope}{pos:Pos}{it acc:Value}{env:Env} (I:Nat->Shared->Prop)
  (turn:∀ n s,I n s->oZ prog w A elt tg ifs it acc env (notedBy (model prog w) A env fun e=>R (.error e)) (R (.ok .next)) (fun s'=>∃ m,m < n/\I m s') s) (n:Nat) (h:I n s) :
  codeAny (model prog w) A (.compLoop (.ListComp elt [⟨tg,iter,ifs,0⟩] scope pos) 0 it acc env) R s:=by
 apply codeAny_loop rfl I _ n h
 intro k s1 h1
 change wpAny _ A ((compTurn _ 0 it acc env).onRaise (fun x=>do noteFrame x env; theTreesLotGoes x)) _ _ s1
 apply wpAny_noted
 rw [compTurn_list]
 have t:=turn k s1 h1
 unfold oZ at t
 apply ar6
 apply wpAny_standAt
 apply ar6
 refine ay1 t (fun r s2 h2=>?_) fun _ _ z=>z
 cases r with
 | none=>exact as2 h2
 | some v=>
  apply ar6
  refine ay1 h2 (fun _ s3 h3=>?_) fun _ _ z=>z
  apply ar6
  refine ay1 h3 (fun _ s4 h4=>?_) fun _ _ z=>z
  apply ar6
  refine ay1 h4 (fun ok s5 h5=>?_) fun _ _ z=>z
  cases ok with
  | false=>exact as2 ⟨rfl,h5⟩
  | true=>
   apply ar6
   apply ar6
   refine ay1 h5 (fun x s6 h6=>?_) fun _ _ z=>z
   apply ar6
   exact ay1 h6 (fun _ s7 h7=>as2 (as2 ⟨rfl,h7⟩)) fun _ _ z=>z
end
def u8 (g:TG) (tc:TT) (te:TE) (σ0:St) (J:It) (D:Addr) (Q:VK) (W:Nat->Nat->List V->Hp->Prop):Prop:=
 ∀ i m acc H',W i m acc H'->H' D=some (.lst acc)/\((J.stop i H'/\Q (.ref D) H') ∨ (J.go i H'/\∀ x H2,J.yld i H' x H2->g x σ0 H2 fun σ2 H3=>Wk σ0 σ2/\tc σ2 H3 fun b H4=>
  if b=true then te σ2 H4 fun v H5=>H5 D=some (.lst acc)/\acc.length < sizeLine/\∃ m',m' < m/\W (i+1) m' (acc ++ [v]) (upd H5 D (.lst (acc ++ [v]))) else ∃ m',m' < m/\W (i+1) m' acc H4))
section
variable {M : Model} {A : Around} {E : Value → Shared → Prop} {s : Shared}
theorem P4 {scope:Scope}{globals:Addr}{cl:List (Str × Addr)}{qual:Str}{func:Option Addr}{code:Value}{builtins:Addr}{outer:Env}{Q:Env->Shared->Prop}
  (hQ:∀ h',h'.Ns s.heap.objs.size (fun _=>none)->(∀ b o,s.heap.get? b=some o->h'.get? b=some o)->CellsOk h' (s.heap.objs.size+1) (cellsFrom (s.heap.objs.size+1) scope.names [])->
   Q (newEnv scope s.heap.objs.size globals (cellsFrom (s.heap.objs.size+1) scope.names cl) qual func code (some outer) builtins) { s with heap:=h' }) :
  wpAny M A (newFunctionEnv scope globals cl [] qual func code (some outer) builtins) Q E s:=by
 simp only [newFunctionEnv,Option.isSome_some,if_true]
 refine ar6 (wpAny_alloc ?_)
 refine ar6 (wpAny_layCells _ (fun name kind cells=>by cases hkc:kind == NameKind.cell <;> simp [hkc]) _ _ _ _ ?_)
 have ok:=cellsFrom_ok scope.names (s.heap.push { cls:=.type "dict",data:=.dict #[] }) (s.heap.objs.size+1) [] ⟨fun _ _ hm=>(nomatch hm),List.Pairwise.nil⟩ (by rw [aC5]; exact as3 _)
 rw [aC5] at ok
 rw [show ({ s with heap:=s.heap.push { cls:=.type "dict",data:=.dict #[] } }:Shared).heap.objs.size=s.heap.objs.size+1 from aC5 ..]
 rw [List.forIn_nil]
 refine ar6 (as2 (as2 (hQ _ ((Heap.Ns.new s.heap (.type "dict")).keeps (pushCells_keeps _ _)) (fun b o e=>pushCells_keeps _ _ b o (ar7 _ e)) ok)))
end
section
variable {X : Cx} {pins : List (Addr × Obj)} {σ : St} {H : Hp} {s : Shared} {scope : Scope} {N : List Str} {fr : List (Option Nat)} {tg iter elt : Expr} {ifs : List Expr} {pos : Pos} {wi : TI} {g : TG} {tc : TT} {te : TE}
structure jS (X:Cx) (scope:Scope) (N:List Str) (tg:Expr) (ifs:List Expr) (elt:Expr) (s:Shared) (H:Hp) (g:TG) (tc:TT) (te:TE):Prop where
 tg:∀ (C:Addr) (fp:List Addr),PG (bA X scope N s H C fp fun _ _=>False) tg g
 ifs:∀ (C:Addr) (fp:List Addr),hU (bA X scope N s H C fp fun _ _=>False) ifs tc
 elt:∀ (C:Addr) (fp:List Addr),PE (bA X scope N s H C fp fun _ _=>False) elt te
theorem P5 {C:Addr}{fp:List Addr}{E:Value->Shared->Prop}{pins':List (Addr × Obj)}{σ':St}{H':Hp}{s':Shared} (I:a5 X pins σ H s) (hf:∀ b ∈ fp,dN X pins H b) (I':a5 (bA X scope N s H C fp E) pins' σ' H' s'):a5 X pins σ H' s':=
 I.call' (ch:=fp) I'.os I'.base I'.hok I'.bare fun b hb=>⟨(hf b hb).2.2.2.1,(hf b hb).2.1,(hf b hb).2.2.2.2.1,(hf b hb).2.2.2.2.2⟩
theorem u9 {Rr:Value->Addr->Result->Shared->Prop}{J:It}{fp:List Addr}{it:Addr}{tn:Nat->Heap->Prop}{Q:VK}
  (hc:X.calm=true) (S:cN X scope N fr) (B:jS X scope N tg ifs elt s H g tc te) (I:a5 X pins σ H s) (T:gG X.prog X.w X.K tg J fp it tn) (hst:tn 0 s.heap) (hf:∀ b ∈ fp,dN X pins H b)
  (h:∀ D,H D=none->∃ W:Nat->Nat->List V->Hp->Prop,(∃ m,W 0 m [] (upd H D (.lst [])))/\u8 g tc te (dR fr σ) J D Q W)
  (hend:∀ (D C:Addr) (s':Shared) (H':Hp) (m:Str->Option Value),s.heap.objs.size<=C->s.heap.objs.size<=D->a5 X pins σ H' s'->s'.heap.Ns C m->H' C=none->Q (.ref D) H'->Rr (.ref D) C (.ok .next) s') :
  wpAny (model X.prog X.w) X.A (newList []) (fun acc s₃=>wpAny (model X.prog X.w) X.A (newFunctionEnv scope X.env.globals (cS X.env.cells scope.names []) [] X.env.qual none .none (some X.env)) (fun cenv s₄=>
   codeAny (model X.prog X.w) X.A (.compStart (.ListComp elt [⟨tg,iter,ifs,0⟩] scope pos) 0 (.ref it) acc { cenv with scope:=relabel scope X.env }) (Rr acc cenv.locals) s₄) X.xe s₃) X.xe s:=by
 refine aB0 (P4 (fun h₁ hns₁ keep₁ hco₁=>?_))
 dsimp only at hns₁ keep₁ hco₁ ⊢
 generalize hH2:s.heap.push { cls:=.type "list",dict:=none,data:=.seq ([]:List Value).toArray }=H2 at hns₁ keep₁ hco₁ ⊢
 have hC:H2.objs.size=s.heap.objs.size+1:=by rw [<- hH2,aC5]
 have hDC:s.heap.objs.size < H2.objs.size:=by rw [hC]; exact Nat.lt_succ_self _
 have hCle:s.heap.objs.size<=H2.objs.size:=by rw [hC]; exact Nat.le_succ _
 have old:∀ b o,s.heap.get? b=some o->h₁.get? b=some o:=fun b o e=>keep₁ b o (hH2 ▸ ar7 _ e)
 have hacc:h₁.get? s.heap.objs.size=some { cls:=.type "list",data:=.seq #[] 0 }:=keep₁ _ _ (hH2 ▸ au5 _ rfl)
 have hfl:∀ b ∈ fp,b < s.heap.objs.size:=fun b hb=>by obtain ⟨o,e,_⟩:=T.obj _ _ hst b hb; exact as8 e
 obtain ⟨W,⟨m0,w0⟩,turn⟩:=h s.heap.objs.size (I.hok.fresh (as3 _))
 have st1:tn 0 h₁:=T.keep _ _ _ hst fun b _ o e=>old b o e
 have fr0:∀ b ∈ fp,upd H s.heap.objs.size (.lst []) b=none:=fun b hb=>by rw [aT (av4 (hfl b hb))]; exact (hf b hb).1
 have stat:∀ {H':Hp},(∀ b ∈ fp,H' b=none)->∀ b ∈ fp,dN (bA X scope N s H H2.objs.size fp fun _ _=>False) [] H' b:=fun {H'} hn b hb=>by
  have f:=hf b hb
  refine⟨hn b hb,av4 (as5 (hfl b hb) hCle),fun z=>?_,.inl hb,fun x c e=>(hJ e).elim (fun z=>aB5 (Nat.lt_trans (as5 (hfl b hb) hCle) (hco₁.empty x c z).2)) fun z=>f.2.2.2.2.1 x c (lP scope.names [] (S.cells I) (fun _ _ z=>by simp at z) z.2),fun p hp=>absurd (show p ∈ ([]:List (Addr × Obj)) from hp) (by simp)⟩
  rcases as4.mp (I.stkSub b z) with e | e
  ·exact f.2.1 e
  ·exact f.2.2.1 e
 generalize hX:bA X scope N s H H2.objs.size fp (fun _ _=>False)=Y at stat
 have I0:a5 Y [] (dR fr σ) (upd H s.heap.objs.size (.lst [])) { s with heap:=h₁ }:=hX ▸ O9 S I hf hfl (as3 _) hCle hDC old hns₁ hacc hco₁
 have bt:PG Y tg g:=hX ▸ B.tg H2.objs.size fp
 have bi:hU Y ifs tc:=hX ▸ B.ifs H2.objs.size fp
 have be:PE Y elt te:=hX ▸ B.elt H2.objs.size fp
 have eP:Y.prog=X.prog:=by rw [<- hX]; rfl
 have ew:Y.w=X.w:=by rw [<- hX]; rfl
 have eK:Y.K=X.K:=by rw [<- hX]; rfl
 have eA:Y.A=X.A:=by rw [<- hX]; rfl
 have eE:Y.env=compEnvC scope (eG X scope H2.objs.size) H2.objs.size X.env:=by rw [<- hX]; rfl
 have eX:Y.xe=fun _ _=>False:=by rw [<- hX]; rfl
 have ec:Y.calm=true:=by rw [<- hX]; exact hc
 have never:∀ {E:Value->Shared->Prop} (e:Value) (s':Shared),Y.xe e s'->E e s':=fun {E} e s' z=>by rw [eX] at z; exact z.elim
 have out:∀ {pins' σ' H' s'},a5 Y pins' σ' H' s'->a5 X pins σ H' s':=fun {_ _ _ _} I'=>P5 (C:=H2.objs.size) (E:=fun _ _=>False) (scope:=scope) (N:=N) I hf (hX ▸ I')
 have loop:codeAny (model X.prog X.w) X.A (.compLoop (.ListComp elt [⟨tg,iter,ifs,0⟩] scope pos) 0 (.ref it) (.ref s.heap.objs.size) (compEnvC scope (eG X scope H2.objs.size) H2.objs.size X.env))
   (Rr (.ref s.heap.objs.size) H2.objs.size) { s with heap:=h₁ }:=by
  refine P3 (fun n s'=>∃ i acc H',a5 Y [] (dR fr σ) H' s'/\tn i s'.heap/\(∀ b ∈ fp,H' b=none)/\W i n acc H') ?_ m0 ⟨0,[],_,I0,st1,fr0,w0⟩
  rintro n s3 ⟨i,acc,H3,I3,st3,fr3,w3⟩
  unfold oZ
  dsimp only
  obtain ⟨hD3,step⟩:=turn i n acc H3 w3
  rcases step with ⟨stop,qn⟩ | ⟨go,step⟩
  ·have z:=T.done Y eP ew eK ec i [] s3 _ H3 (notedBy (model X.prog X.w) X.A (compEnvC scope (eG X scope H2.objs.size) H2.objs.size X.env) fun e s'=>Rr (.ref s.heap.objs.size) H2.objs.size (.error e) s') I3 (stat fr3) st3 stop
   rw [eA] at z
   refine aK z fun r s4 ⟨hr,I4⟩=>?_
   subst hr
   obtain ⟨m4,hn4,_⟩:=I4.loc
   rw [eE] at hn4
   have f4:=I4.free
   rw [eE] at f4
   exact hend _ _ s4 H3 m4 hCle (as3 _) (out I4) hn4 f4 qn
  ·have z:=T.item Y eP ew eK ec i [] s3 _ H3 (notedBy (model X.prog X.w) X.A (compEnvC scope (eG X scope H2.objs.size) H2.objs.size X.env) fun e s'=>Rr (.ref s.heap.objs.size) H2.objs.size (.error e) s') I3 (stat fr3) st3 go
   rw [eA] at z
   refine aK z fun r s4 ⟨u,hr,h4⟩=>?_
   subst hr
   refine aK h4 fun _ s5 ⟨x,H5,I5,r5,y5,st5,fr5⟩=>?_
   have I5':=I5.pinned (stat fr5) (T.obj _ _ st5)
   have q1:=bt _ s5 _ H5 x u _ I5' r5 (step x H5 y5)
   rw [eP,ew,eA,eE] at q1
   refine ay1 q1 (fun _ s6 ⟨σ6,H6,I6,wk,q6⟩=>?_) never
   have q2:=bi _ s6 σ6 H6 _ I6 q6
   rw [eP,ew,eA,eE] at q2
   refine ay1 q2 (fun b s7 ⟨H7,I7,q7⟩=>?_) never
   have again:∀ {H8:Hp}{s8:Shared}{acc':List V},a5 Y ([] ++ jM fp s5.heap) σ6 H8 s8->(∃ m',m' < n/\W (i+1) m' acc' H8)->∃ m,m < n/\∃ i acc H',a5 Y [] (dR fr σ) H' s8/\tn i s8.heap/\(∀ b ∈ fp,H' b=none)/\W i m acc H':=fun {H8 s8 acc'} I8 n8=>by
    obtain ⟨m',hm,w8⟩:=n8
    refine⟨m',hm,i+1,acc',H8,(I8.unpinned).weak wk.1 wk.2,T.keep _ _ _ st5 fun b hb o e=>(I8.pin (b,o) (au8 _ (au8 _ (lI hb e)))).1,fun b hb=>?_,w8⟩
    obtain ⟨o,e,d⟩:=T.obj _ _ st5 b hb
    exact (I8.pin (b,o) (au8 _ (au8 _ (lI hb e)))).2.1
   cases b with
   | false=>
    rw [if_neg at3] at q7 ⊢
    exact again I7 q7
   | true=>
    rw [if_pos rfl] at q7 ⊢
    have q3:=be _ s7 σ6 H7 _ I7 q7
    rw [eP,ew,eA,eE] at q3
    refine ay1 q3 (fun v s8 ⟨y,H8,I8,r8,hD8,hz8,q8⟩=>?_) never
    have q4:=oU _ s8 σ6 H8 (.ref s.heap.objs.size) [y] (.ref s.heap.objs.size) [v] (fun _ H9=>∃ m',m' < n/\W (i+1) m' (acc ++ [y]) H9) I8 rfl (.cons r8 .nil) ⟨_,_,_,rfl,rfl,hD8,hz8,q8⟩
    rw [eP,ew,eA] at q4
    exact ay1 q4 (fun _ s9 ⟨_,H9,I9,_,q9⟩=>again I9 q9) never
 exact codeAny_compStart_list loop (T.self _ 0 _ _ _ st1 loop)
end
section
variable {X : Cx} {scope : Scope} {N : List Str} {fr : List (Option Nat)} {tg iter elt : Expr} {ifs : List Expr} {pos : Pos} {wi : TI} {g : TG} {tc : TT} {te : TE}
theorem a5.drop {pins:List (Addr × Obj)}{σ:St}{H H':Hp}{s s':Shared}{C:Addr}{h':Heap} (I0:a5 X pins σ H s) (hC:s.heap.objs.size<=C) {σ':St} (I:a5 X pins σ' H' s') (hn:H' C=none) (sb:Heap.SameBut C s'.heap h'):a5 X pins σ' H' { s' with heap:=h' }:=by
 refine I.turned (t':=s'.toks) (it:=C) (fun b o hb e=>(sb.2 b hb).trans e) hn (aB5 (as5 I0.lt hC)) (.inr (aw6 I0.sz hC)) (fun x c e z=>?_) fun p hp z=>?_
 ·obtain ⟨v,q⟩:=I0.cell x c e
  exact absurd (as5 q.lt (by rw [z]; exact hC)) (ax6 _)
 ·exact absurd (as5 (as8 (I0.pin p hp).1) (by rw [z]; exact hC)) (ax6 _)
variable {gh : Hp → TG} {tch : Hp → TT} {teh : Hp → TE}
def p5 (wi:TI) (fr:List (Option Nat)) (gh:Hp->TG) (tch:Hp->TT) (teh:Hp->TE):TE:=fun σ H Q=>wi σ H fun J H1=>∀ D,H1 D=none->
 ∃ W:Nat->Nat->List V->Hp->Prop,(∃ m,W 0 m [] (upd H1 D (.lst [])))/\u8 (gh H1) (tch H1) (teh H1) (dR fr σ) J D Q W
theorem p6 (hc:X.calm=true) (S:cN X scope N fr) (hi:PI X tg iter wi) (B:∀ (s:Shared) (H:Hp),jS X scope N tg ifs elt s H (gh H) (tch H) (teh H))
  (hs:∀ x,foldedSetIterable iter X.env x=pure x:=by intro _; rfl):PE X (.ListComp elt [⟨tg,iter,ifs,0⟩] scope pos) (p5 wi fr gh tch teh):=by
 intro pins s σ H Q I h
 rw [eval_ListComp]
 refine wpAny_comprehension_free (use:=none) rfl hs (u0 (S.cells I)) S.kind S.names (aK (hi pins s σ H _ I h) fun v s1 h1=>aK h1 fun itv s2 h2=>?_)
 obtain ⟨it,fp,tn,J,H2,e,I2,T,st2,f2,hW⟩:=h2
 subst e
 refine u9 (Rr:=fun acc C=>compPost (model X.prog X.w) X.A X.xe none (EP X pins σ Q) acc C) hc S (B _ _) I2 T st2 f2 hW ?_
 intro D C s' H' m hC hD I' hns hHC q
 exact⟨m,hns,fun h' sb=>⟨.ref D,H',I2.drop hC I' hHC sb,rfl,q⟩⟩
theorem uA {i:Nat}{x:Str}{px spos:Pos} (hc:X.calm=true) (S:cN X scope N fr) (hi:PI X tg iter wi) (B:∀ (s:Shared) (H:Hp),jS X scope N tg ifs elt s H (gh H) (tch H) (teh H)) (hN:X.N.Nodup) (hix:X.N[i]? = some x) (hx:X.env.scope.names.lookup x=some .local)
  (hsw:swapsWith (.ListComp elt [⟨tg,iter,ifs,0⟩] scope pos) (some (.Name x px)) spos.line X.env=pure true) (hs:∀ x,foldedSetIterable iter X.env x=pure x:=by intro _; rfl) :
  PS X (.Assign [.Name x px] (.ListComp elt [⟨tg,iter,ifs,0⟩] scope pos) spos) (lH (p5 wi fr gh tch teh) (cR i)):=by
 intro pins s σ H D I h
 rw [exec_Assign_Name_used _ _ _ _ hsw]
 refine ar6 (wpAny_standAt (ar6 ?_))
 show wpAny _ _ (do let _ <- comprehension (.ListComp elt [⟨tg,iter,ifs,0⟩] scope pos) scope X.env _ (newList []) false (eval iter X.env) (some (assign (.Name x px) X.env))) _ _ s
 refine ar6 (ay1 (wpAny_comprehension_free (Q:=fun _ s'=>SP X pins D .next s') (use:=some (assign (.Name x px) X.env)) rfl hs (u0 (S.cells I)) S.kind S.names (aK (hi pins s σ H _ I h) fun v s1 h1=>aK h1 fun itv s2 h2=>?_))
  (fun _ s' hq=>as2 (as2 hq)) fun _ _ e=>e)
 obtain ⟨it,fp,tn,J,H2,e,I2,T,st2,f2,hW⟩:=h2
 subst e
 refine u9 (Rr:=fun acc C=>compPost (model X.prog X.w) X.A X.xe (some (assign (.Name x px) X.env)) (fun _ s'=>SP X pins D .next s') acc C) hc S (B _ _) I2 T st2 f2 hW ?_
 intro D' C s' H' m hC hD I' hns hHC q
 refine wpAny_assign_Name (sA I' hN hix (.inl hx) (v:=.ref D') rfl (fun s'' I'' sb=>?_) (.inr hx))
 obtain ⟨a,sb,ha⟩:=sb
 have hCa:C ≠ a:=by
  rcases ha with z | z
  ·rw [z]; exact aB5 (as5 I2.lt hC)
  ·intro e; subst e
   obtain ⟨v,q⟩:=I2.cell x _ z
   exact absurd (as5 q.lt hC) (ax6 _)
 exact⟨m,hns.sameBut sb hCa,fun h' sb'=>⟨_,H',I2.drop hC I'' hHC sb',q⟩⟩
end
theorem bR {H:Hp}{p:Addr} (h:H p=none) (o:HO):aA H (upd H p o):=fun b u q=>by rw [aT (eL q h)]; exact q
end L2
namespace Srt
open PySem PySem.W PyProof.Rows
abbrev G (p:Array Nat) (i:Nat):Nat:=p.getD i 0
def PP (n:Nat) (p:Array Nat):Prop:=p.toList.Perm (List.range n)
structure uB (c:Nat->Nat->Bool):Prop where
 asym:∀ {i j},c i j=true->c j i=false
 ntr:∀ {i j k},c i j=false->c j k=false->c i k=false
section
variable {c : Nat → Nat → Bool} (O : uB c)
def Le (c:Nat->Nat->Bool) (i j:Nat):Prop:=c j i=false
include O
theorem le_refl (i:Nat):Le c i i:=by
 unfold Le
 cases h:c i i with
 | false=>rfl
 | true=>have:=O.asym h; rw [h] at this; exact this
theorem le_trans {i j k:Nat} (h1:Le c i j) (h2:Le c j k):Le c i k:=O.ntr h2 h1
end
end Srt
namespace L2
open PySem PySem.Spec PyProof.Rows
theorem p7:∀ {xs:List V}{us:List Value} (i:Nat),i < xs.length->aF xs us->aS (xs.getD i .non) (us.getD i Value.none)
 | _,_,_,h,.nil=>by simp at h
 | _,_,0,_,.cons r _=>by simpa using r
 | _,_,i+1,h,.cons _ t=>by
  have:=p7 i (by simpa using h) t
  simpa using this
theorem lT {α:Type}:∀ l:List α,(l.zip l).map (·.2)=l
 | []=>rfl
 | a :: l=>by
  show a :: ((l.zip l).map (·.2))=a :: l
  rw [lT l]
theorem P6 {prog:Program}{w:World}{A:Around}{E:Value->Shared->Prop}{s:Shared}{a:Addr}{vs:List Value}{n:Nat}{P:PySem.Fin->Shared->Prop} (e:s.heap.get? a=some (seqObj "list" vs.toArray n)) (few:vs.length < 2)
  (q:P (.done (.ret .none)) { s with heap:=sortedHeap s.heap a vs vs.toArray }):wpAny (model prog w) A (Builtin.«list.sort» ⟨[.ref a],[]⟩) P E s:=by
 have big:vs.length<=sizeLine:=aw6 (aA4 few) (by decide)
 have la:=as8 e
 have c:vs.toArray.size < 2:=by simpa using few
 have same:(arrOf (SortSt.mk' general' (vs.toArray.zip vs.toArray) #[] 7 none)).map (·.2)=vs.toArray:=by
  change (vs.toArray.zip vs.toArray).map (·.2)=vs.toArray
  apply Array.ext'
  simpa using lT vs
 obtain ⟨k,ek⟩:∃ k,(s.heap.update a (Obj.mapSeq fun _=>#[])).get? a=some (seqObj "list" #[] k):=⟨_,get?_update_seq e fun _=>#[]⟩
 have there:(((s.heap.update a (Obj.mapSeq fun _=>#[])).push (seqObj "tuple" vs.toArray 0)).push (seqObj "list" #[] 0)).get? a=some (seqObj "list" #[] k):=
  ar7 _ (ar7 _ ek)
 rw [list_sort_plain]
 apply ar6
 apply listItems_at e rfl
 apply ar6
 refine listUpdate_at e rfl ?_ (by simpa using big) (ay8 _)
 apply ar6
 apply seqEpoch_at ek rfl
 apply ar6
 refine wpAny_newTuple ?_ big
 apply ar6
 refine wpAny_newList ?_ (ay8 _)
 apply aB8
 simp only [c,if_true,StateT.run_pure]
 apply ar6
 apply as2
 apply ar6
 apply as2
 apply ar6
 apply seqEpoch_at there rfl
 apply ar6
 refine listUpdate_at there rfl ?_ (ay8 _) (by rw [same,ar8]; exact Nat.le_succ_of_le big)
 rw [same]
 simp only [bne_self_eq_false,aw8,aD2]
 exact as2 q
theorem P7 {prog:Program}{w:World}{A:Around}{E:Value->Shared->Prop}{s:Shared}{l:Addr}{vs:List Value}{Q:Value->Shared->Prop} (hl:s.heap.IsList l vs.toArray) (few:vs.length < 2)
  (q:Q (.ref (s.heap.objs.size+1)) { s with heap:=sortedAll s.heap vs vs.toArray }):wpAny (model prog w) A (call (.builtin "sorted") [.ref l]) Q E s:=by
 have big:vs.length<=sizeLine:=aw6 (aA4 few) (by decide)
 apply Calls.call_function_entry kind_sorted plain_sorted entry_sorted (args_sorted1 _)
 simp only [Builtin.«sorted»]
 apply ar6 (m:=checkCount "sorted" 1 1 _)
 apply as2
 apply ar6
 refine collect_list hl ?_ big
 apply ar6
 refine wpAny_newList ?_ big
 have one:((s.heap.push (seqObj "list" #[] 0)).update s.heap.objs.size (Obj.mapSeq (· ++ vs.toArray))).objs.size=s.heap.objs.size+1:=(Heap.size_update _ _ _).trans (size_push' _ _)
 have at1:(((s.heap.push (seqObj "list" #[] 0)).update s.heap.objs.size (Obj.mapSeq (· ++ vs.toArray))).push (seqObj "list" vs.toArray 0)).get? (s.heap.objs.size+1)=some (seqObj "list" vs.toArray 0):=one ▸ au5 _ rfl
 change wpAny _ _ _ _ _ { s with heap:=((s.heap.push (seqObj "list" #[] 0)).update s.heap.objs.size (Obj.mapSeq (· ++ vs.toArray))).push (seqObj "list" vs.toArray 0) }
 rw [one]
 apply ar6
 apply aB8
 refine aA2 slot_list_sort ⟨_,at1,rfl⟩ entry_list_sort ?_ (args_list_sort _)
 refine P6 at1 few ⟨_,rfl,?_⟩
 exact as2 ⟨_,rfl,q⟩
section
variable {prog : Program} {w : World} {A : Around} {s : Shared} {Q : Bool → Shared → Prop}
theorem uC:∀ {us ws:List Value}{xs ys:List Int} (i:Nat),IntsAre us xs->IntsAre ws ys->Q (HT.bI xs ys) s->PySem.W.KatLex prog w A true (decide (us.length < ws.length)) Q (us.zip ws) i s
 | _,_,_,_,_,.nil,.nil,h=>h
 | _,_,_,_,_,.nil,.cons _ _ _,h=>h
 | _,_,_,_,_,.cons _ _ _,.nil,h=>h
 | _,_,_,_,i,.cons (vs:=us) x t hx,.cons (vs:=ws) y u hy,h=>by
  refine PySem.W.kat_cons (wpAny_eqBool_int ?_)
  rw [HT.gI] at h
  by_cases e:x=y
  ·rw [if_pos e] at h
   have eb:(x == y)=true:=by simpa using e
   rw [eb]
   refine PySem.W.kat_yes ?_
   have e2:decide ((Value.int x t :: us).length < (Value.int y u :: ws).length)=decide (us.length < ws.length):=by simp
   rw [e2]
   exact uC (i+1) hx hy h
  ·rw [if_neg e] at h
   have eb:(x == y)=false:=by simpa using e
   rw [eb]
   refine PySem.W.kat_no ?_
   cases hi:(true && i == 0) with
   | true=>exact PySem.W.kat_lt_int h
   | false=>exact PySem.W.kat_one _ _ (lt_int h)
end
section
variable {X : Cx}
theorem P8:cB X (.builtin "isinstance") (fun xs H Q=>∃ x t n b,xs = [x,.ty n]/\dG X.K H x t/\PySem.W.kitOne X.K t (.type n)=some b/\Q (.bl b) H):=by
 intro pins s σ H xs us Q I r h
 obtain ⟨x,t,n,b,rfl,ty,e,q⟩:=h
 obtain ⟨u,u',rfl,ru,ru'⟩:=jP r
 cases ru'
 exact G6 I ru ty e fun tk=>⟨.bl b,H,I.tok tk,rfl,q⟩
end
def uD (outer:List (Str × NameKind)) (XN:List Str) (names:List (Str × NameKind)) (N:List Str) (fr:List (Option Nat)):Bool:=
 names.all (fun y=>!(y.2 == .cell) || names.lookup y.1 == some .cell) && names.all (fun y=>!(y.2 == .local) || names.lookup y.1 == some .local) &&
 names.all (fun y=>!(y.2 == .free) || (outer.lookup y.1 == some .cell || outer.lookup y.1 == some .free)) && fr.length == N.length &&
 (fr.zip N).all (fun p=>match p.1 with
  | none=>true
  | some j=>XN[j]? == some p.2 && names.lookup p.2 == some .free)
theorem cN.of {X:Cx}{scope:Scope}{N:List Str}{fr:List (Option Nat)} (hk:scope.kind = .function) (h:uD X.env.scope.names X.N scope.names N fr=true):cN X scope N fr:=by
 unfold uD at h
 simp only [az7] at h
 obtain ⟨⟨⟨⟨h1,h2⟩,h3⟩,h4⟩,h5⟩:=h
 refine⟨hk,fun y hy e=>?_,fun y hy e=>?_,fun y hy e=>?_,by simpa using h4,fun i j e=>?_⟩
 ·have:=az8.mp h1 y hy
  rw [e] at this; simpa using this
 ·have:=az8.mp h2 y hy
  rw [e] at this; simpa using this
 ·have:=az8.mp h3 y hy
  rw [e] at this; simpa using this
 ·have hl:fr.length=N.length:=by simpa using h4
  have hi:i < fr.length:=(au3.mp e).1
  have m:(some j,N[i]'(by omega)) ∈ fr.zip N:=by
   have:(fr.zip N)[i]? = some (some j,N[i]'(by omega)):=by
    rw [List.getElem?_zip_eq_some]
    exact⟨e,by simp⟩
   exact List.mem_of_getElem? this
  have:=az8.mp h5 _ m
  simp only [az7,beq_iff_eq] at this
  exact⟨N[i]'(by omega),by simp,this.1,this.2⟩
def uE (ls:List (Int × Int)) (k:Int):List Int:=ls.flatMap fun l=>(if l.1=k then [l.2] else []) ++ (if l.2=k then [l.1] else [])
theorem P9 {α:Type}{xs:List α}{i:Int}{v:α} (h0:0<=i) (h:xs[i.toNat]? = some v):atI xs i=some v:=by
 have:=tN h
 rwa [show ((i.toNat:Nat):Int)=i by omega] at this
theorem lU {n:Nat} (h:n<=16000000):n < sizeLine:=by rw [sizeLine_eq]; omega
theorem p9 {K:PySem.W.Frag}{H:Hp}{p:Addr}{xs:List V} (h:aJ K H p xs):eO K "list" (.ref p) H:=.inl ⟨rfl,xs,h⟩
end L2
namespace Zp
open PySem PyProof.Rows
section
variable {prog : Program} {w : World} {A : Around} {E : Value → Shared → Prop} {s : Shared}
theorem Q0 {it t:Addr}{i:Nat}{items:Array Value}{x:Value}{Q:Value->Shared->Prop} (hi:s.heap.IsTupleIter it t i) (ht:s.heap.IsTuple t items) (hx:items[i]? = some x)
  (q:∀ h',h'.IsTupleIter it t (i+1)->Heap.SameBut it s.heap h'->Q x { s with heap:=h' }):wpAny (model prog w) A (Builtin.SmallTypes.nextOf (.ref it)) Q E s:=by
 have T:=hi.typeIs
 obtain ⟨o,e1,e2,e3⟩:=hi
 obtain ⟨u,f1,_,k,f3⟩:=ht
 have slot:=PySem.F.slot_tuple_iterator_next
 have isref:(Value.ref t == Value.none)=false:=rfl
 unfold Builtin.SmallTypes.nextOf
 apply ar6
 apply az6 (name:=Str.ofString "__next__") T slot
 apply aA2 slot T PySem.F.entry_tuple_iterator_next _ (PySem.F.args_tuple_iterator_next_1 _)
 change wpAny _ _ (field (.ref it) 0 >>= _) _ _ s
 apply ar6
 refine ay7 e1 e3 (x:=.ref t) rfl ?_
 change wpAny _ _ (if (Value.ref t == Value.none)=true then _ else _) _ _ s
 simp only [isref,aw8,aD2]
 change wpAny _ _ (field (.ref it) 1 >>= _) _ _ s
 apply ar6
 refine ay7 e1 e3 (x:=.int i 0) rfl ?_
 change wpAny _ _ (seqItems? (.ref t) >>= _) _ _ s
 apply ar6
 apply aC6 f1 f3
 simp only [Int.toNat_natCast,hx]
 apply ar6
 refine wpAny_setField e1 e3 (by simp) ?_
 apply as2
 refine⟨x,rfl,as2 (q _ ⟨_,Heap.get?_update_self _ e1 (Obj.isFreed_of_fields (Obj.data_mapFields e3 _)),?_,?_⟩ (Heap.SameBut.update ..))⟩
 ·rw [Obj.cls_mapFields]; exact e2
 ·rw [Obj.data_mapFields e3]; simp [rawInt]
theorem Q2 {it t:Addr}{i:Nat}{items:Array Value}{Q:Value->Shared->Prop} (hh:A.handled=none) (hi:s.heap.IsTupleIter it t i) (ht:s.heap.IsTuple t items) (hx:items[i]? = none)
  (q:∀ h' e,Heap.ExtBut it s.heap h'->(∃ o,h'.get? e=some o/\o.cls = .type "StopIteration")->E (.ref e) { s with heap:=h' }):wpAny (model prog w) A (Builtin.SmallTypes.nextOf (.ref it)) Q E s:=by
 have T:=hi.typeIs
 obtain ⟨o,e1,e2,e3⟩:=hi
 obtain ⟨u,f1,_,k,f3⟩:=ht
 have slot:=PySem.F.slot_tuple_iterator_next
 have isref:(Value.ref t == Value.none)=false:=rfl
 unfold Builtin.SmallTypes.nextOf
 apply ar6
 apply az6 (name:=Str.ofString "__next__") T slot
 apply aA2 slot T PySem.F.entry_tuple_iterator_next _ (PySem.F.args_tuple_iterator_next_1 _)
 change wpAny _ _ (field (.ref it) 0 >>= _) _ _ s
 apply ar6
 refine ay7 e1 e3 (x:=.ref t) rfl ?_
 change wpAny _ _ (if (Value.ref t == Value.none)=true then _ else _) _ _ s
 simp only [isref,aw8,aD2]
 change wpAny _ _ (field (.ref it) 1 >>= _) _ _ s
 apply ar6
 refine ay7 e1 e3 (x:=.int i 0) rfl ?_
 change wpAny _ _ (seqItems? (.ref t) >>= _) _ _ s
 apply ar6
 apply aC6 f1 f3
 simp only [Int.toNat_natCast,hx]
 apply ar6
 apply aC7
 apply ar6
 refine wpAny_setField e1 e3 (by simp) ?_
 apply ar6
 simp only [newExc,newTuple]
 apply ar6
 refine aB0 ?_ (by size_fits)
 apply ar6
 refine wpAny_of_eq (a:=Value.none) (by first | rfl | (simp only [firstArgMember]; rfl)) ?_
 refine aB0 ?_ (by size_fits)
 unfold raiseNew
 apply ar6
 apply wpAny_handled
 have quiet:A.in1.handled=none:=hh
 rw [quiet]
 refine wpAny_throw ?_
 exact q _ _ (((Heap.SameBut.update ..).extBut.push _).push _) ⟨_,au5 _ rfl,rfl⟩
theorem Q3 (hh:A.handled=none) (it t:Addr) (ne:t ≠ it) (items:Array Value):Draws prog w A it [it,t] items.size (fun i v=>items[i]? = some v) (fun i h=>h.IsTupleIter it t i/\h.IsTuple t items) where
 live:=fun _ _ st=>st.1.elim fun o y=>⟨o,y.1⟩
 frame:=fun _ _ _ st k=>⟨st.1.at fun o e=>k it au6 o e,st.2.elim fun o y=>⟨o,k t (au4 _ au6) o y.1,y.2⟩⟩
 item:=fun i s Q E lt st q=>Q0 st.1 st.2 (Array.getElem?_eq_getElem lt) fun h' again sb=>q _ h' s.toks (Array.getElem?_eq_getElem lt) ⟨again,st.2.elim fun o y=>⟨o,sb.extBut t o ne y.1,y.2⟩⟩ sb
 done:=fun s Q E st q=>Q2 hh st.1 st.2 (Array.getElem?_eq_none (as3 _)) q
end
structure Ap (z TI TO i1 i2:Addr) (fp1 fp2:List Addr):Prop where
 TIz:TI ≠ z
 TOz:TO ≠ z
 TITO:TI ≠ TO
 z1:z ∉ fp1
 z2:z ∉ fp2
 o1:TO ∉ fp1
 o2:TO ∉ fp2
 t1:TI ∉ fp1
 t2:TI ∉ fp2
 m1:i1 ∈ fp1
 m2:i2 ∈ fp2
 n1:i1 ∉ fp2
 n2:i2 ∉ fp1
structure pA (z TI TO i1 i2:Addr) (St1 St2:Nat->Heap->Prop) (f0:Value) (i j:Nat) (h:Heap):Prop where
 zz:IsZip h z TI TO f0
 ti:IsPair h TI (.ref i1) (.ref i2)
 to_:∃ a b,IsPair h TO a b
 s1:St1 i h
 s2:St2 j h
section
variable {prog : Program} {w : World} {A : Around} {E : Value → Shared → Prop} {s : Shared} {z TI TO i1 i2 : Addr} {fp1 fp2 : List Addr} {n1 n2 : Nat} {P1 P2 : Nat → Value → Prop} {St1 St2 : Nat → Heap → Prop}
theorem iJ (ap:Ap z TI TO i1 i2 fp1 fp2) {b:Addr} (h:b ∉ fp1):b ≠ i1:=fun e=>h (e ▸ ap.m1)
theorem lV (ap:Ap z TI TO i1 i2 fp1 fp2) {b:Addr} (h:b ∉ fp2):b ≠ i2:=fun e=>h (e ▸ ap.m2)
theorem item (D1:Draws prog w A.in1 i1 fp1 n1 P1 St1) (D2:Draws prog w A.in1 i2 fp2 n2 P2 St2) (ap:Ap z TI TO i1 i2 fp1 fp2) {i:Nat} (l1:i < n1) (l2:i < n2) (st:pA z TI TO i1 i2 St1 St2 .none i i s.heap) {Q:Option Value->Shared->Prop}
  (q:∀ x y h' tk,P1 i x->P2 i y->pA z TI TO i1 i2 St1 St2 (rawInt s.heap.objs.size) (i+1) (i+1) h'->IsPair h' s.heap.objs.size x y->(∀ c o,c ≠ z->c ≠ TO->c ≠ i1->c ≠ i2->s.heap.get? c=some o->h'.get? c=some o)->
   h'.objs.size=s.heap.objs.size+1->Q (some (.ref s.heap.objs.size)) { s with heap:=h',toks:=tk }):wpAny (model prog w) A (pyNext (.ref z)) Q E s:=by
 obtain ⟨hz,hti,⟨a,b,hto⟩,h1,h2⟩:=st
 have T:s.TypeIs (.ref z) "zip":=⟨_,hz,rfl⟩
 have slot:=PySem.F.slot_zip_next
 unfold pyNext
 apply ar6
 apply wpAny_attempt
 apply az6 (name:=Str.ofString "__next__") T slot
 apply aA2 slot T PySem.F.entry_zip_next _ (PySem.F.args_zip_next_1 _)
 change wpAny _ _ (field (.ref z) 2 >>= _) _ _ _
 apply ar6
 refine ay7 hz rfl (x:=.bool false) rfl ?_
 change wpAny _ _ (field (.ref z) 3 >>= _) _ _ _
 apply ar6
 refine ay7 hz rfl (x:=.ref TI) rfl ?_
 apply ar6
 apply aC6 hti rfl
 change wpAny _ _ (Builtin.SmallTypes.ownedTupleIsFree (.ref z) >>= _) _ _ _
 apply ar6
 unfold Builtin.SmallTypes.ownedTupleIsFree
 apply ar6
 refine ay7 hz rfl (x:=.none) rfl (as2 ?_)
 simp only [if_true]
 apply ar6
 apply aC7
 apply ar6
 refine ay7 hz rfl (x:=.ref TO) rfl ?_
 apply ar6
 refine aC8 hz (by simp) fun g1 hz1 sb1=>?_
 have k1:∀ c o,c ≠ z->s.heap.get? c=some o->g1.get? c=some o:=fun c o c1 e=>sb1.extBut c o c1 e
 apply ar6
 simp only [List.zipIdx_cons,List.zipIdx_nil,List.forIn_cons,List.forIn_nil]
 apply ar6
 apply ar6
 apply wpAny_onRaise
 change wpAny _ _ (Builtin.SmallTypes.nextOf (.ref i1) >>= _) _ _ _
 apply ar6
 refine D1.item i { s with heap:=g1 } _ _ l1 (D1.frame _ _ _ h1 fun c hc o e=>k1 c o (fun y=>ap.z1 (y ▸ hc)) e) fun x g2 tk2 px st1 sb2=>as2 ?_
 have k2:∀ c o,c ≠ z->c ≠ i1->s.heap.get? c=some o->g2.get? c=some o:=fun c o c1 c2 e=>sb2.extBut c o c2 (k1 c o c1 e)
 have to2:IsPair g2 TO a b:=k2 _ _ ap.TOz (iJ ap ap.o1) hto
 apply ar6
 apply aC6 to2 rfl
 apply ar6
 refine wpAny_updateSeq_pair to2 fun g3 to3 sb3=>?_
 have to3:IsPair g3 TO x b:=to3
 apply ar6
 apply wpAny_letGo
 apply as2
 apply ar6
 apply ar6
 apply wpAny_onRaise
 change wpAny _ _ (Builtin.SmallTypes.nextOf (.ref i2) >>= _) _ _ _
 apply ar6
 have k3:∀ c o,c ≠ z->c ≠ i1->c ≠ TO->s.heap.get? c=some o->g3.get? c=some o:=fun c o c1 c2 c3 e=>sb3.extBut c o c3 (k2 c o c1 c2 e)
 refine D2.item i { s with heap:=g3,toks:=tk2 } _ _ l2 (D2.frame _ _ _ h2 fun c hc o e=>k3 c o (fun y=>ap.z2 (y ▸ hc)) (fun y=>ap.n1 (y ▸ hc)) (fun y=>ap.o2 (y ▸ hc)) e) fun y g4 tk4 py st2 sb4=>as2 ?_
 have to4:IsPair g4 TO x b:=sb4.extBut _ _ (lV ap ap.o2) to3
 apply ar6
 apply aC6 to4 rfl
 apply ar6
 refine wpAny_updateSeq_pair to4 fun g5 to5 sb5=>?_
 have to5:IsPair g5 TO x y:=to5
 apply ar6
 apply wpAny_letGo
 apply as2
 apply as2
 apply ar6
 apply aC6 to5 rfl
 apply ar6
 refine wpAny_newTuple ?_ (by show 2<=sizeLine; decide)
 have size:g5.objs.size=s.heap.objs.size:=by rw [sb5.1,sb4.1,sb3.1,sb2.1,sb1.1]
 have k5:∀ c o,c ≠ z->c ≠ TO->c ≠ i1->c ≠ i2->s.heap.get? c=some o->g5.get? c=some o:=fun c o c1 c2 c3 c4 e=>sb5.extBut c o c2 (sb4.extBut c o c4 (k3 c o c1 c3 c2 e))
 have z5:IsZip g5 z TI TO .ellipsis:=sb5.extBut _ _ (Ne.symm ap.TOz) (sb4.extBut _ _ (lV ap ap.z2) (sb3.extBut _ _ (Ne.symm ap.TOz) (sb2.extBut _ _ (iJ ap ap.z1) hz1)))
 change wpAny _ _ (Builtin.SmallTypes.ownedTupleHandOut (.ref z) (.ref g5.objs.size) >>= _) _ _ _
 apply ar6
 unfold Builtin.SmallTypes.ownedTupleHandOut
 apply ar6
 have z6:IsZip (g5.push { cls:=.type "tuple",data:=.seq #[x,y] }) z TI TO .ellipsis:=ar7 _ z5
 refine aC8 z6 (by simp) fun g7 z7 sb7=>?_
 have z7:IsZip g7 z TI TO (rawInt g5.objs.size):=z7
 refine aC8 z7 (by simp) fun g8 z8 sb8=>?_
 have z8:IsZip g8 z TI TO (rawInt g5.objs.size):=z8
 have zlt:z < g5.objs.size:=as8 z5
 have up:∀ c o,c ≠ z->g5.get? c=some o->g8.get? c=some o:=fun c o c1 e=>sb8.extBut c o c1 (sb7.extBut c o c1 (ar7 _ e))
 have p8:IsPair g8 g5.objs.size x y:=sb8.extBut _ _ (aB5 zlt) (sb7.extBut _ _ (aB5 zlt) (au5 _ rfl))
 have s8:g8.objs.size=g5.objs.size+1:=by rw [sb8.1,sb7.1,aC5]
 have f1:St1 (i+1) g8:=D1.frame _ _ _ st1 fun c hc o e=>up c o (fun y=>ap.z1 (y ▸ hc)) (sb5.extBut c o (fun y=>ap.o1 (y ▸ hc)) (sb4.extBut c o (fun y=>ap.n2 (y ▸ hc)) (sb3.extBut c o (fun y=>ap.o1 (y ▸ hc)) e)))
 have f2:St2 (i+1) g8:=D2.frame _ _ _ st2 fun c hc o e=>up c o (fun y=>ap.z2 (y ▸ hc)) (sb5.extBut c o (fun y=>ap.o2 (y ▸ hc)) e)
 have ti8:IsPair g8 TI (.ref i1) (.ref i2):=up _ _ ap.TIz (k5 _ _ ap.TIz ap.TITO (iJ ap ap.t1) (lV ap ap.t2) hti)
 rw [size] at z8 p8 s8
 apply as2
 refine⟨_,rfl,as2 ?_⟩
 change Q (some (.ref g5.objs.size)) _
 rw [size]
 exact q x y g8 tk4 px py ⟨z8,ti8,⟨x,y,up _ _ ap.TOz to5⟩,f1,f2⟩ p8 (fun c o c1 c2 c3 c4 e=>up c o c1 (k5 c o c1 c2 c3 c4 e)) s8
theorem fin (D1:Draws prog w A.in1 i1 fp1 n1 P1 St1) (D2:Draws prog w A.in1 i2 fp2 n2 P2 St2) (ap:Ap z TI TO i1 i2 fp1 fp2) {i:Nat} (le:i=n1 ∨ (i < n1/\i=n2)) (st:pA z TI TO i1 i2 St1 St2 .none i i s.heap) {Q:Option Value->Shared->Prop}
  (q:∀ h' tk,(∀ c o,c ≠ z->c ≠ TO->c ≠ i1->c ≠ i2->s.heap.get? c=some o->h'.get? c=some o)->Q none { s with heap:=h',toks:=tk }):wpAny (model prog w) A (pyNext (.ref z)) Q E s:=by
 obtain ⟨hz,hti,⟨a,b,hto⟩,h1,h2⟩:=st
 have T:s.TypeIs (.ref z) "zip":=⟨_,hz,rfl⟩
 have slot:=PySem.F.slot_zip_next
 unfold pyNext
 apply ar6
 apply wpAny_attempt
 apply az6 (name:=Str.ofString "__next__") T slot
 apply aA2 slot T PySem.F.entry_zip_next _ (PySem.F.args_zip_next_1 _)
 change wpAny _ _ (field (.ref z) 2 >>= _) _ _ _
 apply ar6
 refine ay7 hz rfl (x:=.bool false) rfl ?_
 change wpAny _ _ (field (.ref z) 3 >>= _) _ _ _
 apply ar6
 refine ay7 hz rfl (x:=.ref TI) rfl ?_
 apply ar6
 apply aC6 hti rfl
 change wpAny _ _ (Builtin.SmallTypes.ownedTupleIsFree (.ref z) >>= _) _ _ _
 apply ar6
 unfold Builtin.SmallTypes.ownedTupleIsFree
 apply ar6
 refine ay7 hz rfl (x:=.none) rfl (as2 ?_)
 simp only [if_true]
 apply ar6
 apply aC7
 apply ar6
 refine ay7 hz rfl (x:=.ref TO) rfl ?_
 apply ar6
 refine aC8 hz (by simp) fun g1 hz1 sb1=>?_
 have k1:∀ c o,c ≠ z->s.heap.get? c=some o->g1.get? c=some o:=fun c o c1 e=>sb1.extBut c o c1 e
 apply ar6
 simp only [List.zipIdx_cons,List.zipIdx_nil,List.forIn_cons,List.forIn_nil]
 apply ar6
 apply ar6
 apply wpAny_onRaise
 change wpAny _ _ (Builtin.SmallTypes.nextOf (.ref i1) >>= _) _ _ _
 apply ar6
 have z1:IsZip g1 z TI TO .ellipsis:=hz1
 rcases le with rfl | ⟨lt,rfl⟩
 ·refine D1.done { s with heap:=g1 } _ _ (D1.frame _ _ _ h1 fun c hc o e=>k1 c o (fun y=>ap.z1 (y ▸ hc)) e) fun g2 e eb ex=>?_
  have z2:IsZip g2 z TI TO .ellipsis:=eb _ _ (iJ ap ap.z1) z1
  refine aC8 z2 (by simp) fun g3 z3 sb3=>?_
  obtain ⟨oe,eo,co⟩:=ex
  have ne:e ≠ z:=fun y=>by
   rw [y,z2] at eo
   have:=av0 eo
   rw [<- this] at co; exact absurd (show Value.type "zip" = Value.type "StopIteration" from co) (by decide)
  apply ar6
  refine wpAny_isInstance (T:="StopIteration") (b:=true) ⟨oe,sb3.extBut _ _ ne eo,co⟩ isSubtype_stop ?_
  exact as2 (q g3 s.toks fun c o c1 _ c3 _ e=>sb3.extBut c o c1 (eb c o c3 (k1 c o c1 e)))
 ·refine D1.item i { s with heap:=g1 } _ _ lt (D1.frame _ _ _ h1 fun c hc o e=>k1 c o (fun y=>ap.z1 (y ▸ hc)) e) fun x g2 tk2 px st1 sb2=>as2 ?_
  have k2:∀ c o,c ≠ z->c ≠ i1->s.heap.get? c=some o->g2.get? c=some o:=fun c o c1 c2 e=>sb2.extBut c o c2 (k1 c o c1 e)
  have to2:IsPair g2 TO a b:=k2 _ _ ap.TOz (iJ ap ap.o1) hto
  apply ar6
  apply aC6 to2 rfl
  apply ar6
  refine wpAny_updateSeq_pair to2 fun g3 to3 sb3=>?_
  apply ar6
  apply wpAny_letGo
  apply as2
  apply ar6
  apply ar6
  apply wpAny_onRaise
  change wpAny _ _ (Builtin.SmallTypes.nextOf (.ref i2) >>= _) _ _ _
  apply ar6
  have k3:∀ c o,c ≠ z->c ≠ i1->c ≠ TO->s.heap.get? c=some o->g3.get? c=some o:=fun c o c1 c2 c3 e=>sb3.extBut c o c3 (k2 c o c1 c2 e)
  refine D2.done { s with heap:=g3,toks:=tk2 } _ _ (D2.frame _ _ _ h2 fun c hc o e=>k3 c o (fun y=>ap.z2 (y ▸ hc)) (fun y=>ap.n1 (y ▸ hc)) (fun y=>ap.o2 (y ▸ hc)) e) fun g4 e eb ex=>?_
  have z4:IsZip g4 z TI TO .ellipsis:=eb _ _ (lV ap ap.z2) (sb3.extBut _ _ (Ne.symm ap.TOz) (sb2.extBut _ _ (iJ ap ap.z1) z1))
  refine aC8 z4 (by simp) fun g5 z5 sb5=>?_
  obtain ⟨oe,eo,co⟩:=ex
  have ne:e ≠ z:=fun y=>by
   rw [y,z4] at eo
   have:=av0 eo
   rw [<- this] at co; exact absurd (show Value.type "zip" = Value.type "StopIteration" from co) (by decide)
  apply ar6
  refine wpAny_isInstance (T:="StopIteration") (b:=true) ⟨oe,sb5.extBut _ _ ne eo,co⟩ isSubtype_stop ?_
  exact as2 (q g5 tk2 fun c o c1 c2 c3 c4 e=>sb5.extBut c o c1 (eb c o c4 (k3 c o c1 c3 c2 e)))
end
def dS (h:Heap) (t u:Addr):Heap:=
 ((((h.push { cls:=.type "tuple_iterator",data:=.fields #[.ref t,.int 0 0] }).push { cls:=.type "tuple_iterator",data:=.fields #[.ref u,.int 0 0] }).push { cls:=.type "tuple",data:=.seq #[.ref h.objs.size,.ref (h.objs.size+1)] }).push
  { cls:=.type "tuple",data:=.seq #[.none,.none] }).push { cls:=.type "zip",data:=.fields #[.none,.bool false,.bool false,.ref (h.objs.size+2),.ref (h.objs.size+3)] }
theorem Q4 (t u:Addr) (xs ys:Array Value):Meets (Builtin.«zip.__new__» ⟨[.type "zip",.ref t,.ref u],[]⟩) (fun _ R s=>s.heap.IsTuple t xs/\s.heap.IsTuple u ys/\R (.ok (.ret (.ref (s.heap.objs.size+4)))) { s with heap:=dS s.heap t u }):=
 .of_wp fun prog w A R s h=>by
  obtain ⟨hp,g,d,tk,os⟩:=s
  obtain ⟨ht,hu,h⟩:=h
  have sub:=sub_zip
  have a1:Heap.IsTuple (Shared.heap ⟨hp,g,d,tk,os⟩) t xs:=ht
  have a2:Heap.IsTuple (Shared.heap ⟨hp.push { cls:=.type "tuple_iterator",data:=.fields #[.ref t,.int 0 0] },g,d,tk,os⟩) u ys:=hu.elim fun o y=>⟨o,ar7 _ y.1,y.2⟩
  wp_walk using wpAny_pyIter_tuple a1,wpAny_pyIter_tuple a2
  have e:∀ (o:Obj) (k:Heap),(k.push o).objs.size=k.objs.size+1:=fun o k=>aC5 ..
  refine⟨_,rfl,?_⟩
  simp only [dS,e] at h ⊢
  exact h
section
variable {prog : Program} {w : World} {A : Around} {E : Value → Shared → Prop} {s : Shared}
theorem Q5 {t u:Addr}{xs ys:Array Value}{Q:Value->Shared->Prop} (ht:s.heap.IsTuple t xs) (hu:s.heap.IsTuple u ys)
  (q:∀ h',IsZip h' (s.heap.objs.size+4) (s.heap.objs.size+2) (s.heap.objs.size+3) .none->IsPair h' (s.heap.objs.size+2) (.ref s.heap.objs.size) (.ref (s.heap.objs.size+1))->
   IsPair h' (s.heap.objs.size+3) .none .none->h'.IsTupleIter s.heap.objs.size t 0->h'.IsTupleIter (s.heap.objs.size+1) u 0->(∀ c o,s.heap.get? c=some o->h'.get? c=some o)->Q (.ref (s.heap.objs.size+4)) { s with heap:=h' }) :
  wpAny (model prog w) A (call (.type "zip") [.ref t,.ref u]) Q E s:=by
 refine callType_new PySem.F.called_zip (by decide) (PySem.F.typeCall_zip_2 _ _) (PySem.F.newCall_zip_2 _ _) (fun obj=>PySem.F.args_object_init_3 obj _ _) PySem.F.entry_zip_new (Q4 t u xs ys) ⟨ht,hu,?_⟩
 have e:∀ (o:Obj) (k:Heap),(k.push o).objs.size=k.objs.size+1:=fun o k=>aC5 ..
 have p0:∀ (k:Heap) (o:Obj) (m:Nat),o.isFreed=false->m=k.objs.size->(k.push o).get? m=some o:=fun k o m f z=>by rw [z]; exact au5 _ f
 have g0:(dS s.heap t u).get? s.heap.objs.size=some { cls:=.type "tuple_iterator",data:=.fields #[.ref t,.int 0 0] }:=by
  unfold dS
  exact ar7 _ (ar7 _ (ar7 _ (ar7 _ (p0 _ _ _ rfl rfl))))
 have g1:(dS s.heap t u).get? (s.heap.objs.size+1)=some { cls:=.type "tuple_iterator",data:=.fields #[.ref u,.int 0 0] }:=by
  unfold dS
  exact ar7 _ (ar7 _ (ar7 _ (p0 _ _ _ rfl (by simp only [e]))))
 have g2:(dS s.heap t u).get? (s.heap.objs.size+2)=some { cls:=.type "tuple",data:=.seq #[.ref s.heap.objs.size,.ref (s.heap.objs.size+1)] }:=by
  unfold dS
  exact ar7 _ (ar7 _ (p0 _ _ _ rfl (by simp only [e])))
 have g3:(dS s.heap t u).get? (s.heap.objs.size+3)=some { cls:=.type "tuple",data:=.seq #[.none,.none] }:=by
  unfold dS
  exact ar7 _ (p0 _ _ _ rfl (by simp only [e]))
 have g4:(dS s.heap t u).get? (s.heap.objs.size+4)=some { cls:=.type "zip",data:=.fields #[.none,.bool false,.bool false,.ref (s.heap.objs.size+2),.ref (s.heap.objs.size+3)] }:=by
  unfold dS
  exact p0 _ _ _ rfl (by simp only [e])
 refine⟨⟨_,g4,rfl⟩,q _ g4 g2 g3 ⟨_,g0,rfl,rfl⟩ ⟨_,g1,rfl,rfl⟩ fun c o z=>?_⟩
 unfold dS
 exact ar7 _ (ar7 _ (ar7 _ (ar7 _ (ar7 _ z))))
end
end Zp
namespace L2
open PySem PySem.Spec PyProof.Rows
def pB (K:PySem.W.Frag) (a b:Addr):It:=
  ⟨fun i H=>∃ xs ys x y,aG K H a xs/\aG K H b ys/\xs[i]? = some x/\ys[i]? = some y,
   fun i H v H'=>∃ T x y,H T=none/\v = .ref T/\H'=upd H T (.tup [x,y])/\∀ xs ys,aG K H a xs->aG K H b ys->xs[i]? = some x/\ys[i]? = some y,
   fun i H=>∃ xs ys,aG K H a xs/\aG K H b ys/\(i=xs.length ∨ (i < xs.length/\i=ys.length))⟩
def Sq (t:Bool) (K:PySem.W.Frag) (H:Hp) (a:Addr) (xs:List V):Prop:=match t with
 | true=>aG K H a xs
 | false=>aJ K H a xs
def dU (t:Bool) (h:Heap) (i a:Addr) (n:Nat):Prop:=match t with
 | true=>h.IsTupleIter i a n
 | false=>h.IsListIter i a n
def uF (t:Bool) (h:Heap) (a:Addr) (xs:Array Value):Prop:=match t with
 | true=>h.IsTuple a xs
 | false=>h.IsList a xs
theorem dU.at {h h':Heap}{i a:Addr}{n:Nat}:∀ {t:Bool},dU t h i a n->(∀ o,h.get? i=some o->h'.get? i=some o)->dU t h' i a n
 | true,x,k=>Heap.IsTupleIter.at x k
 | false,x,k=>Heap.IsListIter.at x k
theorem dU.ob {h:Heap}{i a:Addr}{n:Nat}:∀ {t:Bool},dU t h i a n->∃ o,h.get? i=some o/\∀ v,o.data ≠ .cell v
 | true,⟨o,f,_,d⟩=>⟨o,f,fun v q=>by rw [d] at q; cases q⟩
 | false,⟨o,f,_,d⟩=>⟨o,f,fun v q=>by rw [d] at q; cases q⟩
theorem dU.draws {prog:Program}{w:World}{A:Around}:∀ (t:Bool) (hh:A.handled=none) (it a:Addr) (ne:a ≠ it) (items:Array Value),Draws prog w A it [it,a] items.size (fun i v=>items[i]? = some v) (fun i h=>dU t h it a i/\uF t h a items)
 | true,hh,it,a,ne,items=>Zp.Q3 hh it a ne items
 | false,hh,it,a,ne,items=>Draws.list hh it a ne items
section
variable {X : Cx} {pins : List (Addr × Obj)} {σ : St} {H : Hp} {s : Shared} {a : Addr} {xs ys : List V}
theorem Sq.get (I:a5 X pins σ H s):∀ {t:Bool},Sq t X.K H a xs->∃ us,aF xs us/\uF t s.heap a us.toArray
 | true,h=>by obtain ⟨us,r,p,_⟩:=I.tuple h; exact⟨us,r,p⟩
 | false,h=>by obtain ⟨us,r,p,_⟩:=I.list h; exact⟨us,r,p.isList⟩
theorem Sq.inj (I:a5 X pins σ H s):∀ {t:Bool},Sq t X.K H a xs->Sq t X.K H a ys->xs=ys
 | true,h,g=>I.tuple_inj h g
 | false,h,g=>I.list_inj h g
theorem Sq.off (I:a5 X pins σ H s) (he:H a=none) (hb:X.base.get? a=none):∀ {t:Bool},Sq t X.K H a xs->False
 | true,h=>by
  rcases h with (h | ⟨_,h⟩) | ⟨o,_,_,h,_⟩
  ·rw [he] at h; cases h
  ·rw [he] at h; cases h
  ·have:=I.ok.mod.kin a o h
   rw [hb] at this; cases this
 | false,h=>by
  rcases h with (h | ⟨_,h⟩) | ⟨o,_,_,h,_⟩
  ·rw [he] at h; cases h
  ·rw [he] at h; cases h
  ·have:=I.ok.mod.kin a o h
   rw [hb] at this; cases this
end
def Q6 (t1 t2:Bool) (K:PySem.W.Frag) (a b:Addr):It:=
  ⟨fun i H=>∃ xs ys x y,Sq t1 K H a xs/\Sq t2 K H b ys/\xs[i]? = some x/\ys[i]? = some y,
   fun i H v H'=>∃ T x y,H T=none/\v = .ref T/\H'=upd H T (.tup [x,y])/\∀ xs ys,Sq t1 K H a xs->Sq t2 K H b ys->xs[i]? = some x/\ys[i]? = some y,
   fun i H=>∃ xs ys,Sq t1 K H a xs/\Sq t2 K H b ys/\(i=xs.length ∨ (i < xs.length/\i=ys.length))⟩
structure pC (t1 t2:Bool) (z TI TO i1 i2 a b:Addr) (i:Nat) (h:Heap):Prop where
 zz:IsZip h z TI TO .none
 ti:IsPair h TI (.ref i1) (.ref i2)
 to_:∃ x y,IsPair h TO x y
 s1:dU t1 h i1 a i
 s2:dU t2 h i2 b i
theorem uG (t1 t2:Bool) {P:Program}{w:World}{K:PySem.W.Frag}{elts:List Expr}{k:Nat}{pos:Pos} (a b z TI TO i1 i2:Addr) (d : [z,TI,TO,i1,i2].Nodup) :
  gG P w K (.Tuple elts k pos) (Q6 t1 t2 K a b) [z,TI,TO,i1,i2] z (pC t1 t2 z TI TO i1 i2 a b):=by
 have nd:z ≠ TI/\z ≠ TO/\z ≠ i1/\z ≠ i2/\TI ≠ TO/\TI ≠ i1/\TI ≠ i2/\TO ≠ i1/\TO ≠ i2/\i1 ≠ i2:=by
  simp only [List.nodup_cons,as4,at9,az3,not_or] at d
  obtain ⟨⟨a1,a2,a3,a4⟩,⟨b1,b2,b3⟩,⟨c1,c2⟩,e1,_⟩:=d
  exact⟨a1,a2,a3,a4,b1,b2,b3,c1,c2,e1⟩
 obtain ⟨n1,n2,n3,n4,n5,n6,n7,n8,n9,n10⟩:=nd
 have offBase:∀ {X:Cx}{pins:List (Addr × Obj)}{σ:St}{H:Hp}{s:Shared},a5 X pins σ H s->(∀ c ∈ [z,TI,TO,i1,i2],dN X pins H c)->∀ c ∈ [z,TI,TO,i1,i2],X.base.get? c=none:=by
  intro X pins σ H s I hf c hc
  cases q:X.base.get? c with
  | none=>rfl
  | some o=>
   rcases (hf c hc).2.2.2.1 with h | h
   ·exact absurd h (I.ok.noex c o q)
   ·exact absurd (as5 (as8 q) (aw6 I.ok.bsz h)) (ax6 _)
 have off:∀ {t:Bool}{X:Cx}{pins:List (Addr × Obj)}{σ:St}{H:Hp}{s:Shared}{c:Addr}{zs:List V},a5 X pins σ H s->(∀ c ∈ [z,TI,TO,i1,i2],dN X pins H c)->Sq t X.K H c zs->c ∉ [z,TI,TO,i1,i2]:=by
  intro t X pins σ H s c zs I hf hc hm
  exact Sq.off I (hf c hm).1 (offBase I hf c hm) hc
 have ap:∀ {c e:Addr},c ∉ [z,TI,TO,i1,i2]->e ∉ [z,TI,TO,i1,i2]->Zp.Ap z TI TO i1 i2 [i1,c] [i2,e]:=fun {c e} hc he=>by
  simp only [as4,at9,az3,not_or] at hc he
  obtain ⟨c1,c2,c3,c4,c5⟩:=hc
  obtain ⟨e1,e2,e3,e4,e5⟩:=he
  have two:∀ {q u v:Addr},q ≠ u->q ≠ v->q ∉ [u,v]:=fun {q u v} h1 h2 hm=>by
   simp only [as4,at9,az3] at hm
   exact hm.elim h1 h2
  exact⟨n1.symm,n2.symm,n5,two n3 (Ne.symm c1),two n4 (Ne.symm e1),two n8 (Ne.symm c3),two n9 (Ne.symm e3),two n6 (Ne.symm c2),two n7 (Ne.symm e2),au6,au6,two n10 (Ne.symm e4),two n10.symm (Ne.symm c5)⟩
 refine⟨by simp,fun i h st c hc=>?_,fun i h h' st kp=>?_,?_,?_,fun A i s Q E st q=>wpAny_pyIter_zip st.zz q⟩
 ·simp only [as4,at9,az3] at hc
  obtain ⟨x,y,to⟩:=st.to_
  rcases hc with rfl | rfl | rfl | rfl | rfl
  ·exact⟨_,st.zz,fun v q=>by cases q⟩
  ·exact⟨_,st.ti,fun v q=>by cases q⟩
  ·exact⟨_,to,fun v q=>by cases q⟩
  ·exact st.s1.ob
  ·exact st.s2.ob
 ·obtain ⟨x,y,to⟩:=st.to_
  exact⟨kp z (by simp) _ st.zz,kp TI (by simp) _ st.ti,⟨x,y,kp TO (by simp) _ to⟩,st.s1.at fun o e=>kp i1 (by simp) o e,st.s2.at fun o e=>kp i2 (by simp) o e⟩
 ·
  intro X hP hw hK hc i pins s σ H E I hf st hg
  subst hP hw hK
  obtain ⟨xs,ys,x,y,ha,hb,hx,hy⟩:=hg
  obtain ⟨us,ru,pu⟩:=Sq.get I ha
  obtain ⟨vs,rv,pv'⟩:=Sq.get I hb
  obtain ⟨ux,eux,rux⟩:=ru.get hx
  obtain ⟨vy,evy,rvy⟩:=rv.get hy
  have fa:=off I hf ha
  have fb:=off I hf hb
  have hh:X.A.in1.handled=none:=I.ok.hd hc
  have l1:i < us.toArray.size:=by simpa using (au3.mp eux).1
  have l2:i < vs.toArray.size:=by simpa using (au3.mp evy).1
  have fa':a ≠ i1:=fun q=>fa (by rw [q]; simp)
  have fb':b ≠ i2:=fun q=>fb (by rw [q]; simp)
  have D1:=dU.draws t1 (prog:=X.prog) (w:=X.w) hh i1 a fa' us.toArray
  have D2:=dU.draws t2 (prog:=X.prog) (w:=X.w) hh i2 b fb' vs.toArray
  refine Zp.item D1 D2 (ap fa fb) l1 l2 ⟨st.zz,st.ti,st.to_,⟨st.s1,pu⟩,⟨st.s2,pv'⟩⟩ fun p q h' tk hp hq st' pr kp sz=>⟨_,rfl,?_⟩
  obtain rfl:p=ux:=by
   have:us.toArray[i]? = some ux:=by simpa using eux
   rw [this] at hp; exact (av0 hp).symm
  obtain rfl:q=vy:=by
   have:vs.toArray[i]? = some vy:=by simpa using evy
   rw [this] at hq; exact (av0 hq).symm
  refine wpAny_letOwnedTupleGo_zip (s:={ s with heap:=h',toks:=tk }) st'.zz fun g zz sb=>?_
  have hzl:z < s.heap.objs.size:=as8 st.zz
  have up:∀ c o,c ≠ z->c ≠ TO->c ≠ i1->c ≠ i2->s.heap.get? c=some o->g.get? c=some o:=fun c o c1 c2 c3 c4 e=>sb.extBut c o c1 (kp c o c1 c2 c3 c4 e)
  have hT:H s.heap.objs.size=none:=I.hok.fresh (as3 _)
  have prG:IsPair g s.heap.objs.size p q:=sb.extBut _ _ (aB5 hzl) pr
  have fpn:∀ c u,H c=some u->c ∉ [z,TI,TO,i1,i2]:=fun c u e hm=>by rw [(hf c hm).1] at e; cases e
  have upH:∀ c o u,H c=some u->s.heap.get? c=some o->g.get? c=some o:=fun c o u e z=>by
   have:=fpn c u e
   simp only [as4,at9,az3,not_or] at this
   exact up c o this.1 this.2.2.1 this.2.2.2.1 this.2.2.2.2 z
  have ns:∀ m,s.heap.Ns X.env.locals m->g.Ns X.env.locals m:=fun m hm=>by
   obtain ⟨o,es,ep,e1,e2⟩:=hm
   exact⟨o,es,ep,up _ o (Ne.symm (hf z (by simp)).2.1) (Ne.symm (hf TO (by simp)).2.1) (Ne.symm (hf i1 (by simp)).2.1) (Ne.symm (hf i2 (by simp)).2.1) e1,e2⟩
  have I2:a5 X pins σ (upd H s.heap.objs.size (.tup [x,y])) { s with heap:=g,toks:=tk }:=by
   refine I.step (g':=s.gens) (d':=s.drawn) (ch:=[z,TO,i1,i2]) (fun c hc'=>?_) (fun c o _ _ hc' e _=>?_) (fun c o _ _ hc' e _=>⟨o.slots,?_⟩) (fun c o _ e n=>?_) (fun c o hc' e=>⟨o,?_⟩)
    (fun c zs e=>by rw [aT (eL e hT)]; exact e) (fun c u zs e=>by rw [aT (eL e hT)]; exact e) (fun c ps e=>⟨#[],by rw [aT (eL e hT),e]; simp⟩) ns (fun c u e=>?_) I.bare
   ·have hm:c ∈ [z,TI,TO,i1,i2]:=by
     simp only [as4,at9,az3] at hc' ⊢
     rcases hc' with h | h | h | h <;> simp [h]
    exact⟨(hf c hm).2.2.2.1,(hf c hm).2.1,(hf c hm).2.2.2.2.1,(hf c hm).2.2.2.2.2⟩
   ·simp only [as4,at9,az3,not_or] at hc'
    exact up c o hc'.1 hc'.2.1 hc'.2.2.1 hc'.2.2.2 e
   ·simp only [as4,at9,az3,not_or] at hc'
    exact up c o hc'.1 hc'.2.1 hc'.2.2.1 hc'.2.2.2 e
   ·rw [aT (av4 (as8 e))]; exact n
   ·simp only [as4,at9,az3,not_or] at hc'
    exact up c o hc'.1 hc'.2.1 hc'.2.2.1 hc'.2.2.2 e
   ·by_cases hcT:c=s.heap.objs.size
    ·subst hcT
     rw [cD] at e; cases e
     exact⟨by show 2<=sizeLine; decide,[p,q],.cons rux (.cons rvy .nil),⟨_,prG,rfl,_,rfl⟩,fun u e=>by rw [prG] at e; cases e; rfl⟩
    ·rw [aT hcT] at e
     refine (I.hok c u e).stay (fun c' o' hc2 q'=>?_) (fun c' q'=>by rw [aT (eL q' hT)]; exact q') fun c' zs q'=>by rw [aT (eL q' hT)]; exact q'
     rcases hc2 with rfl | hc2
     ·exact upH _ _ _ e q'
     ·exact upH _ _ _ hc2 q'
  obtain ⟨x',y',to'⟩:=st'.to_
  refine⟨.ref s.heap.objs.size,_,I2,rfl,⟨_,x,y,hT,rfl,rfl,fun xs' ys' ha' hb'=>?_⟩,⟨zz,sb.extBut _ _ n1.symm st'.ti,⟨x',y',sb.extBut _ _ n2.symm to'⟩,st'.s1.1.at fun o e=>sb.extBut _ o n3.symm e,st'.s2.1.at fun o e=>sb.extBut _ o n4.symm e⟩,fun c hc'=>?_⟩
  ·rw [Sq.inj I ha' ha,Sq.inj I hb' hb]; exact⟨hx,hy⟩
  ·obtain ⟨o,e,_⟩:∃ o,s.heap.get? c=some o/\True:=by
    simp only [as4,at9,az3] at hc'
    obtain ⟨x2,y2,to2⟩:=st.to_
    obtain ⟨o1,f1,_⟩:=st.s1.ob
    obtain ⟨o2,f2,_⟩:=st.s2.ob
    rcases hc' with rfl | rfl | rfl | rfl | rfl
    ·exact⟨_,st.zz,trivial⟩
    ·exact⟨_,st.ti,trivial⟩
    ·exact⟨_,to2,trivial⟩
    ·exact⟨_,f1,trivial⟩
    ·exact⟨_,f2,trivial⟩
   rw [aT (av4 (as8 e))]; exact (hf c hc').1
 ·
  intro X hP hw hK hc i pins s σ H E I hf st hg
  subst hP hw hK
  obtain ⟨xs,ys,ha,hb,hi⟩:=hg
  obtain ⟨us,ru,pu⟩:=Sq.get I ha
  obtain ⟨vs,rv,pv'⟩:=Sq.get I hb
  have fa:=off I hf ha
  have fb:=off I hf hb
  have hh:X.A.in1.handled=none:=I.ok.hd hc
  have fa':a ≠ i1:=fun q=>fa (by rw [q]; simp)
  have fb':b ≠ i2:=fun q=>fb (by rw [q]; simp)
  have D1:=dU.draws t1 (prog:=X.prog) (w:=X.w) hh i1 a fa' us.toArray
  have D2:=dU.draws t2 (prog:=X.prog) (w:=X.w) hh i2 b fb' vs.toArray
  have e1:=ru.length
  have e2:=rv.length
  refine Zp.fin D1 D2 (ap fa fb) (by simp only [ar8]; omega) ⟨st.zz,st.ti,st.to_,⟨st.s1,pu⟩,⟨st.s2,pv'⟩⟩ fun g tk kp=>⟨rfl,?_⟩
  have fpn:∀ c u,H c=some u->c ∉ [z,TI,TO,i1,i2]:=fun c u e hm=>by rw [(hf c hm).1] at e; cases e
  have upH:∀ c o u,H c=some u->s.heap.get? c=some o->g.get? c=some o:=fun c o u e z=>by
   have:=fpn c u e
   simp only [as4,at9,az3,not_or] at this
   exact kp c o this.1 this.2.2.1 this.2.2.2.1 this.2.2.2.2 z
  have ns:∀ m,s.heap.Ns X.env.locals m->g.Ns X.env.locals m:=fun m hm=>by
   obtain ⟨o,es,ep,e1,e2⟩:=hm
   exact⟨o,es,ep,kp _ o (Ne.symm (hf z (by simp)).2.1) (Ne.symm (hf TO (by simp)).2.1) (Ne.symm (hf i1 (by simp)).2.1) (Ne.symm (hf i2 (by simp)).2.1) e1,e2⟩
  refine I.step (g':=s.gens) (d':=s.drawn) (ch:=[z,TO,i1,i2]) (fun c hc'=>?_) (fun c o _ _ hc' e _=>?_) (fun c o _ _ hc' e _=>⟨o.slots,?_⟩) (fun c o _ e n=>n) (fun c o hc' e=>⟨o,?_⟩)
   (fun c zs e=>e) (fun c u zs e=>e) (fun c ps e=>⟨#[],by rw [e]; simp⟩) ns (fun c u e=>?_) I.bare
  ·have hm:c ∈ [z,TI,TO,i1,i2]:=by
    simp only [as4,at9,az3] at hc' ⊢
    rcases hc' with h | h | h | h <;> simp [h]
   exact⟨(hf c hm).2.2.2.1,(hf c hm).2.1,(hf c hm).2.2.2.2.1,(hf c hm).2.2.2.2.2⟩
  ·simp only [as4,at9,az3,not_or] at hc'
   exact kp c o hc'.1 hc'.2.1 hc'.2.2.1 hc'.2.2.2 e
  ·simp only [as4,at9,az3,not_or] at hc'
   exact kp c o hc'.1 hc'.2.1 hc'.2.2.1 hc'.2.2.2 e
  ·simp only [as4,at9,az3,not_or] at hc'
   exact kp c o hc'.1 hc'.2.1 hc'.2.2.1 hc'.2.2.2 e
  ·refine (I.hok c u e).stay (fun c' o' hc2 q'=>?_) (fun _ q'=>q') fun _ _ q'=>q'
   rcases hc2 with rfl | hc2
   ·exact upH _ _ _ e q'
   ·exact upH _ _ _ hc2 q'
abbrev Q7:=pC true true
theorem Q8 {P:Program}{w:World}{K:PySem.W.Frag}{elts:List Expr}{k:Nat}{pos:Pos} (a b z TI TO i1 i2:Addr) (d : [z,TI,TO,i1,i2].Nodup) :
  gG P w K (.Tuple elts k pos) (pB K a b) [z,TI,TO,i1,i2] z (Q7 z TI TO i1 i2 a b):=uG true true a b z TI TO i1 i2 d
section
variable {X : Cx}
theorem Q9 (hc:X.calm=true):cB X (.builtin "all") (fun xs H Q=>∃ (a:Addr) (bs:List Bool),xs = [.ref a]/\aJ X.K H a (bs.map V.bl)/\Q (.bl (bs.all id)) H):=by
 intro pins s σ H xs us Q I r h
 obtain ⟨a,bs,rfl,hq,q⟩:=h
 obtain ⟨u,rfl,ru⟩:=fC r
 cases ru
 obtain ⟨its,rv,p,hz⟩:=I.list hq
 have hl:=rv.length
 rw [at4] at hl
 have hlt:a < s.heap.objs.size:=by obtain ⟨o,e,_⟩:=p.isList; exact as8 e
 refine call_all_walk (wpAny_pyIter_list p.isList ?_)
 have hh:X.A.in1.handled=none:=I.ok.hd hc
 refine⟨s.heap.objs.size,_,_,_,_,_,fun i=>bs.getD i false,rfl,Walks.list hh s.heap.objs.size a (av4 hlt) its.toArray,⟨⟨_,au5 _ rfl,rfl,rfl⟩,p.isList.push _⟩,?_,fun h' tk kp=>?_⟩
 ·intro i v s' Q' E' hP hQ'
  have hi:its[i]? = some v:=by simpa using hP
  have hil:i < bs.length:=by rw [hl]; exact (au3.mp hi).1
  obtain ⟨u,e1,e2⟩:=rv.get (i:=i) (x:=.bl bs[i]) (by simp [hil])
  rw [hi] at e1; cases e1
  cases e2
  have:bs.getD i false=bs[i]:=by rw [at2,ar9 hil]; rfl
  have hQ2:Q' (bs.getD i false) s':=hQ'
  rw [this] at hQ2
  exact aA9 hQ2
 ·have all_eq:(List.range its.toArray.size).all (fun i=>bs.getD i false)=bs.all id:=by
   rw [ar8,<- hl]
   clear q rv hz hl hq hlt p hh kp
   induction bs with
   | nil=>rfl
   | cons b r ih=>
    rw [aB9,List.range_succ_eq_map,List.all_cons,List.all_map,List.all_cons,<- ih]
    rfl
  rw [all_eq]
  refine⟨.bl (bs.all id),H,I.kept (t':=tk) (h':=h') fun b o e=>kp b o (fun z=>?_) (ar7 _ e),rfl,q⟩
  rw [au2.mp z] at e
  exact absurd (as8 e) (ax6 _)
end
end L2
namespace HT
open PySem PyProof.Rows
section
variable {prog : Program} {w : World} {A : Around} {E : Value → Shared → Prop} {s : Shared}
theorem R0 {t sl:Addr}{items:Array Value}{vl vu:Value}{lo hi:Option Int}{Q:Value->Shared->Prop} (ht:IsTup s.heap t items) (hs:s.heap.IsSliceOf sl vl vu .none) (pl:IsPart vl lo) (pu:IsPart vu hi)
  (h1:aL items.size 0 lo=0) (h2:aL items.size items.size hi=items.size) (h:Q (.ref t) s):wpAny (model prog w) A (getItem (.ref t) (.ref sl)) Q E s:=by
 obtain ⟨o,e1,e2,e3⟩:=id hs
 have T:s.TypeIs (.ref sl) "slice":=⟨o,e1,e2⟩
 unfold getItem
 try with_reducible refine aB8 ?_
 first | refine ar6 (as2 ?_) | skip
 apply ar6
 apply wpAny_sequenceKey ht.typeIs (by decide)
 apply ar6
 apply az6 (name:=Str.ofString "__getitem__") ht.typeIs aA0
 apply aA2 aA0 ht.typeIs entry_tuple_getitem _ (args_tuple_getitem _ _)
 change wpAny _ _ (Builtin.Tuple.tupleItemsOf (.ref t) >>= _) _ _ s
 apply ar6
 apply tupleItemsOf_ ht
 apply ar6
 apply wpAny_typeOf T
 rw [if_pos (by decide)]
 apply ar6
 apply tL hs pl pu
 rw [h1,h2]
 have yes:((((0:Nat):Int) == 0 && (1:Int) == 1 && (items.size - 0) == items.size)=true):=by simp
 change wpAny _ _ (if ((((0:Nat):Int) == 0 && (1:Int) == 1 && (items.size - 0) == items.size)=true) then _ else _) _ _ s
 rw [if_pos yes]
 apply ar6
 unfold Builtin.Tuple.tupleIsExact
 apply ar6
 apply wpAny_typeOf ht.typeIs
 apply as2
 change wpAny _ _ (rule "tuple.getitem.whole" >>= fun _=>ret (Value.ref t)) _ _ s
 apply ar6
 apply aC7
 exact as2 ⟨_,rfl,as2 h⟩
end
end HT
namespace L2
open PySem PySem.Spec PyProof.Rows
section
variable {X : Cx}
def R1 (K:PySem.W.Frag):V->Option Int->Option Int->Hp->VK->Prop:=fun x lo hi H Q=>∃ a xs,x = .ref a/\aG K H a xs/\(∀ p,H p=none->Q (.ref p) (upd H p (.tup (eN xs lo hi))))/\(eN xs lo hi=xs->Q (.ref a) H)
theorem R3:gJ X (R1 X.K):=by
 intro pins s σ H x v vl vu lo hi sl Q I rx hs pl pu h
 obtain ⟨a,xs,ex,hx,q1,q2⟩:=h
 by_cases hw:HT.aL xs.length 0 lo=0/\HT.aL xs.length xs.length hi=xs.length
 ·subst ex
  cases rx
  obtain ⟨its,r,ht,hz⟩:=I.tuple hx
  have hlen:its.toArray.size=xs.length:=by rw [ar8]; exact r.length.symm
  refine⟨"tuple",_,PyProof.Rows.slot_tuple_getitem.lookup,ht.typeIs,?_⟩
  refine HT.R0 ht hs pl pu (by rw [hlen]; exact hw.1) (by rw [hlen]; exact hw.2) ⟨.ref a,H,I,rfl,q2 ?_⟩
  unfold eN
  rw [hw.1,hw.2]
  simp
 ·exact L5 pins s σ H x v vl vu lo hi sl Q I rx hs pl pu ⟨a,xs,ex,hx,hw,q1⟩
end
def pD (K:PySem.W.Frag) (a b:Addr):It:=
  ⟨fun i H=>∃ xs ys x y,aJ K H a xs/\aJ K H b ys/\xs[i]? = some x/\ys[i]? = some y,
   fun i H v H'=>∃ T x y,H T=none/\v = .ref T/\H'=upd H T (.tup [x,y])/\∀ xs ys,aJ K H a xs->aJ K H b ys->xs[i]? = some x/\ys[i]? = some y,
   fun i H=>∃ xs ys,aJ K H a xs/\aJ K H b ys/\(i=xs.length ∨ (i < xs.length/\i=ys.length))⟩
abbrev R4:=pC false false
theorem R5 {P:Program}{w:World}{K:PySem.W.Frag}{elts:List Expr}{k:Nat}{pos:Pos} (a b z TI TO i1 i2:Addr) (d : [z,TI,TO,i1,i2].Nodup) :
  gG P w K (.Tuple elts k pos) (pD K a b) [z,TI,TO,i1,i2] z (R4 z TI TO i1 i2 a b):=uG false false a b z TI TO i1 i2 d
theorem R6 (l:Addr) (items:Array Value) (n:Nat) (b:Addr) (items2:Array Value) (n2:Nat) (dd:Option Addr) (ss:Array (Option Value)) (h0 : ¬(!items.isEmpty && Builtin.List.listTooLong (items.size+items2.size))=true) (h1:items.size<=sizeLine) (h2:items.size+items2.size<=sizeLine+1) :
  Meets (Builtin.«list.extend» ⟨[.ref l,.ref b],[]⟩) (fun _ R s=>s.heap.get? l=some { cls:=.type "list",dict:=none,data:=.seq items n,slots:=#[] }/\s.heap.get? b=some { cls:=.type "tuple",dict:=dd,data:=.seq items2 n2,slots:=ss }/\R (.ok (.ret Value.none)) { s with heap:=s.heap.update l (Obj.mapSeq fun x=>x ++ items2),toks:=s.toks }):=
 .of_wp fun prog w A R s h=>by
  obtain ⟨hp,g,d,tk,os⟩:=s; obtain ⟨hl,hb,h⟩:=h; have f2:=AutoSeq1.sub_tuple_tuple; have f3:=AutoSeq1.sub_list_list; have f4:=AutoSeq1.sub_tuple_list; have f5:=AutoSeq1.sub_list_tuple
  have hz':(items ++ items2).size<=sizeLine+1:=by rw [Array.size_append]; exact h2
  wp_walk using (wpAny_updateSeq hl rfl (hz:=h1) (_hz':=hz')),AutoSeq1.wpAny_loadPart' hl,AutoSeq1.wpAny_loadPart' hb
  exact⟨_,rfl,h⟩
def uH (K:PySem.W.Frag):V->List V->Hp->VK->Prop:=fun x vs H Q=>∃ (l b:Addr) (xs zs:List V),x = .ref l/\vs = [.ref b]/\H l=some (.lst xs)/\aG K H b zs/\xs.length+zs.length<=sizeLine/\Q .non (upd H l (.lst (xs ++ zs)))
theorem R7 {X:Cx}:lN X "list.extend" (uH X.K):=by
 intro pins s σ H x vs v us Q I rx rv h
 obtain ⟨l,b,xs,zs,rfl,rfl,hH,hB,hz,q⟩:=h
 cases rx
 obtain ⟨u,rfl,ru⟩:=rv.one
 cases ru
 obtain ⟨z,its,n,r,hl,e⟩:=I.lstM hH
 obtain ⟨its2,r2,⟨⟨cls,dd,data,ss⟩,e2,hc,n2,hd⟩,z2⟩:=I.tuple hB
 cases hc
 cases hd
 have hl2:=r2.length
 have hsz:its.toArray.size+its2.toArray.size<=sizeLine:=by rw [ar8,ar8]; omega
 have hlong : ¬ (!its.toArray.isEmpty && Builtin.List.listTooLong (its.toArray.size+its2.toArray.size))=true:=by
  rw [oS hsz,Bool.and_false]
  exact at3
 refine call_meets F.slot_list_extend ⟨_,e,rfl⟩ F.entry_list_extend (F.args_list_extend_2 _ _)
  (R6 l its.toArray n b its2.toArray n2 dd ss hlong (by rw [ar8]; omega) (by omega)) ⟨e,e2,?_⟩
 refine⟨.non,_,I.lset (its':=its ++ its2) hH e (by simp) (r.append r2) ?_,rfl,q⟩
 rw [aw7]
 omega
end L2
namespace PP
open PySem L2
inductive PV where
 | non | bl (b:Bool) | int (i:Int) | str (x:Str) | tup (xs:List PV) | lst (xs:List PV)
 | dK (kvs:List (aY × PV)) | dT (kvs:List (List aY × PV)) | scr (ns:List Int) | kt (xs:List PV) | exc (c:Str) | fK (kvs:List (aY × PV)) | fT (kvs:List (List aY × PV))
mutual
def flat:PV->Bool
 | .tup xs=>flats xs
 | .lst _=>false
 | .dK _=>false
 | .dT _=>false
 | .non=>true
 | .bl _=>true
 | .int _=>true
 | .str _=>true
 | .scr _=>true
 | .kt xs=>flats xs
 | .exc _=>true
 | .fK _=>false
 | .fT _=>false
def flats:List PV->Bool
 | []=>true
 | x :: r=>flat x && flats r
end
def fU (K:PySem.W.Frag) (H:Hp) (a:Addr) (ns:List Int):Prop:=(∃ o,H a=some (.frz o (.lst (ns.map V.int)))) ∨
  ∃ (o:Obj) (its:Array Value) (n:Nat),K.lookup a=some o/\o.cls = .type "list"/\o.dict=none/\o.data = .seq its n/\its.size<=sizeLine/\aF (ns.map V.int) its.toList
def iK (K:PySem.W.Frag) (a:Addr) (us:List V):Prop:=∃ (o:Obj) (its:Array Value) (n:Nat),K.lookup a=some o/\o.cls = .type "tuple"/\o.data = .seq its n/\its.size<=sizeLine/\aF us its.toList
mutual
inductive aE (K:PySem.W.Frag) (M:Addr->Prop) (H:Hp):V->PV->Prop
 | non:aE K M H .non .non
 | bl (b:Bool):aE K M H (.bl b) (.bl b)
 | int (i:Int):aE K M H (.int i) (.int i)
 | str (x:Str):aE K M H (.str x) (.str x)
 | tup {a:Addr}{us:List V}{xs:List PV}:H a=some (.tup us)->Reps K M H us xs->aE K M H (.ref a) (.tup xs)
 | lst {a:Addr}{us:List V}{xs:List PV}:M a->H a=some (.lst us)->Reps K M H us xs->aE K M H (.ref a) (.lst xs)
 | dK {a:Addr}{kvs:List (aY × V)}{ps:List (aY × PV)}:M a->H a=some (.dK kvs)->kvs.map (·.1)=ps.map (·.1)->Reps K M H (kvs.map (·.2)) (ps.map (·.2))->aE K M H (.ref a) (.dK ps)
 | dT {a:Addr}{kvs:List (List aY × V)}{ps:List (List aY × PV)}:M a->H a=some (.dT kvs)->kvs.map (·.1)=ps.map (·.1)->Reps K M H (kvs.map (·.2)) (ps.map (·.2))->aE K M H (.ref a) (.dT ps)
 | scr {a:Addr}{ns:List Int}:fU K H a ns->aE K M H (.ref a) (.scr ns)
 | kt {a:Addr}{us:List V}{xs:List PV}:iK K a us->Reps K M H us xs->aE K M H (.ref a) (.kt xs)
 | exc {a C:Addr}{o:Obj}{c:Str}:H a=some (.frz o (.own a))->PySem.W.nsIn K mainGlobals c=some (some (.ref C))->o.cls = .ref C->aE K M H (.ref a) (.exc c)
 | fK {a:Addr}{o:Obj}{kvs:List (aY × V)}{ps:List (aY × PV)}:H a=some (.frz o (.dK kvs))->kvs.map (·.1)=ps.map (·.1)->Reps K M H (kvs.map (·.2)) (ps.map (·.2))->aE K M H (.ref a) (.fK ps)
 | fT {a:Addr}{o:Obj}{kvs:List (List aY × V)}{ps:List (List aY × PV)}:H a=some (.frz o (.dT kvs))->kvs.map (·.1)=ps.map (·.1)->Reps K M H (kvs.map (·.2)) (ps.map (·.2))->aE K M H (.ref a) (.fT ps)
inductive Reps (K:PySem.W.Frag) (M:Addr->Prop) (H:Hp):List V->List PV->Prop
 | nil:Reps K M H [] []
 | cons {v:V}{x:PV}{vs:List V}{xs:List PV}:aE K M H v x->Reps K M H vs xs->Reps K M H (v :: vs) (x :: xs)
end
structure fE (M M':Addr->Prop) (H H':Hp):Prop where
 lst:∀ a us,M a->H a=some (.lst us)->M' a/\H' a=some (.lst us)
 dK:∀ a kvs,M a->H a=some (.dK kvs)->M' a/\H' a=some (.dK kvs)
 dT:∀ a kvs,M a->H a=some (.dT kvs)->M' a/\H' a=some (.dT kvs)
 tup:∀ a us,H a=some (.tup us)->H' a=some (.tup us)
 frz:∀ a o u,H a=some (.frz o u)->H' a=some (.frz o u)
theorem fU.keep {K:PySem.W.Frag}{H H':Hp}{a:Addr}{ns:List Int} (k:∀ a o u,H a=some (.frz o u)->H' a=some (.frz o u)) (h:fU K H a ns):fU K H' a ns:=
 h.elim (fun ⟨o,e⟩=>.inl ⟨o,k _ _ _ e⟩) .inr
mutual
theorem aE.keep {K:PySem.W.Frag}{M M':Addr->Prop}{H H':Hp} (k:fE M M' H H'):∀ {v:V}{x:PV},aE K M H v x->aE K M' H' v x
 | _,_,.non=>.non
 | _,_,.bl b=>.bl b
 | _,_,.int i=>.int i
 | _,_,.str x=>.str x
 | _,_,.tup h r=>.tup (k.tup _ _ h) (Reps.keep k r)
 | _,_,.lst m h r=>.lst (k.lst _ _ m h).1 (k.lst _ _ m h).2 (Reps.keep k r)
 | _,_,.dK m h e r=>.dK (k.dK _ _ m h).1 (k.dK _ _ m h).2 e (Reps.keep k r)
 | _,_,.dT m h e r=>.dT (k.dT _ _ m h).1 (k.dT _ _ m h).2 e (Reps.keep k r)
 | _,_,.scr h=>.scr (h.keep k.frz)
 | _,_,.kt h r=>.kt h (Reps.keep k r)
 | _,_,.exc h e c=>.exc (k.frz _ _ _ h) e c
 | _,_,.fK h e r=>.fK (k.frz _ _ _ h) e (Reps.keep k r)
 | _,_,.fT h e r=>.fT (k.frz _ _ _ h) e (Reps.keep k r)
theorem Reps.keep {K:PySem.W.Frag}{M M':Addr->Prop}{H H':Hp} (k:fE M M' H H'):∀ {vs:List V}{xs:List PV},Reps K M H vs xs->Reps K M' H' vs xs
 | _,_,.nil=>.nil
 | _,_,.cons r t=>.cons (aE.keep k r) (Reps.keep k t)
end
mutual
theorem aE.flat {K:PySem.W.Frag}{M M':Addr->Prop}{H:Hp}{v:V}{x:PV} (f:flat x=true) (r:aE K M H v x):aE K M' H v x:=by
 cases r with
 | non=>exact .non
 | bl b=>exact .bl b
 | int i=>exact .int i
 | str x=>exact .str x
 | tup h r=>exact .tup h (Reps.flat (by unfold PP.flat at f; exact f) r)
 | lst m h r=>unfold PP.flat at f; cases f
 | dK m h e r=>unfold PP.flat at f; cases f
 | dT m h e r=>unfold PP.flat at f; cases f
 | scr h=>exact .scr h
 | kt h r=>exact .kt h (Reps.flat (by unfold PP.flat at f; exact f) r)
 | exc h e c=>exact .exc h e c
 | fK h e r=>unfold PP.flat at f; cases f
 | fT h e r=>unfold PP.flat at f; cases f
theorem Reps.flat {K:PySem.W.Frag}{M M':Addr->Prop}{H:Hp}{vs:List V}{xs:List PV} (f:flats xs=true) (r:Reps K M H vs xs):Reps K M' H vs xs:=by
 cases r with
 | nil=>exact .nil
 | cons r t=>
  unfold PP.flats at f
  rw [az7] at f
  exact .cons (aE.flat f.1 r) (Reps.flat f.2 t)
end
theorem fE.same {M M':Addr->Prop}{H H':Hp} (s:aA H H') (m:∀ a,M a->M' a):fE M M' H H':=
 ⟨fun a _ h e=>⟨m a h,s _ _ e⟩,fun a _ h e=>⟨m a h,s _ _ e⟩,fun a _ h e=>⟨m a h,s _ _ e⟩,fun _ _ e=>s _ _ e,fun _ _ _ e=>s _ _ e⟩
theorem aE.same {K:PySem.W.Frag}{M M':Addr->Prop}{H H':Hp}{v:V}{x:PV} (r:aE K M H v x) (s:aA H H') (m:∀ a,M a->M' a):aE K M' H' v x:=r.keep (.same s m)
theorem Reps.same {K:PySem.W.Frag}{M M':Addr->Prop}{H H':Hp}{v:List V}{x:List PV} (r:Reps K M H v x) (s:aA H H') (m:∀ a,M a->M' a):Reps K M' H' v x:=r.keep (.same s m)
def eQ:HO->Bool
 | .lst _=>true
 | .dK _=>true
 | .dT _=>true
 | _=>false
theorem fE.upd {M M':Addr->Prop}{H:Hp}{a:Addr}{o o':HO} (h:H a=some o') (mu:eQ o'=true) (m:∀ b,M b->b ≠ a/\M' b):fE M M' H (upd H a o):=
 ⟨fun b _ hb e=>⟨(m b hb).2,by rw [aT (m b hb).1]; exact e⟩,fun b _ hb e=>⟨(m b hb).2,by rw [aT (m b hb).1]; exact e⟩,fun b _ hb e=>⟨(m b hb).2,by rw [aT (m b hb).1]; exact e⟩,
  fun b _ e=>by rw [aT (fun z=>by rw [z,h] at e; cases e; cases mu)]; exact e,
  fun b _ _ e=>by rw [aT (fun z=>by rw [z,h] at e; cases e; cases mu)]; exact e⟩
theorem Reps.length {K:PySem.W.Frag}{M:Addr->Prop}{H:Hp}:∀ {vs:List V}{xs:List PV},Reps K M H vs xs->vs.length=xs.length
 | _,_,.nil=>rfl
 | _,_,.cons _ t=>congrArg (· + 1) t.length
theorem Reps.get {K:PySem.W.Frag}{M:Addr->Prop}{H:Hp}:∀ {vs:List V}{xs:List PV}{i:Nat}{v:V},Reps K M H vs xs->vs[i]? = some v->∃ x,xs[i]? = some x/\aE K M H v x
 | _,_,_,_,.nil,e=>by simp at e
 | _,_,0,_,.cons r _,e=>by simp at e; subst e; exact⟨_,rfl,r⟩
 | _,_,i+1,v,.cons _ t,e=>by
  rw [List.getElem?_cons_succ] at e
  obtain ⟨x,h1,h2⟩:=t.get e
  exact⟨x,by rw [List.getElem?_cons_succ]; exact h1,h2⟩
theorem Reps.at {K:PySem.W.Frag}{M:Addr->Prop}{H:Hp}:∀ {vs:List V}{xs:List PV}{i:Nat}{x:PV},Reps K M H vs xs->xs[i]? = some x->∃ v,vs[i]? = some v/\aE K M H v x
 | _,_,_,_,.nil,e=>by simp at e
 | _,_,0,_,.cons r _,e=>by simp at e; subst e; exact⟨_,rfl,r⟩
 | _,_,i+1,v,.cons _ t,e=>by
  rw [List.getElem?_cons_succ] at e
  obtain ⟨x,h1,h2⟩:=t.at e
  exact⟨x,by rw [List.getElem?_cons_succ]; exact h1,h2⟩
theorem Reps.append {K:PySem.W.Frag}{M:Addr->Prop}{H:Hp}:∀ {vs:List V}{xs:List PV}{us:List V}{ys:List PV},Reps K M H vs xs->Reps K M H us ys->Reps K M H (vs ++ us) (xs ++ ys)
 | _,_,_,_,.nil,s=>s
 | _,_,_,_,.cons r t,s=>.cons r (t.append s)
theorem Reps.take {K:PySem.W.Frag}{M:Addr->Prop}{H:Hp}:∀ (n:Nat) {vs:List V}{xs:List PV},Reps K M H vs xs->Reps K M H (vs.take n) (xs.take n)
 | 0,_,_,_=>by simp; exact .nil
 | _+1,_,_,.nil=>.nil
 | n+1,_,_,.cons r t=>.cons r (Reps.take n t)
theorem Reps.drop {K:PySem.W.Frag}{M:Addr->Prop}{H:Hp}:∀ (n:Nat) {vs:List V}{xs:List PV},Reps K M H vs xs->Reps K M H (vs.drop n) (xs.drop n)
 | 0,_,_,r=>r
 | _+1,_,_,.nil=>.nil
 | n+1,_,_,.cons _ t=>Reps.drop n t
theorem Reps.eraseIdx {K:PySem.W.Frag}{M:Addr->Prop}{H:Hp}:∀ (n:Nat) {vs:List V}{xs:List PV},Reps K M H vs xs->Reps K M H (vs.eraseIdx n) (xs.eraseIdx n)
 | _,_,_,.nil=>.nil
 | 0,_,_,.cons _ t=>t
 | n+1,_,_,.cons r t=>.cons r (Reps.eraseIdx n t)
abbrev intz (ns:List Int):List PV:=ns.map PV.int
theorem Reps.intz {K:PySem.W.Frag}{M:Addr->Prop}{H:Hp}:∀ (ns:List Int),Reps K M H (ns.map V.int) (intz ns)
 | []=>.nil
 | n :: r=>.cons (.int n) (Reps.intz r)
theorem Reps.ofInts {K:PySem.W.Frag}{M:Addr->Prop}{H:Hp}:∀ {ns:List Int}{us:List V},Reps K M H us (PP.intz ns)->us=ns.map V.int
 | [],_,.nil=>rfl
 | n :: r,_,.cons q t=>by
  cases q
  rw [Reps.ofInts t]; rfl
theorem jT:∀ (ns:List Int),flats (intz ns)=true
 | []=>rfl
 | n :: r=>by show (flat (.int n) && flats (intz r))=true; rw [jT r]; rfl
inductive Tg | rd | sh | nw | fr
inductive Slot | sh (g:Bool) (x:PV) | own (x:PV)
def Slot.val:Slot->PV
 | .sh _ x=>x
 | .own x=>x
def Slot.tag:Slot->Tg
 | .sh true _=>.nw
 | .sh false _=>.sh
 | .own _=>.rd
abbrev aW:=List (Option Slot)
def Ms (H0:Hp) (W:Addr->Prop):Bool->Addr->Prop
 | false,a=>¬ W a
 | true,a=>¬ W a/\H0 a=none
def Mg (H0:Hp) (W:Addr->Prop) (Hs:Hp):Tg->Addr->Prop
 | .rd,_=>True
 | .sh,a=>¬ W a
 | .nw,a=>¬ W a/\H0 a=none
 | .fr,a=>Hs a=none
def eR (K:PySem.W.Frag) (M:Addr->Prop) (H:Hp) (a:Addr):PV->Prop
 | .lst xs=>∃ us,H a=some (.lst us)/\Reps K M H us xs
 | .dK ps=>∃ kvs,H a=some (.dK kvs)/\kvs.map (·.1)=ps.map (·.1)/\Reps K M H (kvs.map (·.2)) (ps.map (·.2))
 | .dT ps=>∃ kvs,H a=some (.dT kvs)/\kvs.map (·.1)=ps.map (·.1)/\Reps K M H (kvs.map (·.2)) (ps.map (·.2))
 | _=>False
def uI (K:PySem.W.Frag) (H0:Hp) (W:Addr->Prop) (H:Hp) (v:V):Slot->Prop
 | .sh g x=>aE K (Ms H0 W g) H v x
 | .own x=>∃ a,v = .ref a/\W a/\eR K (Ms H0 W true) H a x
structure PX (K:PySem.W.Frag) (H0:Hp) (W:Addr->Prop) (σ:St) (ρ:aW) (H:Hp):Prop where
 len:ρ.length=σ.length
 same:aA H0 H
 wm:∀ a,W a->H0 a=none/\∃ o,H a=some o/\eQ o=true
 sl:∀ (i:Nat) (m:Slot),ρ[i]? = some (some m)->∃ v,σ[i]? = some (some v)/\uI K H0 W H v m
 dis:∀ (i j:Nat) (x y:PV) (a:Addr),ρ[i]? = some (some (.own x))->ρ[j]? = some (some (.own y))->σ[i]? = some (some (.ref a))->σ[j]? = some (some (.ref a))->i=j
theorem eR.keep {K:PySem.W.Frag}{M M':Addr->Prop}{H H':Hp}{a:Addr} (k:fE M M' H H') (ha:∀ o,H a=some o->H' a=some o):∀ {x:PV},eR K M H a x->eR K M' H' a x
 | .lst _,⟨us,e,r⟩=>⟨us,ha _ e,r.keep k⟩
 | .dK _,⟨us,e,q,r⟩=>⟨us,ha _ e,q,r.keep k⟩
 | .dT _,⟨us,e,q,r⟩=>⟨us,ha _ e,q,r.keep k⟩
theorem eR.at {K:PySem.W.Frag}{M:Addr->Prop}{H:Hp}{a:Addr}:∀ {x:PV},eR K M H a x->∃ o,H a=some o/\eQ o=true
 | .lst _,⟨us,e,r⟩=>⟨_,e,rfl⟩
 | .dK _,⟨us,e,q,r⟩=>⟨_,e,rfl⟩
 | .dT _,⟨us,e,q,r⟩=>⟨_,e,rfl⟩
theorem eR.rep {K:PySem.W.Frag}{M M':Addr->Prop}{H:Hp}{a:Addr} (m:∀ b,M b->M' b) (ha:M' a):∀ {x:PV},eR K M H a x->aE K M' H (.ref a) x
 | .lst _,⟨us,e,r⟩=>.lst ha e (r.same (aA.refl _) m)
 | .dK _,⟨us,e,q,r⟩=>.dK ha e q (r.same (aA.refl _) m)
 | .dT _,⟨us,e,q,r⟩=>.dT ha e q (r.same (aA.refl _) m)
section
variable {K : PySem.W.Frag} {H0 : Hp} {W W' : Addr → Prop} {σ : St} {ρ : aW} {H H' : Hp}
theorem PX.mono (p:PX K H0 W σ ρ H) (s:aA H H'):PX K H0 W σ ρ H':=by
 refine⟨p.len,p.same.trans s,fun a h=>⟨(p.wm a h).1,let ⟨o,e,m⟩:=(p.wm a h).2; ⟨o,s _ _ e,m⟩⟩,fun i m h=>?_,p.dis⟩
 obtain ⟨v,e,r⟩:=p.sl i m h
 refine⟨v,e,?_⟩
 cases m with
 | sh g x=>exact aE.same r s fun _ z=>z
 | own x=>
  obtain ⟨a,e1,e2,r⟩:=r
  exact⟨a,e1,e2,r.keep (.same s fun _ z=>z) fun _ z=>s _ _ z⟩
theorem PX.new (p:PX K H0 W σ ρ H) {a:Addr} (h:H a=none) : ¬ W a/\H0 a=none:=
 ⟨fun z=>(by obtain ⟨_,o,e,_⟩:=p.wm a z; rw [h] at e; cases e),p.same.free h⟩
theorem Mg.back {g:Tg}{H1:Hp} (s:aA H H1) {a:Addr} (h:Mg H0 W H1 g a):Mg H0 W H g a:=by
 cases g with
 | fr=>exact s.free h
 | rd=>exact h
 | sh=>exact h
 | nw=>exact h
end
abbrev PK:=PV->Tg->Prop
abbrev aB:=aW->PK->Prop
abbrev bZ:=aW->(Bool->Prop)->Prop
abbrev bS:=aW->(List (PV × Tg)->Prop)->Prop
inductive eS (K:PySem.W.Frag) (H0:Hp) (W:Addr->Prop) (Hs H:Hp):List V->List (PV × Tg)->Prop
 | nil:eS K H0 W Hs H [] []
 | cons {v:V}{x:PV}{g:Tg}{vs:List V}{xs:List (PV × Tg)}:aE K (Mg H0 W Hs g) H v x->eS K H0 W Hs H vs xs->eS K H0 W Hs H (v :: vs) ((x,g) :: xs)
def lW (K:PySem.W.Frag) (H0:Hp) (W:Addr->Prop) (H:Hp) (Q:PK) (Q':VK):Prop:=∀ v H' x g,aA H H'->aE K (Mg H0 W H g) H' v x->Q x g->Q' v H'
def LE (X:Cx) (t:aB):TE:=fun σ H Q'=>∃ (W:Addr->Prop) (ρ:aW) (Q:PK),PX X.K X.H₀ W σ ρ H/\t ρ Q/\lW X.K X.H₀ W H Q Q'
def LT (X:Cx) (t:bZ):TT:=fun σ H Q'=>∃ (W:Addr->Prop) (ρ:aW) (Q:Bool->Prop),PX X.K X.H₀ W σ ρ H/\t ρ Q/\∀ b H',aA H H'->Q b->Q' b H'
def LA (X:Cx) (t:bS):TA:=fun σ H Q'=>∃ (W:Addr->Prop) (ρ:aW) (Q:List (PV × Tg)->Prop),PX X.K X.H₀ W σ ρ H/\t ρ Q/\∀ vs H' xs,aA H H'->eS X.K X.H₀ W H H' vs xs->Q xs->Q' vs H'
theorem eS.same {K:PySem.W.Frag}{H0:Hp}{W:Addr->Prop}{Hs Hs' H H':Hp} (s:aA H H') (b:aA Hs' Hs):∀ {vs:List V}{xs:List (PV × Tg)},eS K H0 W Hs H vs xs->eS K H0 W Hs' H' vs xs
 | _,_,.nil=>.nil
 | _,_,.cons r t=>.cons (r.same s fun _ z=>Mg.back b z) (t.same s b)
theorem eS.any {K:PySem.W.Frag}{H0:Hp}{W:Addr->Prop}{Hs H:Hp}:∀ {vs:List V}{xs:List (PV × Tg)},eS K H0 W Hs H vs xs->Reps K (fun _=>True) H vs (xs.map (·.1))
 | _,_,.nil=>.nil
 | _,_,.cons r t=>.cons (r.same (aA.refl _) fun _ _=>trivial) t.any
def Nw:Tg->PV->Prop
 | .fr,_=>True
 | .nw,_=>True
 | _,x=>flat x=true
section
variable {K : PySem.W.Frag} {H0 Hs H : Hp} {W : Addr → Prop} {σ : St} {ρ : aW}
theorem Nw.rep {g:Tg}{x:PV}{v:V} (px:PX K H0 W σ ρ Hs) (n:Nw g x) (r:aE K (Mg H0 W Hs g) H v x):aE K (Ms H0 W true) H v x:=by
 cases g with
 | fr=>exact r.same (aA.refl _) fun a z=>px.new z
 | nw=>exact r.same (aA.refl _) fun a z=>z
 | sh=>exact r.flat n
 | rd=>exact r.flat n
theorem uJ {v:V}{m:Slot} (r:uI K H0 W H v m):aE K (Mg H0 W Hs m.tag) H v m.val:=by
 cases m with
 | sh g x=>
  cases g with
  | true=>exact aE.same r (aA.refl _) fun _ z=>z
  | false=>exact aE.same r (aA.refl _) fun _ z=>z
 | own x=>
  obtain ⟨a,rfl,_,r⟩:=r
  exact r.rep (fun _ _=>trivial) trivial
end
section
variable {X : Cx} {σ : St} {H : Hp} {Q' : VK} {ta tb : aB}
def a6 (i:Nat):aB:=fun ρ Q=>∃ m,ρ[i]? = some (some m)/\Q m.val m.tag
def qC (x:PV):aB:=fun _ Q=>Q x .fr
theorem R8 {i:Nat} (h:LE X (a6 i) σ H Q'):jI i σ H Q':=by
 obtain ⟨W,ρ,Q,px,⟨m,e,q⟩,k⟩:=h
 obtain ⟨v,ev,r⟩:=px.sl i m e
 exact⟨v,ev,k v H _ _ (aA.refl _) (uJ r) q⟩
theorem jU {x:PV}{v:V} (hr:∀ M,aE X.K M H v x) (h:LE X (qC x) σ H Q'):tC v σ H Q':=by
 obtain ⟨W,ρ,Q,px,q,k⟩:=h
 exact k v H _ _ (aA.refl _) (hr _) q
def cF (X:Cx) (R:PV->Tg->PV->Tg->PK->Prop) (r:R2):Prop:=∀ (W:Addr->Prop) (Hs H:Hp) (u v:V) (x y:PV) (g g':Tg) (Q:PK) (Q':VK),aA Hs H->
 (∀ a,Hs a=none->¬ W a/\X.H₀ a=none)->aE X.K (Mg X.H₀ W Hs g) H u x->aE X.K (Mg X.H₀ W Hs g') H v y->R x g y g' Q->(∀ w H' z gz,aA H H'->aE X.K (Mg X.H₀ W Hs gz) H' w z->Q z gz->Q' w H')->r u v H Q'
def q2 (R:PV->Tg->PV->Tg->PK->Prop) (ta tb:aB):aB:=fun ρ Q=>ta ρ fun x g=>tb ρ fun y g'=>R x g y g' Q
theorem lX {R:PV->Tg->PV->Tg->PK->Prop}{r:R2} (c:cF X R r) (h:LE X (q2 R ta tb) σ H Q'):jN r (LE X ta) (LE X tb) σ H Q':=by
 obtain ⟨W,ρ,Q,px,q,k⟩:=h
 refine⟨W,ρ,_,px,q,fun u H1 x g s1 r1 q1=>⟨W,ρ,_,px.mono s1,q1,fun v H2 y g' s2 r2 q2=>?_⟩⟩
 exact c W H H2 u v x y g g' Q Q' (s1.trans s2) (fun a z=>px.new z) (r1.same s2 fun _ z=>z) (r2.same (aA.refl _) fun _ z=>Mg.back s1 z) q2 fun w H' z gz s3 r3 q3=>k w H' z gz ((s1.trans s2).trans s3) r3 q3
def RI (C:Int->Int->Prop) (f:Int->Int->PV):PV->Tg->PV->Tg->PK->Prop:=fun x _ y _ Q=>∃ i j,x = .int i/\y = .int j/\C i j/\Q (f i j) .fr
def cX (f:Int->Int->PV):PV->Tg->PV->Tg->PK->Prop:=fun x _ y _ Q=>∃ i j,x = .int i/\y = .int j/\Q (f i j) .fr
theorem lY {C:Int->Int->Prop}{f:Int->Int->Int}:cF X (RI C fun i j=>.int (f i j)) (rI C fun i j=>.int (f i j)):=by
 rintro W Hs H u v x y g g' Q Q' s n r1 r2 ⟨i,j,rfl,rfl,c,q⟩ k
 cases r1; cases r2
 exact⟨i,j,rfl,rfl,c,k _ _ _ _ (aA.refl _) (.int _) q⟩
theorem uK {f:Int->Int->Int}:cF X (cX fun i j=>.int (f i j)) (fB fun i j=>.int (f i j)):=by
 rintro W Hs H u v x y g g' Q Q' s n r1 r2 ⟨i,j,rfl,rfl,q⟩ k
 cases r1; cases r2
 exact⟨i,j,rfl,rfl,k _ _ _ _ (aA.refl _) (.int _) q⟩
theorem hV {f:Int->Int->Bool}:cF X (cX fun i j=>.bl (f i j)) (fB fun i j=>.bl (f i j)):=by
 rintro W Hs H u v x y g g' Q Q' s n r1 r2 ⟨i,j,rfl,rfl,q⟩ k
 cases r1; cases r2
 exact⟨i,j,rfl,rfl,k _ _ _ _ (aA.refl _) (.bl _) q⟩
def iL (neg:Bool):PV->Tg->PV->Tg->PK->Prop:=fun x _ y _ Q=>(∃ i j,x = .int i/\y = .int j/\Q (.bl (if neg=true then !decide (i=j) else decide (i=j))) .fr) ∨ (∃ i j,x = .bl i/\y = .bl j/\Q (.bl (if neg=true then !decide (i=j) else decide (i=j))) .fr)
theorem uL (i j:Int):decide (V.int i=V.int j)=decide (i=j):=by
 rw [aB4,au7,au7]; exact⟨fun z=>V.int.inj z,fun z=>congrArg V.int z⟩
theorem uM (i j:Bool):decide (V.bl i=V.bl j)=decide (i=j):=by
 rw [aB4,au7,au7]; exact⟨fun z=>V.bl.inj z,fun z=>congrArg V.bl z⟩
theorem R9:cF X (iL false) oD:=by
 rintro W Hs H u v x y g g' Q Q' s n r1 r2 (⟨i,j,rfl,rfl,q⟩ | ⟨i,j,rfl,rfl,q⟩) k
 ·cases r1; cases r2
  exact⟨rfl,by rw [uL]; exact k _ _ _ _ (aA.refl _) (.bl _) q⟩
 ·cases r1; cases r2
  exact⟨rfl,by rw [uM]; exact k _ _ _ _ (aA.refl _) (.bl _) q⟩
theorem S0:cF X (iL true) oE:=by
 rintro W Hs H u v x y g g' Q Q' s n r1 r2 (⟨i,j,rfl,rfl,q⟩ | ⟨i,j,rfl,rfl,q⟩) k
 ·cases r1; cases r2
  exact⟨rfl,by rw [uL]; exact k _ _ _ _ (aA.refl _) (.bl _) q⟩
 ·cases r1; cases r2
  exact⟨rfl,by rw [uM]; exact k _ _ _ _ (aA.refl _) (.bl _) q⟩
def aR (t:aB):bZ:=fun ρ Q=>t ρ fun x _=>∃ b,x = .bl b/\Q b
theorem uN {t:aB}{Q':Bool->Hp->Prop} (h:LT X (aR t) σ H Q'):LE X t σ H fun x H'=>∃ k,x = .bl k/\Q' k H':=by
 obtain ⟨W,ρ,Q,px,q,k⟩:=h
 refine⟨W,ρ,_,px,q,?_⟩
 rintro v H1 x g s r ⟨b,rfl,q⟩
 cases r
 exact⟨b,rfl,k _ _ s q⟩
def eH (t u:bZ):bZ:=fun ρ Q=>t ρ fun c=>if c=true then Q true else u ρ Q
def dW (t:bZ):bZ:=fun ρ Q=>t ρ fun c=>Q (!c)
variable {t u : bZ} {Qb : Bool → Hp → Prop}
theorem S2 (h:LT X (eH t u) σ H Qb):sD (LT X t) (LT X u) σ H Qb:=by
 obtain ⟨W,ρ,Q,px,q,k⟩:=h
 refine⟨W,ρ,_,px,q,fun b H1 s1 q1=>?_⟩
 cases b with
 | false=>exact aQ ⟨W,ρ,Q,px.mono s1,by simpa using q1,fun b H2 s2 q2=>k _ _ (s1.trans s2) q2⟩
 | true=>exact bK (k _ _ s1 (by simpa using q1))
theorem S3 (h:LT X (dW t) σ H Qb):sE (LT X t) σ H Qb:=by
 obtain ⟨W,ρ,Q,px,q,k⟩:=h
 exact⟨W,ρ,_,px,q,fun b H1 s1 q1=>k _ _ s1 q1⟩
def hZ (ta tb:aB):aB:=fun ρ Q=>ta ρ fun x _=>∃ c,x = .bl c/\if c=true then tb ρ Q else Q (.bl false) .fr
def pE (ta tb:aB):aB:=fun ρ Q=>ta ρ fun x _=>∃ c,x = .bl c/\if c=true then Q (.bl true) .fr else tb ρ Q
def pF (ta:aB):aB:=fun ρ Q=>ta ρ fun x _=>∃ c,x = .bl c/\Q (.bl (!c)) .fr
theorem lW.back {K:PySem.W.Frag}{H0:Hp}{W:Addr->Prop}{H H1:Hp}{Q:PK} (k:lW K H0 W H Q Q') (s:aA H H1):lW K H0 W H1 Q Q':=fun v H' x g s' r q=>k v H' x g (s.trans s') (r.same (aA.refl _) fun _ z=>Mg.back s z) q
theorem S4 (h:LE X (hZ ta tb) σ H Q'):sF (LE X ta) (LE X tb) σ H Q':=by
 obtain ⟨W,ρ,Q,px,q,k⟩:=h
 refine⟨W,ρ,_,px,q,?_⟩
 rintro v H1 x g s1 r ⟨c,rfl,q⟩
 cases r
 refine⟨c,rfl,?_⟩
 cases c with
 | true=>exact bK ⟨W,ρ,Q,px.mono s1,by simpa using q,k.back s1⟩
 | false=>exact aQ (k _ _ _ _ s1 (.bl _) (by simpa using q))
theorem S5 (h:LE X (pE ta tb) σ H Q'):sG (LE X ta) (LE X tb) σ H Q':=by
 obtain ⟨W,ρ,Q,px,q,k⟩:=h
 refine⟨W,ρ,_,px,q,?_⟩
 rintro v H1 x g s1 r ⟨c,rfl,q⟩
 cases r
 refine⟨c,rfl,?_⟩
 cases c with
 | false=>exact aQ ⟨W,ρ,Q,px.mono s1,by simpa using q,k.back s1⟩
 | true=>exact bK (k _ _ _ _ s1 (.bl _) (by simpa using q))
theorem S6 (h:LE X (pF ta) σ H Q'):sH (LE X ta) σ H Q':=by
 obtain ⟨W,ρ,Q,px,q,k⟩:=h
 refine⟨W,ρ,_,px,q,?_⟩
 rintro v H1 x g s1 r ⟨c,rfl,q⟩
 cases r
 exact⟨c,rfl,k _ _ _ _ s1 (.bl _) q⟩
def aC:bS:=fun _ Q=>Q []
def a7 (te:aB) (tr:bS):bS:=fun ρ Q=>te ρ fun x g=>tr ρ fun xs=>Q ((x,g) :: xs)
variable {Qa : List V → Hp → Prop} {tr : bS}
theorem S7 (h:LA X aC σ H Qa):gH σ H Qa:=by
 obtain ⟨W,ρ,Q,px,q,k⟩:=h
 exact k _ _ _ (aA.refl _) .nil q
theorem S8 (h:LA X (a7 ta tr) σ H Qa):fD (LE X ta) (LA X tr) σ H Qa:=by
 obtain ⟨W,ρ,Q,px,q,k⟩:=h
 refine⟨W,ρ,_,px,q,fun v H1 x g s1 r1 q1=>⟨W,ρ,_,px.mono s1,q1,fun vs H2 xs s2 r2 q2=>?_⟩⟩
 exact k _ _ _ (s1.trans s2) (.cons (r1.same s2 fun _ z=>z) (r2.same (aA.refl _) s1)) q2
def b7 (t:bS):aB:=fun ρ Q=>t ρ fun xs=>xs.length<=1000/\flats (xs.map (·.1))=true/\Q (.tup (xs.map (·.1))) .fr
def fV (t:bS):aB:=fun ρ Q=>t ρ fun xs=>xs.length<=1000/\flats (xs.map (·.1))=true/\Q (.lst (xs.map (·.1))) .fr
theorem eS.length {K:PySem.W.Frag}{H0:Hp}{W:Addr->Prop}{Hs H:Hp}:∀ {vs:List V}{xs:List (PV × Tg)},eS K H0 W Hs H vs xs->vs.length=xs.length
 | _,_,.nil=>rfl
 | _,_,.cons _ t=>congrArg (· + 1) t.length
theorem lZ {n:Nat} (h:n<=1000):n<=sizeLine:=aA4 (O6 h)
theorem S9 (h:LE X (b7 tr) σ H Q'):t8 (LA X tr) σ H Q':=by
 obtain ⟨W,ρ,Q,px,q,k⟩:=h
 refine⟨W,ρ,_,px,q,?_⟩
 rintro vs H1 xs s1 r ⟨hl,n,q⟩
 refine⟨by rw [r.length]; exact lZ hl,fun p hp=>k _ _ _ .fr (s1.trans (bR hp _)) (.tup cD ?_) q⟩
 exact (r.any.flat n).same (bR hp _) fun _ z=>z
theorem T0 (h:LE X (fV tr) σ H Q'):t9 (LA X tr) σ H Q':=by
 obtain ⟨W,ρ,Q,px,q,k⟩:=h
 refine⟨W,ρ,_,px,q,?_⟩
 rintro vs H1 xs s1 r ⟨hl,n,q⟩
 refine⟨by rw [r.length]; exact lZ hl,fun p hp=>k _ _ _ .fr (s1.trans (bR hp _)) (.lst (s1.free hp) cD ?_) q⟩
 exact (r.any.flat n).same (bR hp _) fun _ z=>z
def dX (X:Cx) (R:List PV->(PV->Prop)->Prop) (r:List V->Hp->VK->Prop):Prop:=∀ (H:Hp) (vs:List V) (xs:List PV) (Q:PV->Prop) (Q':VK),Reps X.K (fun _=>True) H vs xs->R xs Q->
 (∀ w H' z,aA H H'->aE X.K (fun a=>H a=none) H' w z->Q z->Q' w H')->r vs H Q'
def aH (R:List PV->(PV->Prop)->Prop) (t:bS):aB:=fun ρ Q=>t ρ fun xs=>R (xs.map (·.1)) fun z=>Q z .fr
theorem uO {R:List PV->(PV->Prop)->Prop}{r:List V->Hp->VK->Prop} (c:dX X R r) (h:LE X (aH R tr) σ H Q'):oK r (LA X tr) σ H Q':=by
 obtain ⟨W,ρ,Q,px,q,k⟩:=h
 refine⟨W,ρ,_,px,q,fun vs H1 xs s1 r1 q1=>c H1 vs _ _ Q' r1.any q1 fun w H' z s2 r2 q2=>k w H' z .fr (s1.trans s2) (r2.same (aA.refl _) fun _ z=>s1.free z) q2⟩
end
structure gK where
 nx:aW->Prop
 rt:PV->Prop
 bk:aW->Prop:=fun _=>False
 ct:aW->Prop:=fun _=>False
abbrev aM:=gK->aW->Prop
def Ev (W:Addr->Prop) (H:Hp) (W':Addr->Prop) (H':Hp):Prop:=∀ b o,H b=some o->¬ W b->H' b=some o/\¬ W' b
theorem Ev.trans {W W1 W2:Addr->Prop}{H H1 H2:Hp} (a:Ev W H W1 H1) (b:Ev W1 H1 W2 H2):Ev W H W2 H2:=fun c o h n=>let ⟨h1,n1⟩:=a c o h n; b c o h1 n1
theorem Ev.same {W:Addr->Prop}{H H':Hp} (s:aA H H'):Ev W H W H':=fun c o h n=>⟨s _ _ h,n⟩
theorem Ev.refl (W:Addr->Prop) (H:Hp):Ev W H W H:=Ev.same (aA.refl _)
structure jV (X:Cx) (W:Addr->Prop) (H:Hp) (D':gK) (D:cL):Prop where
 nx:∀ W' σ' H' ρ',Ev W H W' H'->PX X.K X.H₀ W' σ' ρ' H'->D'.nx ρ'->D.nx σ' H'
 rt:∀ v H' x,aA X.H₀ H'->aE X.K (fun a=>X.H₀ a=none) H' v x->D'.rt x->D.rt v H'
 bk:∀ W' σ' H' ρ',Ev W H W' H'->PX X.K X.H₀ W' σ' ρ' H'->D'.bk ρ'->D.bk σ' H'
 ct:∀ W' σ' H' ρ',Ev W H W' H'->PX X.K X.H₀ W' σ' ρ' H'->D'.ct ρ'->D.ct σ' H'
theorem jV.step {X:Cx}{W W1:Addr->Prop}{H H1:Hp}{D':gK}{D:cL} (k:jV X W H D' D) (e:Ev W H W1 H1):jV X W1 H1 D' D:=
 ⟨fun W' σ' H' ρ' e'=>k.nx W' σ' H' ρ' (e.trans e'),k.rt,fun W' σ' H' ρ' e'=>k.bk W' σ' H' ρ' (e.trans e'),fun W' σ' H' ρ' e'=>k.ct W' σ' H' ρ' (e.trans e')⟩
def LS (X:Cx) (t:aM):TS:=fun D σ H=>∃ (W:Addr->Prop) (ρ:aW) (D':gK),PX X.K X.H₀ W σ ρ H/\t D' ρ/\jV X W H D' D
theorem dY {α:Type}{l:List α}{i j:Nat}{a b:α} (h:(l.set i a)[j]? = some b):(j=i/\i < l.length/\b=a) ∨ (j ≠ i/\l[j]? = some b):=by
 by_cases e:j=i
 ·subst e
  have hl:j < (l.set j a).length:=(au3.mp h).1
  rw [ay3] at hl
  rw [ax8 hl] at h
  exact .inl ⟨rfl,hl,(av0 h).symm⟩
 ·rw [au1 (Ne.symm e)] at h
  exact .inr ⟨e,h⟩
section
variable {K : PySem.W.Frag} {H0 : Hp} {W W' : Addr → Prop} {σ : St} {ρ : aW} {H H' Hs : Hp}
theorem PX.setSh {i:Nat}{v:V}{g:Bool}{x:PV} (p:PX K H0 W σ ρ H) (r:aE K (Ms H0 W g) H v x):PX K H0 W (σ.set i (some v)) (ρ.set i (some (.sh g x))) H:=by
 refine⟨by rw [ay3,ay3]; exact p.len,p.same,p.wm,fun j m h=>?_,fun j k y z a h1 h2 h3 h4=>?_⟩
 ·rcases dY h with ⟨rfl,hl,e⟩ | ⟨hne,h⟩
  ·cases e
   rw [p.len] at hl
   exact⟨v,ax8 hl,r⟩
  ·obtain ⟨u,e,q⟩:=p.sl j m h
   exact⟨u,by rw [au1 (Ne.symm hne)]; exact e,q⟩
 ·rcases dY h1 with ⟨_,_,e⟩ | ⟨n1,h1⟩
  ·cases e
  ·rcases dY h2 with ⟨_,_,e⟩ | ⟨n2,h2⟩
   ·cases e
   ·rw [au1 (Ne.symm n1)] at h3
    rw [au1 (Ne.symm n2)] at h4
    exact p.dis j k y z a h1 h2 h3 h4
theorem PX.setNone {i:Nat}{o:Option V} (p:PX K H0 W σ ρ H):PX K H0 W (σ.set i o) (ρ.set i none) H:=by
 refine⟨by rw [ay3,ay3]; exact p.len,p.same,p.wm,fun j m h=>?_,fun j k y z a h1 h2 h3 h4=>?_⟩
 ·rcases dY h with ⟨rfl,hl,e⟩ | ⟨hne,h⟩
  ·cases e
  ·obtain ⟨u,e,q⟩:=p.sl j m h
   exact⟨u,by rw [au1 (Ne.symm hne)]; exact e,q⟩
 ·rcases dY h1 with ⟨_,_,e⟩ | ⟨n1,h1⟩
  ·cases e
  ·rcases dY h2 with ⟨_,_,e⟩ | ⟨n2,h2⟩
   ·cases e
   ·rw [au1 (Ne.symm n1)] at h3
    rw [au1 (Ne.symm n2)] at h4
    exact p.dis j k y z a h1 h2 h3 h4
def iM (W:Addr->Prop) (a:Addr):Addr->Prop:=fun b=>W b ∨ b=a
theorem pG {g:Bool}{a b:Addr} (n:b ≠ a) (h:Ms H0 W g b):Ms H0 (iM W a) g b:=by
 cases g with
 | true=>exact⟨fun z=>z.elim h.1 n,h.2⟩
 | false=>exact fun z=>z.elim h n
theorem PX.setOwn {i:Nat}{a:Addr}{x:PV} (p:PX K H0 W σ ρ Hs) (s:aA Hs H) (ha:Hs a=none) (r:eR K (Ms H0 (iM W a) true) H a x):PX K H0 (iM W a) (σ.set i (some (.ref a))) (ρ.set i (some (.own x))) H:=by
 have old:∀ b o,Hs b=some o->b ≠ a:=fun b o e z=>by rw [z,ha] at e; cases e
 have kp:∀ g,fE (Ms H0 W g) (Ms H0 (iM W a) g) Hs H:=fun g=>⟨fun b _ m e=>⟨pG (old _ _ e) m,s _ _ e⟩,fun b _ m e=>⟨pG (old _ _ e) m,s _ _ e⟩,fun b _ m e=>⟨pG (old _ _ e) m,s _ _ e⟩,fun _ _ e=>s _ _ e,fun _ _ _ e=>s _ _ e⟩
 have wa : ¬ W a:=(p.new ha).1
 refine⟨by rw [ay3,ay3]; exact p.len,p.same.trans s,fun b z=>?_,fun j m h=>?_,fun j k y z b h1 h2 h3 h4=>?_⟩
 ·rcases z with z | rfl
  ·obtain ⟨h1,o,h2,h3⟩:=p.wm b z
   exact⟨h1,o,s _ _ h2,h3⟩
  ·exact⟨(p.new ha).2,r.at⟩
 ·rcases dY h with ⟨rfl,hl,e⟩ | ⟨hne,h⟩
  ·cases e
   rw [p.len] at hl
   exact⟨_,ax8 hl,a,rfl,.inr rfl,r⟩
  ·obtain ⟨u,e,q⟩:=p.sl j m h
   refine⟨u,by rw [au1 (Ne.symm hne)]; exact e,?_⟩
   cases m with
   | sh g y=>exact aE.keep (kp g) q
   | own y=>
    obtain ⟨b,e1,e2,q⟩:=q
    exact⟨b,e1,.inl e2,q.keep (kp true) fun o z=>s _ _ z⟩
 ·have ne:∀ {j:Nat}{y:PV},ρ[j]? = some (some (.own y))->σ[j]? ≠ some (some (.ref a)):=fun {j y} h1 h2=>by
   obtain ⟨u,e,c,e1,e2,_⟩:=p.sl j _ h1
   rw [h2] at e
   cases e
   cases e1
   exact wa e2
  rcases dY h1 with ⟨e1,l1,_⟩ | ⟨n1,h1⟩
  ·rcases dY h2 with ⟨e2,_,_⟩ | ⟨n2,h2⟩
   ·rw [e1,e2]
   ·rw [e1,ax8 (by rw [<- p.len]; exact l1)] at h3
    rw [au1 (Ne.symm n2)] at h4
    cases h3
    exact absurd h4 (ne h2)
  ·rw [au1 (Ne.symm n1)] at h3
   rcases dY h2 with ⟨e2,l2,_⟩ | ⟨n2,h2⟩
   ·rw [e2,ax8 (by rw [<- p.len]; exact l2)] at h4
    cases h4
    exact absurd h3 (ne h1)
   ·rw [au1 (Ne.symm n2)] at h4
    exact p.dis j k y z b h1 h2 h3 h4
theorem Ev.own {a:Addr} (s:aA Hs H) (ha:Hs a=none):Ev W Hs (iM W a) H:=fun b o e n=>⟨s _ _ e,fun z=>z.elim n fun z=>by rw [z,ha] at e; cases e⟩
theorem pH {g:Bool}{a b:Addr} (wa:W a) (h:Ms H0 W g b):b ≠ a:=by
 cases g with
 | true=>exact fun z=>h.1 (by rw [z]; exact wa)
 | false=>exact fun z=>h (by rw [z]; exact wa)
theorem PX.updOwn {i:Nat}{a:Addr}{x y:PV}{o:HO} (p:PX K H0 W σ ρ H) (hi:ρ[i]? = some (some (.own x))) (ha:σ[i]? = some (some (.ref a))) (wa:W a) (mu:eQ o=true) (r:eR K (Ms H0 W true) (upd H a o) a y) :
  PX K H0 W σ (ρ.set i (some (.own y))) (upd H a o):=by
 obtain ⟨w0,o',e',mu'⟩:=p.wm a wa
 have kp:∀ g,fE (Ms H0 W g) (Ms H0 W g) H (upd H a o):=fun g=>.upd e' mu' fun b m=>⟨pH wa m,m⟩
 refine⟨by rw [ay3]; exact p.len,fun b u e=>by rw [aT (fun z=>by rw [z,w0] at e; cases e)]; exact p.same _ _ e,fun b z=>?_,fun j m h=>?_,fun j k y' z b h1 h2 h3 h4=>?_⟩
 ·by_cases e:b=a
  ·subst e; exact⟨w0,o,cD,mu⟩
  ·obtain ⟨h1,o2,h2,h3⟩:=p.wm b z
   exact⟨h1,o2,by rw [aT e]; exact h2,h3⟩
 ·rcases dY h with ⟨rfl,hl,e⟩ | ⟨hne,h⟩
  ·cases e
   exact⟨_,ha,a,rfl,wa,r⟩
  ·obtain ⟨u,e,q⟩:=p.sl j m h
   refine⟨u,e,?_⟩
   cases m with
   | sh g y=>exact aE.keep (kp g) q
   | own y=>
    obtain ⟨b,e1,e2,q⟩:=q
    have hb:b ≠ a:=fun z=>by
     subst e1
     rw [z] at e
     exact hne (p.dis j i _ _ a h hi e ha)
    exact⟨b,e1,e2,q.keep (kp true) fun o z=>by rw [aT hb]; exact z⟩
 ·have g1:∃ y,ρ[j]? = some (some (.own y)):=by
   rcases dY h1 with ⟨e,_,_⟩ | ⟨_,h⟩
   ·exact⟨x,by rw [e]; exact hi⟩
   ·exact⟨_,h⟩
  have g2:∃ y,ρ[k]? = some (some (.own y)):=by
   rcases dY h2 with ⟨e,_,_⟩ | ⟨_,h⟩
   ·exact⟨x,by rw [e]; exact hi⟩
   ·exact⟨_,h⟩
  obtain ⟨y1,g1⟩:=g1
  obtain ⟨y2,g2⟩:=g2
  exact p.dis j k y1 y2 b g1 g2 h3 h4
theorem Ev.upd {a:Addr}{o:HO} (wa:W a):Ev W H W (upd H a o):=fun b u e n=>⟨by rw [aT (fun z=>n (by rw [z]; exact wa))]; exact e,n⟩
end
section
variable {X : Cx} {σ : St} {H : Hp} {D : cL} {te : aB} {t u : aM}
def c7:aM:=fun D ρ=>D.nx ρ
def aN (t u:aM):aM:=fun D ρ=>t { D with nx:=u D } ρ
theorem T1 (h:LS X c7 D σ H):sI D σ H:=by
 obtain ⟨W,ρ,D',px,q,k⟩:=h
 exact k.nx W σ H ρ (Ev.refl _ _) px q
theorem T2 (h:LS X (aN t u) D σ H):sJ (LS X t) (LS X u) D σ H:=by
 obtain ⟨W,ρ,D',px,q,k⟩:=h
 exact⟨W,ρ,_,px,q,fun W' σ' H' ρ' e px' q'=>⟨W',ρ',D',px',q',k.step e⟩,k.rt,k.bk,k.ct⟩
def m3:Tg->PV->Bool
 | .fr,_=>true
 | .nw,_=>true
 | _,x=>flat x
def pI:Tg->PV->Prop
 | .rd,x=>flat x=true
 | _,_=>True
theorem uP {K:PySem.W.Frag}{H0 Hs H:Hp}{W:Addr->Prop}{σ:St}{ρ:aW}{g:Tg}{x:PV}{v:V} (px:PX K H0 W σ ρ Hs) (n:pI g x) (r:aE K (Mg H0 W Hs g) H v x):aE K (Ms H0 W (m3 g x)) H v x:=by
 cases g with
 | fr=>exact Nw.rep (g:=.fr) px trivial r
 | nw=>exact Nw.rep (g:=.nw) px trivial r
 | sh=>
  show aE K (Ms H0 W (flat x)) H v x
  cases e:flat x with
  | true=>exact r.flat e
  | false=>exact r.same (aA.refl _) fun _ z=>z
 | rd=>exact r.flat n
def bB (i:Nat) (te:aB):aM:=fun D ρ=>te ρ fun x g=>pI g x/\D.nx (ρ.set i (some (.sh (m3 g x) x)))
theorem pJ {i:Nat} (h:LS X (bB i te) D σ H):lH (LE X te) (cR i) D σ H:=by
 obtain ⟨W,ρ,D',px,q,k⟩:=h
 refine⟨W,ρ,_,px,q,?_⟩
 rintro v H1 x g s r ⟨n,q⟩
 exact k.nx W _ H1 _ (Ev.same s) ((px.mono s).setSh (uP px n r)) q
def uQ:PV->Bool
 | .lst xs=>flats xs
 | .dK ps=>flats (ps.map (·.2))
 | .dT ps=>flats (ps.map (·.2))
 | _=>false
theorem T3 {K:PySem.W.Frag}{M:Addr->Prop}{H:Hp}{v:V}{x:PV} (r:aE K M H v x) (o:uQ x=true):∃ a,v = .ref a/\M a/\∀ M',eR K M' H a x:=by
 cases r with
 | lst m e r=>exact⟨_,rfl,m,fun _=>⟨_,e,r.flat o⟩⟩
 | dK m e q r=>exact⟨_,rfl,m,fun _=>⟨_,e,q,r.flat o⟩⟩
 | dT m e q r=>exact⟨_,rfl,m,fun _=>⟨_,e,q,r.flat o⟩⟩
 | _=>cases o
def m5 (i:Nat) (te:aB):aM:=fun D ρ=>te ρ fun x g=>g = .fr/\uQ x=true/\D.nx (ρ.set i (some (.own x)))
theorem T4 {i:Nat} (h:LS X (m5 i te) D σ H):lH (LE X te) (cR i) D σ H:=by
 obtain ⟨W,ρ,D',px,q,k⟩:=h
 refine⟨W,ρ,_,px,q,?_⟩
 rintro v H1 x g s r ⟨rfl,o,q⟩
 obtain ⟨a,rfl,m,w⟩:=T3 r o
 exact k.nx _ _ H1 _ (Ev.own s m) (px.setOwn s m (w _)) q
def m6 (te:aB):aM:=fun D ρ=>te ρ fun _ _=>D.nx ρ
theorem T5 (h:LS X (m6 te) D σ H):jK (LE X te) D σ H:=by
 obtain ⟨W,ρ,D',px,q,k⟩:=h
 exact⟨W,ρ,_,px,q,fun v H1 x g s r q=>k.nx W σ H1 ρ (Ev.same s) (px.mono s) q⟩
def bH (te:aB):aM:=fun D ρ=>te ρ fun x g=>Nw g x/\D.rt x
theorem T6 (h:LS X (bH te) D σ H):o0 (LE X te) D σ H:=by
 obtain ⟨W,ρ,D',px,q,k⟩:=h
 refine⟨W,ρ,_,px,q,?_⟩
 rintro v H1 x g s r ⟨n,q⟩
 exact k.rt v H1 x (px.same.trans s) ((Nw.rep px n r).same (aA.refl _) fun _ z=>z.2) q
def Slot.nw:Slot->Prop
 | .own _=>True
 | .sh true _=>True
 | .sh false x=>flat x=true
def pK (i:Nat):aM:=fun D ρ=>∃ m,ρ[i]? = some (some m)/\m.nw/\D.rt m.val
theorem T7 {i:Nat} (h:LS X (pK i) D σ H):o0 (jI i) D σ H:=by
 obtain ⟨W,ρ,D',px,⟨m,hi,n,q⟩,k⟩:=h
 obtain ⟨v,ev,r⟩:=px.sl i _ hi
 refine⟨v,ev,k.rt v H _ px.same ?_ q⟩
 cases m with
 | own x=>
  obtain ⟨a,rfl,wa,r⟩:=r
  exact r.rep (fun _ z=>z.2) (px.wm a wa).1
 | sh g x=>
  cases g with
  | true=>exact aE.same r (aA.refl _) fun _ z=>z.2
  | false=>exact aE.flat n r
def c8 (c:bZ) (t u:aM):aM:=fun D ρ=>c ρ fun b=>if b=true then t D ρ else u D ρ
theorem T8 {c:bZ} (h:LS X (c8 c t u) D σ H):sL (LT X c) (LS X t) (LS X u) D σ H:=by
 obtain ⟨W,ρ,D',px,q,k⟩:=h
 refine⟨W,ρ,_,px,q,fun b H1 s q1=>?_⟩
 cases b with
 | true=>exact bK ⟨W,ρ,D',px.mono s,by simpa using q1,k.step (Ev.same s)⟩
 | false=>exact aQ ⟨W,ρ,D',px.mono s,by simpa using q1,k.step (Ev.same s)⟩
end
theorem lim {n:Nat} (h:n<=16000000):n<=sizeLine:=aA4 (lU h)
theorem aE.sqT {K:PySem.W.Frag}{M:Addr->Prop}{H:Hp}{v:V}{xs:List PV} (r:aE K M H v (.tup xs)):∃ a us,v = .ref a/\H a=some (.tup us)/\Reps K M H us xs:=by
 cases r with
 | tup e r=>exact⟨_,_,rfl,e,r⟩
theorem aE.sqL {K:PySem.W.Frag}{M:Addr->Prop}{H:Hp}{v:V}{xs:List PV} (r:aE K M H v (.lst xs)):∃ a us,v = .ref a/\M a/\H a=some (.lst us)/\Reps K M H us xs:=by
 cases r with
 | lst m e r=>exact⟨_,_,rfl,m,e,r⟩
theorem fU.sqL {K:PySem.W.Frag}{H:Hp}{a:Addr}{ns:List Int} (h:fU K H a ns):aJ K H a (ns.map V.int):=h.elim (fun z=>.inl (.inr z)) .inr
def fW:PV->Option (List PV)
 | .tup xs=>some xs
 | .lst xs=>some xs
 | .scr ns=>some (intz ns)
 | .kt xs=>some xs
 | _=>none
theorem aE.seq {K:PySem.W.Frag}{M:Addr->Prop}{H:Hp}{v:V}{x:PV}{xs:List PV} (r:aE K M H v x) (e:fW x=some xs):∃ a us,v = .ref a/\(aJ K H a us ∨ aG K H a us)/\Reps K M H us xs:=by
 cases r with
 | tup h r=>cases e; exact⟨_,_,rfl,.inr (aG.of h),r⟩
 | lst m h r=>cases e; exact⟨_,_,rfl,.inl (aJ.of h),r⟩
 | scr h=>cases e; exact⟨_,_,rfl,.inl h.sqL,Reps.intz _⟩
 | kt h r=>cases e; exact⟨_,_,rfl,.inr (.inr h),r⟩
 | _=>cases e
section
variable {X : Cx} {σ : St} {H : Hp} {D : cL} {te ti to : aB} {t u : aM} {Q' : VK}
theorem _root_.PP.PX.updL {K:PySem.W.Frag}{H0:Hp}{W:Addr->Prop}{σ:St}{ρ:aW}{H:Hp}{i:Nat}{a:Addr}{x:PV}{us:List V}{ys:List PV} (p:PX K H0 W σ ρ H) (hi:ρ[i]? = some (some (.own x))) (ha:σ[i]? = some (some (.ref a))) (wa:W a) (r:Reps K (Ms H0 W true) (upd H a (.lst us)) us ys) :
  PX K H0 W σ (ρ.set i (some (.own (.lst ys)))) (upd H a (.lst us)):=p.updOwn hi ha wa rfl (y:=.lst ys) ⟨us,cD,r⟩
def pL (i:Nat) (te:aB):aM:=fun D ρ=>∃ xs,ρ[i]? = some (some (.own (.lst xs)))/\te ρ fun x g=>Nw g x/\xs.length < 16000000/\D.nx (ρ.set i (some (.own (.lst (xs ++ [x])))))
theorem T9 {i:Nat} (h:LS X (pL i te) D σ H):jK (lM X.K "list" oT (jI i) (fD (LE X te) gH)) D σ H:=by
 obtain ⟨W,ρ,D',px,⟨xs,hi,q⟩,k⟩:=h
 obtain ⟨v,ev,a,rfl,wa,us,ea,r⟩:=px.sl i _ hi
 refine⟨_,ev,p9 (aJ.of ea),W,ρ,_,px,q,?_⟩
 rintro w H1 x g s rx ⟨n,hl,q⟩
 have ea1:=s _ _ ea
 refine⟨a,us,w,rfl,rfl,ea1,lU (by rw [r.length]; omega),?_⟩
 refine k.nx W σ _ _ ((Ev.same s).trans (Ev.upd wa)) ((px.mono s).updL hi ev wa ?_) q
 exact ((r.same s fun _ z=>z).append (.cons (Nw.rep px n rx) .nil)).keep (.upd ea1 rfl fun b m=>⟨pH wa m,m⟩)
def pM (to te:aB):aM:=fun D ρ=>to ρ fun x g=>∃ xs,g = .fr/\x = .lst xs/\xs.length < 16000000/\te ρ fun _ _=>D.nx ρ
theorem U0 (h:LS X (pM to te) D σ H):jK (lM X.K "list" oT (LE X to) (fD (LE X te) gH)) D σ H:=by
 obtain ⟨W,ρ,D',px,q,k⟩:=h
 refine⟨W,ρ,_,px,q,?_⟩
 rintro v H1 x g s1 r1 ⟨xs,rfl,rfl,hl,q1⟩
 obtain ⟨a,us,rfl,m,ea,r⟩:=r1.sqL
 refine⟨p9 (aJ.of ea),W,ρ,_,px.mono s1,q1,fun w H2 y gy s2 r2 q2=>?_⟩
 refine⟨a,us,w,rfl,rfl,s2 _ _ ea,lU (by rw [r.length]; omega),?_⟩
 have S:aA H (upd H2 a (.lst (us ++ [w]))):=fun b o e=>by
  rw [aT (fun z=>by rw [z,show H a=none from m] at e; cases e)]
  exact s2 _ _ (s1 _ _ e)
 exact k.nx W σ _ ρ (Ev.same S) (px.mono S) q2
def uR (K:PySem.W.Frag):V->List V->Hp->VK->Prop:=fun x vs H Q=>tT x vs H Q ∨ uH K x vs H Q
def pN (i:Nat) (te:aB):aM:=fun D ρ=>∃ xs,ρ[i]? = some (some (.own (.lst xs)))/\te ρ fun y g=>∃ ys,(y = .tup ys ∨ y = .lst ys)/\(Nw g y ∨ flats ys=true)/\xs.length+ys.length<=16000000/\D.nx (ρ.set i (some (.own (.lst (xs ++ ys)))))
theorem U1 {i:Nat} (h:LS X (pN i te) D σ H):jK (lM X.K "list" (uR X.K) (jI i) (fD (LE X te) gH)) D σ H:=by
 obtain ⟨W,ρ,D',px,⟨xs,hi,q⟩,k⟩:=h
 obtain ⟨v,ev,a,rfl,wa,us,ea,r⟩:=px.sl i _ hi
 refine⟨_,ev,p9 (aJ.of ea),W,ρ,_,px,q,?_⟩
 rintro w H1 y g s ry ⟨ys,hy,n,hl,q⟩
 have ea1:=s _ _ ea
 have key:∀ (zs:List V),Reps X.K (Ms X.H₀ W true) H1 zs ys->D.nx σ (upd H1 a (.lst (us ++ zs))):=fun zs rz=>by
  refine k.nx W σ _ _ ((Ev.same s).trans (Ev.upd wa)) ((px.mono s).updL hi ev wa ?_) q
  exact ((r.same s fun _ z=>z).append rz).keep (.upd ea1 rfl fun b m=>⟨pH wa m,m⟩)
 have lr:=r.length
 rcases hy with rfl | rfl
 ·obtain ⟨b,zs,rfl,eb,rz⟩:=ry.sqT
  have lz:=rz.length
  refine .inr ⟨a,b,us,zs,rfl,rfl,ea1,aG.of eb,lim (by omega),key zs ?_⟩
  rcases n with n | n
  ·obtain ⟨b',zs',e1,e2,rz'⟩:=(Nw.rep px n ry).sqT
   cases e1; rw [eb] at e2; cases e2; exact rz'
  ·exact rz.flat n
 ·obtain ⟨b,zs,rfl,_,eb,rz⟩:=ry.sqL
  have lz:=rz.length
  refine .inl ⟨a,b,us,zs,rfl,rfl,ea1,eb,lim (by omega),key zs ?_⟩
  rcases n with n | n
  ·obtain ⟨b',zs',e1,_,e2,rz'⟩:=(Nw.rep px n ry).sqL
   cases e1; rw [eb] at e2; cases e2; exact rz'
  ·exact rz.flat n
end
theorem Reps.atI {K:PySem.W.Frag}{M:Addr->Prop}{H:Hp}{us:List V}{xs:List PV}{i:Int}{z:PV} (r:Reps K M H us xs) (h:L2.atI xs i=some z):∃ v,L2.atI us i=some v/\aE K M H v z:=by
 unfold L2.atI at h ⊢
 rw [r.length]
 cases e:hI xs.length i with
 | none=>rw [e] at h; cases h
 | some j=>rw [e] at h; exact r.at h
section
variable {X : Cx} {σ : St} {H : Hp} {Q' : VK} {ta tb te : aB} {tr : bS}
def pO:PV->Tg->PV->Tg->PK->Prop:=fun x g y _ Q=>∃ xs i z,fW x=some xs/\y = .int i/\L2.atI xs i=some z/\Q z g
theorem U2:cF X pO (tS X.K):=by
 rintro W Hs H u v x y g g' Q Q' s n r1 r2 ⟨xs,i,z,e,rfl,hz,q⟩ k
 cases r2
 obtain ⟨a,us,rfl,hs,r⟩:=r1.seq e
 obtain ⟨v,hv,rv⟩:=r.atI hz
 rcases hs with hs | hs
 ·exact .inl ⟨a,us,i,v,rfl,rfl,hs,hv,k v H z g (aA.refl _) rv q⟩
 ·exact .inr (.inl ⟨a,us,i,v,rfl,rfl,hs,hv,k v H z g (aA.refl _) rv q⟩)
def m7:PV->Option Nat
 | .tup xs=>some xs.length
 | .lst xs=>some xs.length
 | .scr ns=>some ns.length
 | .dK ps=>some ps.length
 | .kt xs=>some xs.length
 | _=>none
def fX:List PV->(PV->Prop)->Prop:=fun xs Q=>∃ x n,xs = [x]/\m7 x=some n/\Q (.int n)
theorem Reps.one {K:PySem.W.Frag}{M:Addr->Prop}{H:Hp}{vs:List V}{x:PV} (r:Reps K M H vs [x]):∃ v,vs = [v]/\aE K M H v x:=by
 cases r with
 | cons r t=>cases t; exact⟨_,rfl,r⟩
theorem Reps.two {K:PySem.W.Frag}{M:Addr->Prop}{H:Hp}{vs:List V}{x y:PV} (r:Reps K M H vs [x,y]):∃ v w,vs = [v,w]/\aE K M H v x/\aE K M H w y:=by
 cases r with
 | cons r t=>
  obtain ⟨w,rfl,q⟩:=t.one
  exact⟨_,_,rfl,r,q⟩
theorem U3:dX X fX (fun xs H Q=>(∃ p ys,xs = [.ref p]/\(aJ X.K H p ys ∨ aG X.K H p ys)/\Q (.int ys.length) H) ∨ ∃ a kvs,xs = [V.ref a]/\H a=some (.dK kvs)/\Q (.int kvs.length) H):=by
 rintro H vs xs Q Q' r ⟨x,n,rfl,e,q⟩ k
 obtain ⟨v,rfl,r1⟩:=r.one
 have fin:∀ {m:Nat},m=n->Q' (.int m) H:=fun {m} z=>by rw [z]; exact k _ _ _ (aA.refl _) (.int _) q
 cases r1 with
 | tup h r2=>cases e; exact .inl ⟨_,_,rfl,.inr (aG.of h),fin r2.length⟩
 | lst m h r2=>cases e; exact .inl ⟨_,_,rfl,.inl (aJ.of h),fin r2.length⟩
 | scr h=>cases e; exact .inl ⟨_,_,rfl,.inl h.sqL,fin (by rw [at4])⟩
 | kt h r2=>cases e; exact .inl ⟨_,_,rfl,.inr (.inr h),fin r2.length⟩
 | dK m h e' r=>
  cases e
  refine .inr ⟨_,_,rfl,h,fin ?_⟩
  have:=congrArg List.length e'
  rw [at4,at4] at this
  exact this
 | _=>cases e
def seqT:PV->Option (List PV)
 | .kt _=>none
 | x=>fW x
def uS:List PV->(PV->Prop)->Prop:=fun xs Q=>∃ x ys,xs = [x]/\seqT x=some ys/\flats ys=true/\Q (.tup ys)
theorem U4:dX X (fun xs Q=>uS xs Q/\∀ ns,xs ≠ [.scr ns]) (fun xs H Q=>∃ p ys,xs = [.ref p]/\((aJ X.K H p ys/\∀ l,H l=none->Q (.ref l) (upd H l (.tup ys))) ∨ (aG X.K H p ys/\Q (.ref p) H))):=by
 rintro H vs xs Q Q' r ⟨⟨x,ys,rfl,e,f,q⟩,nsc⟩ k
 obtain ⟨v,rfl,r1⟩:=r.one
 cases r1 with
 | tup h r2=>cases e; exact⟨_,_,rfl,.inr ⟨aG.of h,k _ _ _ (aA.refl _) (.tup h (r2.flat f)) q⟩⟩
 | lst m h r2=>cases e; exact⟨_,_,rfl,.inl ⟨aJ.of h,fun l hl=>k _ _ _ (bR hl _) (.tup cD ((r2.flat f).same (bR hl _) fun _ z=>z)) q⟩⟩
 | scr h=>exact absurd rfl (nsc _)
 | _=>cases e
def m8:List PV->(PV->Prop)->Prop:=fun xs Q=>∃ bs:List Bool,xs = [.lst (bs.map PV.bl)]/\Q (.bl (bs.all id))
theorem Reps.ofBls {K:PySem.W.Frag}{M:Addr->Prop}{H:Hp}:∀ {ns:List Bool}{us:List V},Reps K M H us (ns.map PV.bl)->us=ns.map V.bl
 | [],_,.nil=>rfl
 | n :: r,_,.cons q t=>by
  cases q
  rw [Reps.ofBls t]; rfl
theorem U5:dX X m8 (fun xs H Q=>∃ (a:Addr) (bs:List Bool),xs = [.ref a]/\aJ X.K H a (bs.map V.bl)/\Q (.bl (bs.all id)) H):=by
 rintro H vs xs Q Q' r ⟨bs,rfl,q⟩ k
 obtain ⟨v,rfl,r1⟩:=r.one
 obtain ⟨a,us,rfl,_,h,r2⟩:=r1.sqL
 obtain rfl:=r2.ofBls
 exact⟨a,bs,rfl,aJ.of h,k _ _ _ (aA.refl _) (.bl _) q⟩
def pP:List PV->(PV->Prop)->Prop:=fun xs Q=>∃ i j,xs = [.int i,.int j]/\Q (.int (if j < i then j else i))
def m9:List PV->(PV->Prop)->Prop:=fun xs Q=>∃ i j,xs = [.int i,.int j]/\Q (.int (if j > i then j else i))
theorem U6:dX X pP (fun xs H Q=>∃ i j,xs = [.int i,.int j]/\Q (.int (if j < i then j else i)) H):=by
 rintro H vs xs Q Q' r ⟨i,j,rfl,q⟩ k
 obtain ⟨v,w,rfl,r1,r2⟩:=r.two
 cases r1; cases r2
 exact⟨i,j,rfl,k _ _ _ (aA.refl _) (.int _) q⟩
theorem U7:dX X m9 (fun xs H Q=>∃ i j,xs = [.int i,.int j]/\Q (.int (if j > i then j else i)) H):=by
 rintro H vs xs Q Q' r ⟨i,j,rfl,q⟩ k
 obtain ⟨v,w,rfl,r1,r2⟩:=r.two
 cases r1; cases r2
 exact⟨i,j,rfl,k _ _ _ (aA.refl _) (.int _) q⟩
abbrev bL:=List PV->(PV->Prop)->Prop
def jW (K:PySem.W.Frag) (p:bL):Sp:=fun vs H Q _=>∃ xs Qp,Reps K (fun _=>True) H vs xs/\p xs Qp/\∀ v H' x,aA H H'->aE K (fun a=>H a=none) H' v x->Qp x->Q v H'
theorem U8 {p:bL}{E:XK} (h:LE X (aH p tr) σ H Q'):oI (jW X.K p) [] E (LA X tr) σ H Q':=by
 obtain ⟨W,ρ,Q,px,q,k⟩:=h
 refine⟨W,ρ,_,px,q,fun vs H1 xs s1 r1 q1=>⟨_,_,by rw [ax3]; exact r1.any,q1,fun v H' x s2 r2 q2=>k v H' x .fr (s1.trans s2) (r2.same (aA.refl _) fun _ z=>s1.free z) q2⟩⟩
def pQ:PV->Bool
 | .non=>true
 | _=>false
def pR (neg:Bool):PV->Tg->PV->Tg->PK->Prop:=fun x _ y _ Q=>y = .non/\Q (.bl (if neg=true then !pQ x else pQ x)) .fr
theorem U9 {K:PySem.W.Frag}{M:Addr->Prop}{H:Hp}{v:V}{x:PV} (r:aE K M H v x):decide (v = .non)=pQ x:=by
 cases r <;> rfl
theorem V0:cF X (pR false) (fun x y H Q=>y = .non/\Q (.bl (decide (x = .non))) H):=by
 rintro W Hs H u v x y g g' Q Q' s n r1 r2 ⟨rfl,q⟩ k
 cases r2
 exact⟨rfl,by rw [U9 r1]; exact k _ _ _ _ (aA.refl _) (.bl _) q⟩
end
structure iN (K:PySem.W.Frag) (H0:Hp) (W:Addr->Prop) (g:Bool) (H1:Hp) (J:It) (xs:List PV):Prop where
 go:∀ W' H' i,Ev W H1 W' H'->i < xs.length->J.go i H'
 yld:∀ W' H' i v H2,Ev W H1 W' H'->J.yld i H' v H2->i < xs.length->aA H' H2/\∃ x,xs[i]? = some x/\aE K (Ms H0 W' g) H2 v x
 stop:∀ W' H',Ev W H1 W' H'->J.stop xs.length H'
abbrev dH:=aW->(List PV->Bool->Prop)->Prop
def LI (X:Cx) (t:dH):TI:=fun σ H R=>∃ (W:Addr->Prop) (ρ:aW) (Q:List PV->Bool->Prop),PX X.K X.H₀ W σ ρ H/\t ρ Q/\∀ J H1 xs g,aA H H1->iN X.K X.H₀ W g H1 J xs->Q xs g->R J H1
theorem Ev.keep {H0:Hp}{W W':Addr->Prop}{H H':Hp}{g:Bool} (e:Ev W H W' H') (tw:∀ a,W a->∃ o,H a=some o/\eQ o=true):fE (Ms H0 W g) (Ms H0 W' g) H H':=by
 have m:∀ {a:Addr}{o:HO},Ms H0 W g a->H a=some o->Ms H0 W' g a/\H' a=some o:=fun {a o} z h=>by
  cases g with
  | true=>
   obtain ⟨h1,h2⟩:=e a _ h z.1
   exact⟨⟨h2,z.2⟩,h1⟩
  | false=>
   obtain ⟨h1,h2⟩:=e a _ h z
   exact⟨h2,h1⟩
 refine⟨fun a _ z h=>m z h,fun a _ z h=>m z h,fun a _ z h=>m z h,fun a _ h=>(e a _ h fun z=>?_).1,fun a _ _ h=>(e a _ h fun z=>?_).1⟩
 ·obtain ⟨o,h',mu⟩:=tw a z; rw [h] at h'; cases h'; cases mu
 ·obtain ⟨o,h',mu⟩:=tw a z; rw [h] at h'; cases h'; cases mu
section
variable {X : Cx} {σ : St} {H : Hp} {te : aB} {tr : bS} {R : It → Hp → Prop}
def uT (K:PySem.W.Frag) (tl:TE):TI:=fun σ H R=>tl σ H fun x H1=>∃ a,x = .ref a/\((∃ xs,aJ K H1 a xs/\R (o4 K a) H1) ∨ (∃ xs,aG K H1 a xs/\R (o7 K a) H1))
def uU:Tg->List PV->Bool
 | .fr,_=>true
 | .nw,_=>true
 | _,xs=>flats xs
def i4 (te:aB):dH:=fun ρ Q=>te ρ fun x g=>∃ xs,fW x=some xs/\(g = .rd->flat x=true)/\Q xs (uU g xs)
theorem uV {K:PySem.W.Frag}{H0:Hp}{W:Addr->Prop}{g:Bool}{H1:Hp}{a:Addr}{us:List V}{xs:List PV} (tw:∀ a,W a->∃ o,H1 a=some o/\eQ o=true) (ha:∀ W' H',Ev W H1 W' H'->aJ K H' a us) (r:Reps K (Ms H0 W g) H1 us xs):iN K H0 W g H1 (o4 K a) xs:=by
 have lr:=r.length
 refine⟨fun W' H' i e hi=>⟨us,us[i]'(by omega),ha W' H' e,by simp⟩,fun W' H' i v H2 e y hi=>?_,fun W' H' e=>⟨us,ha W' H' e,by omega⟩⟩
 obtain ⟨rfl,y⟩:=y
 obtain ⟨x,hx,rx⟩:=r.get (y us (ha W' _ e))
 exact⟨aA.refl _,x,hx,rx.keep (e.keep tw)⟩
theorem uW {K:PySem.W.Frag}{H0:Hp}{W:Addr->Prop}{g:Bool}{H1:Hp}{a:Addr}{us:List V}{xs:List PV} (tw:∀ a,W a->∃ o,H1 a=some o/\eQ o=true) (ha:∀ W' H',Ev W H1 W' H'->aG K H' a us) (r:Reps K (Ms H0 W g) H1 us xs):iN K H0 W g H1 (o7 K a) xs:=by
 have lr:=r.length
 refine⟨fun W' H' i e hi=>⟨us,us[i]'(by omega),ha W' H' e,by simp⟩,fun W' H' i v H2 e y hi=>?_,fun W' H' e=>⟨us,ha W' H' e,by omega⟩⟩
 obtain ⟨rfl,y⟩:=y
 obtain ⟨x,hx,rx⟩:=r.get (y us (ha W' _ e))
 exact⟨aA.refl _,x,hx,rx.keep (e.keep tw)⟩
theorem mB {K:PySem.W.Frag}{H0 Hs H:Hp}{W:Addr->Prop}{σ:St}{ρ:aW}{g:Tg}{us:List V}{xs:List PV} (px:PX K H0 W σ ρ Hs) (hg:g = .rd->flats xs=true) (r:Reps K (Mg H0 W Hs g) H us xs):Reps K (Ms H0 W (uU g xs)) H us xs:=by
 cases g with
 | fr=>exact r.same (aA.refl _) fun _ z=>px.new z
 | nw=>exact r.same (aA.refl _) fun _ z=>z
 | sh=>
  show Reps K (Ms H0 W (flats xs)) H us xs
  cases e:flats xs with
  | true=>exact r.flat e
  | false=>exact r.same (aA.refl _) fun _ z=>z
 | rd=>exact r.flat (hg rfl)
theorem V1 (h:LI X (i4 te) σ H R):uT X.K (LE X te) σ H R:=by
 obtain ⟨W,ρ,Q,px,q,k⟩:=h
 refine⟨W,ρ,_,px,q,?_⟩
 rintro v H1 x g s r ⟨xs,e,hg,q⟩
 have px1:=px.mono s
 have tw:∀ a,W a->∃ o,H1 a=some o/\eQ o=true:=fun a z=>(px1.wm a z).2
 cases r with
 | tup h r=>
  cases e
  refine⟨_,rfl,.inr ⟨_,aG.of h,k _ _ _ _ s (uW tw (fun W' H' e=>aG.of (e _ _ h fun z=>?_).1) (mB px (fun z=>by have:=hg z; unfold flat at this; exact this) r)) q⟩⟩
  obtain ⟨o,h',mu⟩:=tw _ z; rw [h] at h'; cases h'; cases mu
 | @lst a us xs' m h r=>
  cases e
  have wa : ¬ W a:=by
   cases g with
   | fr=>exact (px.new m).1
   | nw=>exact m.1
   | sh=>exact m
   | rd=>have:=hg rfl; unfold flat at this; cases this
  exact⟨_,rfl,.inl ⟨_,aJ.of h,k _ _ _ _ s (uV tw (fun W' H' e=>aJ.of (e _ _ h wa).1) (mB px (fun z=>by have:=hg z; unfold flat at this; cases this) r)) q⟩⟩
 | scr h=>
  cases e
  refine⟨_,rfl,.inl ⟨_,h.sqL,k _ _ _ _ s (uV tw (fun W' H' e=>(fU.keep (fun a o u hz=>(e _ _ hz fun z=>?_).1) h).sqL) (mB (g:=g) px (fun z=>jT _) (Reps.intz _))) q⟩⟩
  obtain ⟨o,h',mu⟩:=tw _ z; rw [hz] at h'; cases h'; cases mu
 | kt h r=>
  cases e
  exact⟨_,rfl,.inr ⟨_,.inr h,k _ _ _ _ s (uW tw (fun W' H' e=>.inr h) (mB px (fun z=>by have:=hg z; unfold flat at this; exact this) r)) q⟩⟩
 | _=>cases e
def eU (lo:Int) (n:Nat):List PV:=(List.range n).map fun (i:Nat)=>PV.int (lo+(i:Int))
theorem dZ (lo:Int) (n:Nat):(eU lo n).length=n:=by unfold eU; rw [at4,List.length_range]
theorem uX {lo:Int}{n i:Nat} (h:i < n):(eU lo n)[i]? = some (.int (lo+i)):=by unfold eU; rw [au9,List.getElem?_range h]; rfl
def gL (te:aB):dH:=fun ρ Q=>te ρ fun x _=>∃ j:Int,x = .int j/\-1000000<=j/\j<=1000000/\Q (eU 0 j.toNat) true
def pS (ta tb:aB):dH:=fun ρ Q=>ta ρ fun x _=>tb ρ fun y _=>∃ i j:Int,x = .int i/\y = .int j/\(-1000000<=i/\i<=1000000/\-1000000<=j/\j<=1000000)/\Q (eU i (j - i).toNat) true
theorem uY {K:PySem.W.Frag}{H0:Hp}{W:Addr->Prop}{H1:Hp} (lo:Int) (n:Nat):iN K H0 W true H1 (jL lo n) (eU lo n):=by
 refine⟨fun W' H' i e hi=>by rw [dZ] at hi; exact hi,fun W' H' i v H2 e y hi=>?_,fun W' H' e=>by show n<=(eU lo n).length; rw [dZ]; exact as3 _⟩
 rw [dZ] at hi
 obtain ⟨rfl,rfl⟩:=y
 exact⟨aA.refl _,_,uX hi,.int _⟩
theorem V2 (h:LI X (gL te) σ H R):sQ (fD (LE X te) gH) σ H R:=by
 obtain ⟨W,ρ,Q,px,q,k⟩:=h
 refine⟨W,ρ,_,px,q,?_⟩
 rintro v H1 x g s r ⟨j,rfl,h1,h2,q⟩
 cases r
 exact⟨j,rfl,by omega,by omega,k _ _ _ _ s (uY 0 j.toNat) q⟩
theorem V3 {ta tb:aB} (h:LI X (pS ta tb) σ H R):sR (fD (LE X ta) (fD (LE X tb) gH)) σ H R:=by
 obtain ⟨W,ρ,Q,px,q,k⟩:=h
 refine⟨W,ρ,_,px,q,fun v H1 x g s r q=>⟨W,ρ,_,px.mono s,q,?_⟩⟩
 rintro w H2 y g' s2 r2 ⟨i,j,rfl,rfl,h,q⟩
 cases r; cases r2
 exact⟨i,j,rfl,by omega,k _ _ _ _ (s.trans s2) (uY i (j - i).toNat) q⟩
end
abbrev gM:=PV->Bool->aW->(aW->Prop)->Prop
def jX (K:PySem.W.Frag) (own:Nat->Prop) (p:gM) (t:TG):Prop:=∀ (H0:Hp) (W:Addr->Prop) (σ:St) (ρ:aW) (H:Hp) (v:V) (x:PV) (g:Bool) (Q:aW->Prop) (Q':St->Hp->Prop),
 PX K H0 W σ ρ H->aE K (Ms H0 W g) H v x->p x g ρ Q->(∀ σ' ρ',PX K H0 W σ' ρ' H->(∀ i,¬ own i->σ'[i]? = σ[i]?)->σ'.length=σ.length->Q ρ'->Q' σ' H)->t v σ H Q'
def cK (i:Nat):gM:=fun x g ρ Q=>Q (ρ.set i (some (.sh (g || flat x) x)))
theorem iO {K:PySem.W.Frag}{H0 H:Hp}{W:Addr->Prop}{v:V}{x:PV}{g:Bool} (r:aE K (Ms H0 W g) H v x):aE K (Ms H0 W (g || flat x)) H v x:=by
 cases g with
 | true=>exact r
 | false=>
  show aE K (Ms H0 W (flat x)) H v x
  cases e:flat x with
  | true=>exact r.flat e
  | false=>exact r
theorem jY (K:PySem.W.Frag) (i:Nat):jX K (· = i) (cK i) (cR i):=by
 intro H0 W σ ρ H v x g Q Q' px r q k
 exact k _ _ (px.setSh (iO r)) (fun j hj=>by rw [au1 (Ne.symm hj)]) (ay3 ..) q
def pT (i j:Nat):gM:=fun x g ρ Q=>∃ y z,x = .tup [y,z]/\Q ((ρ.set i (some (.sh (g || flat y) y))).set j (some (.sh (g || flat z) z)))
theorem V4 (K:PySem.W.Frag) (i j:Nat):jX K (fun k=>k=i ∨ k=j) (pT i j) (lG K 2 (gZ (cR i) (gZ (cR j) lF))):=by
 intro H0 W σ ρ H v x g Q Q' px r q k
 obtain ⟨y,z,rfl,q⟩:=q
 obtain ⟨a,us,rfl,h,r⟩:=r.sqT
 obtain ⟨u1,u2,rfl,r1,r2⟩:=r.two
 refine⟨a,_,rfl,aG.of h,rfl,u1,_,rfl,u2,_,rfl,rfl,k _ _ ((px.setSh (iO r1)).setSh (iO r2)) (fun k hk=>?_) (by rw [ay3,ay3]) q⟩
 rw [au1 (fun e=>hk (.inr e.symm)),au1 (fun e=>hk (.inl e.symm))]
section
variable {X : Cx} {σ : St} {H : Hp} {D : cL}
def fY (ti:dH) (p:gM) (tb:aM):aM:=fun D ρ=>ti ρ fun xs g=>∃ I:Nat->aW->Prop,I 0 ρ/\(∀ i x ρ',xs[i]? = some x->I i ρ'->p x g ρ' fun ρ2=>tb { D with nx:=I (i+1),ct:=I (i+1),bk:=D.nx } ρ2)/\∀ ρ',I xs.length ρ'->D.nx ρ'
theorem V5 {ti:dH}{p:gM}{g:TG}{tb:aM}{own:Nat->Prop} (hg:jX X.K own p g) (h:LS X (fY ti p tb) D σ H):sS (LI X ti) g (LS X tb) D σ H:=by
 obtain ⟨W,ρ,D',px,q,k⟩:=h
 refine⟨W,ρ,_,px,q,?_⟩
 rintro J H1 xs gb s it ⟨I,i0,turn,fin⟩
 refine⟨fun i m σ2 H2=>m=xs.length - i/\i<=xs.length/\∃ W2 ρ2,PX X.K X.H₀ W2 σ2 ρ2 H2/\Ev W H1 W2 H2/\I i ρ2,⟨xs.length,by omega,ay8 _,W,ρ,px.mono s,Ev.refl _ _,i0⟩,?_⟩
 rintro i m σ2 H2 ⟨rfl,hi,W2,ρ2,px2,e2,i2⟩
 have e0:Ev W H W2 H2:=(Ev.same s).trans e2
 by_cases hlt:i < xs.length
 ·refine .inr ⟨it.go W2 H2 i e2 hlt,fun σ3 H3=>∃ W3 ρ3,PX X.K X.H₀ W3 σ3 ρ3 H3/\Ev W H1 W3 H3/\I (i+1) ρ3,fun σ3 H3 ⟨W3,ρ3,a,b,c⟩=>⟨xs.length - (i+1),by omega,rfl,hlt,W3,ρ3,a,b,c⟩,fun v H3 y=>?_⟩
  obtain ⟨s3,x,hx,rx⟩:=it.yld W2 H2 i v H3 e2 y hlt
  refine hg X.H₀ W2 σ2 ρ2 H3 v x gb _ _ (px2.mono s3) rx (turn i x ρ2 hx i2) fun σ4 ρ4 px4 _ _ q4=>?_
  have e3:Ev W H1 W2 H3:=e2.trans (Ev.same s3)
  have e3':Ev W H W2 H3:=e0.trans (Ev.same s3)
  exact⟨W2,ρ4,_,px4,q4,fun W' σ' H' ρ' e p q=>⟨W',ρ',p,e3.trans e,q⟩,k.rt,fun W' σ' H' ρ' e p q=>k.nx W' σ' H' ρ' (e3'.trans e) p q,fun W' σ' H' ρ' e p q=>⟨W',ρ',p,e3.trans e,q⟩⟩
 ·have e:i=xs.length:=by omega
  subst e
  exact .inl ⟨it.stop W2 H2 e2,k.nx W2 σ2 H2 ρ2 e0 px2 (fin ρ2 i2)⟩
end
def iP (fr:List (Option Nat)) (ρ:aW):aW:=fr.map fun o=>o.bind fun j=>(ρ[j]?).join.map fun m=>Slot.sh false m.val
def i5 (D:Addr):Addr->Prop:=fun a=>a=D
theorem V6 {K:PySem.W.Frag}{H0:Hp}{W:Addr->Prop}{σ:St}{ρ:aW}{H1 H':Hp}{D:Addr}{acc:List V}{fr:List (Option Nat)} (px:PX K H0 W σ ρ H1) (hD:H1 D=none) (s:aA H1 H') (ha:H' D=some (.lst acc)) :
  PX K H1 (i5 D) (dR fr σ) (iP fr ρ) H':=by
 have old:∀ {a:Addr}{o:HO},H1 a=some o->a ≠ D:=fun {a o} e z=>by rw [z,hD] at e; cases e
 refine⟨by unfold dR iP; rw [at4,at4],s,fun a z=>by cases z; exact⟨hD,_,ha,rfl⟩,fun i m h=>?_,fun i j x y a h1=>?_⟩
 ·unfold iP at h
  rw [au9] at h
  cases ef:fr[i]? with
  | none=>rw [ef] at h; cases h
  | some o=>
   rw [ef] at h
   cases o with
   | none=>cases h
   | some j=>
    have h:some ((ρ[j]?).join.map fun m=>Slot.sh false m.val)=some (some m):=h
    cases er:ρ[j]? with
    | none=>rw [er] at h; cases h
    | some o=>
     rw [er] at h
     cases o with
     | none=>cases h
     | some m0=>
      cases h
      obtain ⟨v,ev,r⟩:=px.sl j m0 er
      refine⟨v,?_,?_⟩
      ·unfold dR
       rw [au9,ef]
       show some ((σ[j]?).join)=_
       rw [ev]; rfl
      ·have r':aE K (fun _=>True) H1 v m0.val:=(uJ (Hs:=H1) r).same (aA.refl _) fun _ _=>trivial
       exact r'.keep ⟨fun a _ _ e=>⟨old e,s _ _ e⟩,fun a _ _ e=>⟨old e,s _ _ e⟩,fun a _ _ e=>⟨old e,s _ _ e⟩,fun _ _ e=>s _ _ e,fun _ _ _ e=>s _ _ e⟩
 ·unfold iP at h1
  rw [au9] at h1
  cases ef:fr[i]? with
  | none=>rw [ef] at h1; cases h1
  | some o=>
   rw [ef] at h1
   cases o with
   | none=>cases h1
   | some j=>
    have h1:some ((ρ[j]?).join.map fun m=>Slot.sh false m.val)=some (some (Slot.own x)):=h1
    cases er:ρ[j]? with
    | none=>rw [er] at h1; cases h1
    | some o=>
     rw [er] at h1
     cases o with
     | none=>cases h1
     | some m0=>cases h1
section
variable {X : Cx} {σ : St} {H : Hp} {Q' : VK}
abbrev _root_.L2.Cx.frm (X:Cx) (H1:Hp):Cx:={ X with H₀:=H1 }
def e8 (ti:dH) (fr:List (Option Nat)) (p:gM) (tc:bZ) (te:aB):aB:=fun ρ Q=>ti ρ fun xs g=>xs.length<=16000000/\∃ I:Nat->List PV->Prop,I 0 []/\
 (∀ i x acc,xs[i]? = some x->I i acc->p x false (iP fr ρ) fun ρ2=>tc ρ2 fun b=>if b=true then te ρ2 fun y gy=>Nw gy y/\I (i+1) (acc ++ [y]) else I (i+1) acc)/\∀ acc,I xs.length acc->Q (.lst acc) .fr
theorem jZ {ti:dH}{fr:List (Option Nat)}{p:gM}{g:TG}{tc:bZ}{te:aB}{own:Nat->Prop} (hg:jX X.K own p g) (ho:∀ i,own i->fr[i]? = some none) (h:LE X (e8 ti fr p tc te) σ H Q') :
  p5 (LI X ti) fr (fun _=>g) (fun H1=>LT (X.frm H1) tc) (fun H1=>LE (X.frm H1) te) σ H Q':=by
 obtain ⟨W,ρ,Q,px,q,k⟩:=h
 refine⟨W,ρ,_,px,q,?_⟩
 rintro J H1 xs gb s it ⟨hl,I,i0,turn,fin⟩ D hD
 have px1:=px.mono s
 refine⟨fun i m acc H'=>m=xs.length - i/\i<=xs.length/\aA H1 H'/\H' D=some (.lst acc)/\∃ ys,Reps X.K (Ms H1 (i5 D) true) H' acc ys/\ys.length<=i/\I i ys,⟨xs.length,by omega,ay8 _,bR hD _,cD,[],.nil,as3 _,i0⟩,?_⟩
 rintro i m acc H' ⟨rfl,hi,sm,ha,ys,ry,hy,iy⟩
 refine⟨ha,?_⟩
 have ev:Ev W H1 (iM W D) H':=Ev.own sm hD
 by_cases hlt:i < xs.length
 ·refine .inr ⟨it.go _ H' i ev hlt,fun v H2 y=>?_⟩
  obtain ⟨s2,x,hx,rx⟩:=it.yld _ H' i v H2 ev y hlt
  have ha2:=s2 _ _ ha
  have pxb:PX X.K H1 (i5 D) (dR fr σ) (iP fr ρ) H2:=V6 px1 hD (sm.trans s2) ha2
  have rx':aE X.K (Ms H1 (i5 D) false) H2 v x:=rx.same (aA.refl _) fun a z=>by
   cases gb with
   | true=>exact fun e=>z.1 (.inr e)
   | false=>exact fun e=>z (.inr e)
  refine hg H1 (i5 D) _ _ H2 v x false _ _ pxb rx' (turn i x ys hx iy) fun σ2 ρ2 px2 hown hlen q2=>⟨⟨hlen.symm,fun j w e=>?_⟩,?_⟩
  ·by_cases oj:own j
   ·have:=ho j oj
    unfold dR at e
    rw [au9,this] at e
    cases e
   ·rw [hown j oj]; exact e
  ·refine⟨i5 D,ρ2,_,px2,q2,fun b H4 s4 q4=>?_⟩
   have ha4:=s4 _ _ ha2
   have sm4:=(sm.trans s2).trans s4
   cases b with
   | false=>
    refine aQ ⟨xs.length - (i+1),by omega,rfl,hlt,sm4,ha4,ys,ry.same (s2.trans s4) fun _ z=>z,by omega,by simpa using q4⟩
   | true=>
    refine bK ⟨i5 D,ρ2,_,px2.mono s4,by simpa using q4,?_⟩
    rintro w H5 y gy s5 ryy ⟨nw,q5⟩
    have ha5:=s5 _ _ ha4
    have lr:=ry.length
    refine⟨ha5,lU (by omega),xs.length - (i+1),by omega,rfl,hlt,fun b o e=>?_,cD,ys ++ [y],?_,by rw [aw7,List.length_singleton]; omega,q5⟩
    ·rw [aT (fun z=>by rw [z,hD] at e; cases e)]
     exact s5 _ _ (sm4 _ _ e)
    ·exact ((ry.same ((s2.trans s4).trans s5) fun _ z=>z).append (.cons (Nw.rep (px2.mono s4) nw ryy) .nil)).keep (.upd ha5 rfl fun b m=>⟨m.1,m⟩)
 ·have e:i=xs.length:=by omega
  subst e
  refine .inl ⟨it.stop _ H' ev,k _ H' _ .fr (s.trans sm) (.lst (s.free hD) ha (ry.same (aA.refl _) fun _ z=>s.free z.2)) (fin ys iy)⟩
def eI:bZ:=fun _ Q=>Q true
theorem V7 {Qb:Bool->Hp->Prop} (h:LT X eI σ H Qb):u6 σ H Qb:=by
 obtain ⟨W,ρ,Q,px,q,k⟩:=h
 exact k _ _ (aA.refl _) q
end
section
variable {κ : Type} [DecidableEq κ]
def V8 (ps:List (κ × PV)) (k:κ):Option PV:=(ps.find? fun p=>decide (p.1=k)).map (·.2)
variable {K : PySem.W.Frag} {M : Addr → Prop} {H : Hp}
end
def bM:Nat->PV->PV->Bool
 | _,.non,.non=>true
 | _,.bl a,.bl b=>a == b
 | _,.int a,.int b=>a == b
 | _,.str a,.str b=>a == b
 | n+1,.tup xs,.tup ys=>(xs.zip ys).all (fun p=>bM n p.1 p.2) && xs.length == ys.length
 | n+1,.lst xs,.lst ys=>(xs.zip ys).all (fun p=>bM n p.1 p.2) && xs.length == ys.length
 | n+1,.kt xs,.kt ys=>(xs.zip ys).all (fun p=>bM n p.1 p.2) && xs.length == ys.length
 | _,_,_=>false
def cY:Nat->PV->PV->Bool
 | _,.non,.non=>true
 | _,.bl _,.bl _=>true
 | _,.int _,.int _=>true
 | _,.str _,.str _=>true
 | _,.non,.int _=>true
 | _,.int _,.non=>true
 | n+1,.tup xs,.tup ys=>(xs.zip ys).all (fun p=>cY n p.1 p.2)
 | n+1,.lst xs,.lst ys=>(xs.zip ys).all (fun p=>cY n p.1 p.2)
 | n+1,.kt xs,.kt ys=>(xs.zip ys).all (fun p=>cY n p.1 p.2)
 | _+1,.non,.tup _=>true
 | _+1,.tup _,.non=>true
 | _,_,_=>false
theorem V9 (n:Nat) (a b:Int):bM n (.int a) (.int b)=(a == b):=by cases n <;> rfl
theorem uZ (n:Nat):∀ (a b:List Int),((((intz a).zip (intz b)).all fun p=>bM n p.1 p.2) && (intz a).length == (intz b).length)=decide (a=b)
 | [],[]=>rfl
 | [],_ :: _=>by simp
 | _ :: _,[]=>by simp
 | x :: a,y :: b=>by
  have ih:=uZ n a b
  simp only [List.map_cons,aC3,List.all_cons,aB9,V9] at ih ⊢
  by_cases e:x=y
  ·subst e
   have:((intz a).length+1 == (intz b).length+1)=((intz a).length == (intz b).length):=by simp
   rw [this,ax5,Bool.true_and,ih]
   simp
  ·have:(x == y)=false:=beq_eq_false_iff_ne.mpr e
   rw [this,Bool.false_and,Bool.false_and]
   simp [e]
theorem v3 (n:Nat) (a b:List Int):bM (n+1) (.tup (intz a)) (.tup (intz b))=decide (a=b):=uZ n a b
theorem v4 (n:Nat):∀ (a b:List Int),(((intz a).zip (intz b)).all fun p=>cY n p.1 p.2)=true
 | [],_=>by simp
 | _ :: _,[]=>by simp
 | x :: a,y :: b=>by
  simp only [List.map_cons,aC3,List.all_cons,v4 n a b,Bool.and_true]
  cases n <;> rfl
theorem v7 (n:Nat) (a b:List Int):cY (n+1) (.tup (intz a)) (.tup (intz b))=true:=v4 n a b
def iQ (ta:aB):aB:=fun ρ Q=>ta ρ fun x _=>∃ i,x = .int i/\Q (.int (-i)) .fr
def v8:PV->Option String
 | .non=>some "NoneType"
 | .bl _=>some "bool"
 | .int _=>some "int"
 | .str _=>some "str"
 | .tup _=>some "tuple"
 | .kt _=>some "tuple"
 | .lst _=>some "list"
 | _=>none
def eV (K:PySem.W.Frag) (n:String) (te:aB):aB:=fun ρ Q=>te ρ fun x _=>∃ T b,v8 x=some T/\PySem.W.kitOne K (.type T) (.type n)=some b/\Q (.bl b) .fr
def mC (n:Nat) (neg:Bool):PV->Tg->PV->Tg->PK->Prop:=fun x _ y _ Q=>((∃ xs ys,x = .tup xs/\y = .tup ys) ∨ (∃ xs ys,x = .lst xs/\y = .lst ys))/\cY (n+1) x y=true/\Q (.bl (if neg=true then !bM (n+1) x y else bM (n+1) x y)) .fr
abbrev iR:=aW->(Option Int->Prop)->Prop
def iS (xs:List PV) (lo hi:Option Int):List PV:=(xs.drop (HT.aL xs.length 0 lo)).take (HT.aL xs.length xs.length hi - HT.aL xs.length 0 lo)
def W0:PV->List PV->PV
 | .tup _,ys=>.tup ys
 | .kt _,ys=>.tup ys
 | _,ys=>.lst ys
def v9:iR:=fun _ Q=>Q none
def vA (te:aB):iR:=fun ρ Q=>te ρ fun x _=>∃ i,x = .int i/\Q (some i)
def vB (te:aB) (tl th:iR):aB:=fun ρ Q=>te ρ fun x _=>tl ρ fun lo=>th ρ fun hi=>∃ xs,seqT x=some xs/\flats xs=true/\Q (W0 x (iS xs lo hi)) .fr
def cZ (N:List Str) (xs:List PV):aW:=xs.map (fun x=>some (.sh (flat x) x)) ++ List.replicate (N.length - xs.length) none
abbrev dA (ta tb:aB):aB:=q2 (cX fun i j=>.int (i+j)) ta tb
abbrev fZ (ta tb:aB):aB:=q2 (cX fun i j=>.int (i - j)) ta tb
abbrev mD (ta tb:aB):aB:=q2 (RI jO fun i j=>.int (i * j)) ta tb
abbrev dI (ta tb:aB):aB:=q2 (RI oB fun i j=>.int (i / j)) ta tb
abbrev cT (ta tb:aB):aB:=q2 (RI (fun _ j=>0 < j) fun i j=>.int (i % j)) ta tb
abbrev pU (ta tb:aB):aB:=q2 (RI oC fun i j=>.int (i ^ j.toNat)) ta tb
abbrev iT (ta tb:aB):aB:=q2 (cX fun i j=>.bl (decide (i < j))) ta tb
abbrev iU (ta tb:aB):aB:=q2 (cX fun i j=>.bl (decide (j < i))) ta tb
abbrev pV (ta tb:aB):aB:=q2 (cX fun i j=>.bl (decide (j<=i))) ta tb
abbrev k4 (ta tb:aB):aB:=q2 (iL false) ta tb
abbrev vC (ta tb:aB):aB:=q2 (iL true) ta tb
abbrev W4 (ta tb:aB):aB:=q2 (pR false) ta tb
abbrev bN (ta tb:aB):aB:=q2 pO ta tb
def k6:List PV->(PV->Prop)->Prop:=fun xs Q=>uS xs Q/\∀ ns,xs ≠ [.scr ns]
def iV:aM:=fun _ _=>False
def QE (X:Cx) (e:Expr) (t:aB):Prop:=PE X e (LE X t)
def QT (X:Cx) (e:Expr) (t:bZ):Prop:=PT X e (LT X t)
def QW (X:Cx) (e:Expr) (t:bZ):Prop:=PW X e (LT X t)
def QA (X:Cx) (es:List Expr) (t:bS):Prop:=PA X es (LA X t)
def QS (X:Cx) (st:Stmt) (t:aM):Prop:=PS X st (LS X t)
def dJ (X:Cx) (st:List Stmt) (t:aM):Prop:=cM X st (LS X t)
def QI (X:Cx) (tg iter:Expr) (t:dH):Prop:=PI X tg iter (LI X t)
section
variable {X : Cx}
theorem bO {e:Expr}{t t':TE} (h:PE X e t) (m:∀ σ H Q,t' σ H Q->t σ H Q):PE X e t':=fun pins s σ H Q I q=>h pins s σ H Q I (m σ H Q q)
theorem pW {e:Expr}{t t':TT} (h:PT X e t) (m:∀ σ H Q,t' σ H Q->t σ H Q):PT X e t':=fun pins s σ H Q I q=>h pins s σ H Q I (m σ H Q q)
theorem W5 {e:Expr}{t t':TT} (h:PW X e t) (m:∀ σ H Q,t' σ H Q->t σ H Q):PW X e t':=fun wh pins s σ H Q I q=>h wh pins s σ H Q I (m σ H Q q)
theorem vD {e:List Expr}{t t':TA} (h:PA X e t) (m:∀ σ H Q,t' σ H Q->t σ H Q):PA X e t':=fun pos pins s σ H Q I q=>h pos pins s σ H Q I (m σ H Q q)
theorem dB {e:Stmt}{t t':TS} (h:PS X e t) (m:∀ D σ H,t' D σ H->t D σ H):PS X e t':=fun pins s σ H D I q=>h pins s σ H D I (m D σ H q)
theorem pX {e:List Stmt}{t t':TS} (h:cM X e t) (m:∀ D σ H,t' D σ H->t D σ H):cM X e t':=fun pins s σ H D I q=>h pins s σ H D I (m D σ H q)
theorem mE {tg e:Expr}{t t':TI} (h:PI X tg e t) (m:∀ σ H R,t' σ H R->t σ H R):PI X tg e t':=fun pins s σ H R I q=>h pins s σ H R I (m σ H R q)
variable {a b c e o : Expr} {es bU : List Expr} {ta tb te to tk : aB} {tr : bS} {tA tB' tc : bZ} {pos p2 px : Pos} {st : Stmt} {sts : List Stmt} {t u : aM}
theorem qv (i:Nat) {x:Str}{pos:Pos} (hN:X.N[i]? = some x:=by rfl) (hv:gX X.env.scope x:=by first | exact Or.inl rfl | exact Or.inr (Or.inl rfl) | exact Or.inr (Or.inr rfl)) (hd:(x == ("__debug__" : Str))=false:=by decide)
  (hcd:(x == ("__classdict__" : Str))=false:=by decide):QE X (.Name x pos) (a6 i):=bO (lB hN hv hd hcd) fun _ _ _=>R8
theorem a9 {i j}:QE X (.Constant (.int i) j pos) (qC (.int i)):=bO A6 fun _ _ _=>jU fun _=>.int i
theorem fF {i j}:QE X (.Constant (.bool i) j pos) (qC (.bl i)):=bO A7 fun _ _ _=>jU fun _=>.bl i
theorem vE {j}:QE X (.Constant .none j pos) (qC .non):=bO A8 fun _ _ _=>jU fun _=>.non
theorem fG {i j}:QE X (.Constant (.str i) j pos) (qC (.str i)):=bO A9 fun _ _ _=>jU fun _=>.str i
theorem eW {op:Operator}{R:PV->Tg->PV->Tg->PK->Prop}{r:R2} (ho:b8 X (binaryOp op) r) (cv:cF X R r) (ha:QE X a ta) (hb:QE X b tb):QE X (.BinOp a op b pos) (q2 R ta tb):=bO (E6 ho ha hb) fun _ _ _=>lX cv
theorem dC (ha:QE X a ta) (hb:QE X b tb):QE X (.BinOp a .Add b pos) (q2 (cX fun i j=>.int (i+j)) ta tb):=eW E8 uK ha hb
theorem g6 (ha:QE X a ta) (hb:QE X b tb):QE X (.BinOp a .Sub b pos) (q2 (cX fun i j=>.int (i - j)) ta tb):=eW E9 uK ha hb
theorem mF (ha:QE X a ta) (hb:QE X b tb):QE X (.BinOp a .Mult b pos) (q2 (RI jO fun i j=>.int (i * j)) ta tb):=eW F0 lY ha hb
theorem dL (ha:QE X a ta) (hb:QE X b tb):QE X (.BinOp a .FloorDiv b pos) (q2 (RI oB fun i j=>.int (i / j)) ta tb):=eW F1 lY ha hb
theorem cU (ha:QE X a ta) (hb:QE X b tb):QE X (.BinOp a .Mod b pos) (q2 (RI (fun _ j=>0 < j) fun i j=>.int (i % j)) ta tb):=eW F2 lY ha hb
theorem pY (ha:QE X a ta) (hb:QE X b tb):QE X (.BinOp a .Pow b pos) (q2 (RI oC fun i j=>.int (i ^ j.toNat)) ta tb):=eW F3 lY ha hb
theorem k7 {op:CmpOp}{R:PV->Tg->PV->Tg->PK->Prop}{r:R2} (ho:b8 X (compareOp op) r) (cv:cF X R r) (ha:QE X a ta) (hb:QE X b tb) (hm:behindInMarks op b=false):QE X (.Compare a [op] [b] pos) (q2 R ta tb):=bO (F7 ho ha hb hm) fun _ _ _=>lX cv
theorem gN {op:CmpOp}{R:PV->Tg->PV->Tg->PK->Prop}{r:R2} (ho:b8 X (compareOp op) r) (cv:cF X R r) (ha:QE X a ta) (hb:QE X b tb) (hm:behindInMarks op b=false):QT X (.Compare a [op] [b] pos) (aR (q2 R ta tb)):=pW (F9 ho ha hb hm) fun _ _ _ h=>lX cv (uN h)
theorem vF (ha:QE X a ta) (hb:QE X b tb):QE X (.Compare a [.Lt] [b] pos) (q2 (cX fun i j=>.bl (decide (i < j))) ta tb):=k7 oF hV ha hb (dO _)
theorem W6 (ha:QE X a ta) (hb:QE X b tb):QE X (.Compare a [.Gt] [b] pos) (q2 (cX fun i j=>.bl (decide (j < i))) ta tb):=k7 t6 hV ha hb (dO _)
theorem vG (ha:QE X a ta) (hb:QE X b tb):QE X (.Compare a [.GtE] [b] pos) (q2 (cX fun i j=>.bl (decide (j<=i))) ta tb):=k7 t7 hV ha hb (dO _)
theorem mG (ha:QE X a ta) (hb:QE X b tb):QT X (.Compare a [.Lt] [b] pos) (aR (q2 (cX fun i j=>.bl (decide (i < j))) ta tb)):=gN oF hV ha hb (dO _)
theorem k8 (ha:QE X a ta) (hb:QE X b tb):QT X (.Compare a [.Gt] [b] pos) (aR (q2 (cX fun i j=>.bl (decide (j < i))) ta tb)):=gN t6 hV ha hb (dO _)
theorem W7 (ha:QE X a ta) (hb:QE X b tb):QT X (.Compare a [.GtE] [b] pos) (aR (q2 (cX fun i j=>.bl (decide (j<=i))) ta tb)):=gN t7 hV ha hb (dO _)
theorem k9 (ha:QE X a ta) (hb:QE X b tb):QT X (.Compare a [.Eq] [b] pos) (aR (q2 (iL false) ta tb)):=gN t0 R9 ha hb (dO _)
theorem vH (ha:QE X a ta) (hb:QE X b tb):QT X (.Compare a [.NotEq] [b] pos) (aR (q2 (iL true) ta tb)):=gN t5 S0 ha hb (dO _)
theorem W8 (ha:QE X a ta) (hb:QE X b tb):QT X (.Compare a [.Is] [b] pos) (aR (q2 (pR false) ta tb)):=gN F6 V0 ha hb (dO _)
theorem eJ (h:QE X e te) (he:∀ whole,isTrue e X.env whole=(do let v <- whole; standAt e.pos; holding [v] (truthy v)):=by intro _; rfl):QT X e (aR te):=pW (B0 h he) fun _ _ _ h=>uN h
theorem g9 (ha:QT X a tA):QW X (.BoolOp .Or [a] pos) tA:=B1 ha
theorem fH (ha:QT X a tA) (hb:QW X (.BoolOp .Or (b :: bU) pos) tB'):QW X (.BoolOp .Or (a :: b :: bU) pos) (eH tA tB'):=W5 (B2 ha hb) fun _ _ _=>S2
theorem gA (h:QW X e tA):QT X e tA:=PW.pt h
theorem eY (ha:QT X a tA):QT X (.UnaryOp .Not a pos) (dW tA):=pW (B3 ha) fun _ _ _=>S3
theorem mH {op} (h:QE X a ta):QE X (.BoolOp op [a] pos) ta:=B4 h
theorem kA (ha:QE X a ta) (hb:QE X (.BoolOp .And (b :: bU) pos) tb):QE X (.BoolOp .And (a :: b :: bU) pos) (hZ ta tb):=bO (B5 ha hb) fun _ _ _=>S4
theorem W9 (ha:QE X a ta) (hb:QE X (.BoolOp .Or (b :: bU) pos) tb):QE X (.BoolOp .Or (a :: b :: bU) pos) (pE ta tb):=bO (B6 ha hb) fun _ _ _=>S5
theorem X0 (ha:QE X a ta):QE X (.UnaryOp .Not a pos) (pF ta):=bO (B7 ha) fun _ _ _=>S6
theorem aD:QA X [] aC:=vD fO fun _ _ _=>S7
theorem a8 (ha:QE X e te) (hr:QA X es tr) (hs:starEach (e :: es) X.env=(false,eval e X.env) :: starEach es X.env:=by rfl):QA X (e :: es) (a7 te tr):=vD (dP ha hr hs) fun _ _ _=>S8
theorem bC {x1} (h:QA X es tr):QE X (.Tuple es x1 pos) (b7 tr):=bO (G7 h) fun _ _ _=>S9
theorem i6 (h:QA X es tr):QE X (.List es pos) (fV tr):=bO (G8 h) fun _ _ _=>T0
theorem bP (ha:QE X a ta) (hb:QE X b tb) (hs:tO b:=by exact fun _ _=>rfl):QE X (.Subscript a b pos) (q2 pO ta tb):=bO (L9 M5 ha hb hs) fun _ _ _=>lX U2
theorem gO {x:Str}{id:String}{R:List PV->(PV->Prop)->Prop}{r:List V->Hp->VK->Prop} (hc:cB X (.builtin id) r) (cv:dX X R r) (hg:Gl X x) (hm:X.mg x=none) (hv:bootBuiltins x=some (.builtin id)) (ha:QA X (e :: es) tr) (hn:x ≠ "__name__":=by decide) (hdb:(x == ("__debug__" : Str))=false:=by decide)
  (he:starEach (e :: es) X.env=(false,eval e X.env) :: starEach es X.env:=by rfl) (hpl:(backTo pos (starEach es X.env)).any (·.1)=false:=by rfl):QE X (.Call (.Name x p2) (e :: es) [] pos) (aH R tr):=bO (oM hc hg hm hv ha hn hdb he hpl) fun _ _ _=>uO cv
theorem vI {x:Str}{T:String}{R:List PV->(PV->Prop)->Prop}{r:List V->Hp->VK->Prop} (hc:cB X (.type T) r) (cv:dX X R r) (hg:Gl X x) (hm:X.mg x=none) (hv:bootBuiltins x=some (.type T)) (ha:QA X (e :: es) tr) (hn:x ≠ "__name__":=by decide) (hdb:(x == ("__debug__" : Str))=false:=by decide)
  (he:starEach (e :: es) X.env=(false,eval e X.env) :: starEach es X.env:=by rfl) (hpl:(backTo pos (starEach es X.env)).any (·.1)=false:=by rfl):QE X (.Call (.Name x p2) (e :: es) [] pos) (aH R tr):=bO (J1 hc hg hm hv ha hn hdb he hpl) fun _ _ _=>uO cv
theorem cG:dJ X [] c7:=pX B9 fun _ _ _=>T1
theorem aO (h1:QS X st t) (h2:dJ X sts u):dJ X (st :: sts) (aN t u):=pX (C0 h1 h2) fun _ _ _=>T2
theorem aU (h1:QS X st t):dJ X [st] t:=C1 h1
theorem kB:QS X st iV:=dB C4 fun _ _ _ ⟨_,_,_,_,h,_⟩=>h
theorem bT {i:Nat}{x:Str} (hN:X.N.Nodup) (he:QE X e te) (hi:X.N[i]? = some x:=by rfl) (hx:eM X.env.scope x:=by first | exact Or.inl rfl | exact Or.inr rfl) (hs:swapsWith e (some (.Name x p2)) pos.line X.env=pure false:=by rfl) (hf:X.fn x=true ∨ X.env.scope.names.lookup x=some .local:=by first | exact .inl rfl | exact .inr rfl) :
  QS X (.Assign [.Name x p2] e pos) (bB i te):=dB (sN hN hi hx he hs hf) fun _ _ _=>pJ
theorem vJ {i:Nat}{x:Str} (hN:X.N.Nodup) (he:QE X e te) (hi:X.N[i]? = some x:=by rfl) (hx:eM X.env.scope x:=by first | exact Or.inl rfl | exact Or.inr rfl) (hs:swapsWith e (some (.Name x p2)) pos.line X.env=pure false:=by rfl) (hf:X.fn x=true ∨ X.env.scope.names.lookup x=some .local:=by first | exact .inl rfl | exact .inr rfl) :
  QS X (.Assign [.Name x p2] e pos) (m5 i te):=dB (sN hN hi hx he hs hf) fun _ _ _=>T4
theorem vK (he:QE X e te) (hs:swapsWith e none pos.line X.env=pure false:=by rfl):QS X (.Expr e pos) (m6 te):=dB (lC he hs) fun _ _ _=>T5
theorem bQ (he:QE X e te):QS X (.Return (some e) pos) (bH te):=dB (sK he) fun _ _ _=>T6
theorem X1 (i:Nat) {x:Str} (hN:X.N[i]? = some x:=by rfl) (hv:gX X.env.scope x:=by first | exact Or.inl rfl | exact Or.inr (Or.inl rfl) | exact Or.inr (Or.inr rfl)) (hd:(x == ("__debug__" : Str))=false:=by decide) (hcd:(x == ("__classdict__" : Str))=false:=by decide) :
  QS X (.Return (some (.Name x p2)) pos) (pK i):=dB (sK (lB hN hv hd hcd)) fun _ _ _=>T7
theorem cH {sa sb:List Stmt} (hc:QT X c tc) (ha:dJ X sa t) (hb:dJ X sb u):QS X (.If c sa sb pos) (c8 tc t u):=dB (C2 hc ha hb) fun _ _ _=>T8
theorem X2 (i:Nat) {x:Str}{apos cpos xpos:Pos} (he:QE X e te) (hN:X.N[i]? = some x:=by rfl) (hv:gX X.env.scope x:=by first | exact Or.inl rfl | exact Or.inr (Or.inl rfl) | exact Or.inr (Or.inr rfl)) (hd:(x == ("__debug__" : Str))=false:=by decide) (hcd:(x == ("__classdict__" : Str))=false:=by decide)
  (hbase:attributeBase (.Name x xpos) "append" X.env (eval (.Name x xpos) X.env)=eval (.Name x xpos) X.env:=by rfl)
  (hfew:((backTo cpos (starEach [e] X.env)).all (fun x=>!x.1) && (backToKw cpos (keywordEach [] X.env)).all (fun x=>x.1.isSome) && decide (([e]:List Expr).length+([]:List Keyword).length+(if ([]:List Keyword).isEmpty then 0 else 1) < 30))=true:=by rfl)
  (hline:(apos.endLine == cpos.line)=true:=by rfl) (hs:starEach [e] X.env=(false,eval e X.env) :: starEach [] X.env:=by rfl) (hplain:(backTo cpos (starEach [] X.env)).any (·.1)=false:=by rfl)
  (hsw:swapsWith (.Call (.Attribute (.Name x xpos) "append" apos) [e] [] cpos) none pos.line X.env=pure false:=by rfl) :
  QS X (.Expr (.Call (.Attribute (.Name x xpos) "append" apos) [e] [] cpos) pos) (pL i te):=
 dB (lC (oQ PySem.F.plainAttrs_list PySem.F.slot_list_append PySem.F.type_list_append oU (lB hN hv hd hcd) (dP he fO hs) hbase hfew hline hs hplain) hsw) fun _ _ _=>T9
theorem X3 {apos cpos:Pos} (ho:QE X o to) (he:QE X e te)
  (hbase:attributeBase o "append" X.env (eval o X.env)=eval o X.env:=by rfl)
  (hfew:((backTo cpos (starEach [e] X.env)).all (fun x=>!x.1) && (backToKw cpos (keywordEach [] X.env)).all (fun x=>x.1.isSome) && decide (([e]:List Expr).length+([]:List Keyword).length+(if ([]:List Keyword).isEmpty then 0 else 1) < 30))=true:=by rfl)
  (hline:(apos.endLine == cpos.line)=true:=by rfl) (hs:starEach [e] X.env=(false,eval e X.env) :: starEach [] X.env:=by rfl) (hplain:(backTo cpos (starEach [] X.env)).any (·.1)=false:=by rfl)
  (hsw:swapsWith (.Call (.Attribute o "append" apos) [e] [] cpos) none pos.line X.env=pure false:=by rfl) :
  QS X (.Expr (.Call (.Attribute o "append" apos) [e] [] cpos) pos) (pM to te):=
 dB (lC (oQ PySem.F.plainAttrs_list PySem.F.slot_list_append PySem.F.type_list_append oU ho (dP he fO hs) hbase hfew hline hs hplain) hsw) fun _ _ _=>U0
theorem X4 {tg l:Expr}{tl:TE} (hl:PE X l tl):PI X tg l (uT X.K tl):=by
 intro pins s σ H R I h
 refine aK (hl pins s σ H _ I h) fun v s1 ⟨x,H1,I1,r1,q1⟩=>?_
 obtain ⟨a,e,q⟩:=q1
 subst e
 cases r1
 rcases q with ⟨xs,hq,q⟩ | ⟨xs,hq,q⟩
 ·obtain ⟨its,rv,p,hz⟩:=I1.list hq
  refine wpAny_pyIter_list p.isList ?_
  refine⟨s1.heap.objs.size,[s1.heap.objs.size],_,_,H1,rfl,I1.kept (t':=s1.toks) fun b o e=>ar7 _ e,C7 a _,⟨_,au5 _ rfl,rfl,rfl⟩,fun b hb=>?_,q⟩
  have e:b=s1.heap.objs.size:=by simpa using hb
  subst e
  exact I1.fpOk (as3 _) (I1.hok.fresh (as3 _))
 ·obtain ⟨its,rv,p,hz⟩:=I1.tuple hq
  refine wpAny_pyIter_tuple (show s1.heap.IsTuple a its.toArray from p) ?_
  refine⟨s1.heap.objs.size,[s1.heap.objs.size],_,_,H1,rfl,I1.kept (t':=s1.toks) fun b o e=>ar7 _ e,C8 a _,⟨_,au5 _ rfl,rfl,rfl⟩,fun b hb=>?_,q⟩
  have e:b=s1.heap.objs.size:=by simpa using hb
  subst e
  exact I1.fpOk (as3 _) (I1.hok.fresh (as3 _))
theorem kC {tg l:Expr} (hl:QE X l te):QI X tg l (i4 te):=mE (X4 hl) fun _ _ _=>V1
theorem iW {tg:Expr} (hg:Gl X "range") (hm:X.mg "range" = none) (ha:QE X a ta) (hs:starEach [a] X.env = [(false,eval a X.env)]:=by rfl):QI X tg (.Call (.Name "range" p2) [a] [] pos) (gL ta):=mE (E1 hg hm (dP ha fO hs) hs) fun _ _ _=>V2
theorem X5 {tg:Expr} (hg:Gl X "range") (hm:X.mg "range" = none) (ha:QE X a ta) (hb:QE X b tb) (hs:starEach [a,b] X.env = [(false,eval a X.env),(false,eval b X.env)]:=by rfl) (hs2:starEach [b] X.env = [(false,eval b X.env)]:=by rfl) :
  QI X tg (.Call (.Name "range" p2) [a,b] [] pos) (pS ta tb):=mE (E2 hg hm (dP ha (dP hb fO hs2) (by rw [hs,hs2])) hs hs2) fun _ _ _=>V3
theorem X6 {tg:Expr}{body:List Stmt}{ti:dH}{p:gM}{g:TG}{own:Nat->Prop} (hp:PassesOwn (model X.prog X.w) X.A X.env X.xe) (hc:X.calm=true) (hi:QI X tg e ti) (hg:PG X tg g) (ht:jX X.K own p g) (hb:dJ X body t)
  (hs:∀ x,foldedSetIterable e X.env x=pure x:=by intro _; rfl):QS X (.For tg e body [] pos) (fY ti p t):=dB (E4 hp hc hi hg hb hs) fun _ _ _=>V5 ht
end
section
variable {X : Cx} {pins : List (Addr × Obj)} {σ : St} {H : Hp} {s : Shared} {K : PySem.W.Frag} {M M' : Addr → Prop}
theorem iK.inj {a:Addr}{us ws:List V} (h:iK K a us) (h':iK K a ws):us=ws:=by
 obtain ⟨o,its,n,e1,_,e2,_,v⟩:=h
 obtain ⟨o',its',n',e1',_,e2',_,v'⟩:=h'
 rw [e1] at e1'; cases e1'
 rw [e2] at e2'; cases e2'
 exact v.inj v'
theorem Reps.self_of {n:Nat} (ih:∀ {v:V}{x y:PV},aE K M H v x->aE K M' H v y->cY n x y=true->bM n x y=true):∀ {vs:List V}{xs ys:List PV},Reps K M H vs xs->Reps K M' H vs ys->((xs.zip ys).all fun p=>cY n p.1 p.2)=true->(((xs.zip ys).all fun p=>bM n p.1 p.2) && xs.length == ys.length)=true
 | _,_,_,.nil,.nil,_=>rfl
 | _,_,_,.cons r t,.cons r' t',o=>by
  simp only [aC3,List.all_cons,az7] at o
  have h1:=ih r r' o.1
  have h2:=Reps.self_of ih t t' o.2
  simp only [aC3,List.all_cons,h1,Bool.true_and,aB9] at h2 ⊢
  rw [<- h2]
  congr 1
  simp
theorem aE.self:∀ (n:Nat) {v:V}{x y:PV},aE K M H v x->aE K M' H v y->cY n x y=true->bM n x y=true:=by
 intro n
 induction n with
 | zero=>
  intro v x y r r' o
  cases r with
  | non=>cases r'; rfl
  | bl b=>cases r'; exact ax5 b
  | int i=>cases r'; exact ax5 i
  | str z=>cases r'; exact ax5 z
  | _=>cases o
 | succ n ih=>
  intro v x y r r' o
  cases r with
  | non=>cases r'; rfl
  | bl b=>cases r'; exact ax5 b
  | int i=>cases r'; exact ax5 i
  | str z=>cases r'; exact ax5 z
  | tup h rr=>
   cases r' with
   | tup h' rr'=>rw [h] at h'; cases h'; exact Reps.self_of ih rr rr' o
   | _=>cases o
  | lst _ h rr=>
   cases r' with
   | lst _ h' rr'=>rw [h] at h'; cases h'; exact Reps.self_of ih rr rr' o
   | _=>cases o
  | kt h rr=>
   cases r' with
   | kt h' rr'=>cases iK.inj h h'; exact Reps.self_of ih rr rr' o
   | _=>cases o
  | _=>cases o
theorem Reps.self (n:Nat) {vs:List V}{xs ys:List PV} (r:Reps K M H vs xs) (r':Reps K M' H vs ys) (o:((xs.zip ys).all fun p=>cY n p.1 p.2)=true):(((xs.zip ys).all fun p=>bM n p.1 p.2) && xs.length == ys.length)=true:=Reps.self_of (aE.self n) r r' o
theorem gB (n:Nat) (xs ys:List PV):(List.range (min xs.length ys.length)).all (fun j=>bM n (xs.getD j .non) (ys.getD j .non))=(xs.zip ys).all fun p=>bM n p.1 p.2:=by
 rw [aB4]
 simp only [az8,List.mem_range]
 constructor
 ·intro h p hp
  obtain ⟨j,hj,e⟩:=ay5 hp
  have hj':j < min xs.length ys.length:=by simpa using hj
  have:=h j hj'
  rw [List.getElem_zip] at e
  subst e
  have h1:j < xs.length:=by omega
  have h2:j < ys.length:=by omega
  simpa [at2,h1,h2] using this
 ·intro h j hj
  have h1:j < xs.length:=by omega
  have h2:j < ys.length:=by omega
  have hz:j < (xs.zip ys).length:=by simp; omega
  have:=h _ (aA3 hz)
  rw [List.getElem_zip] at this
  simpa [at2,h1,h2] using this
theorem X7 (I:a5 X pins σ H s):∀ (n:Nat) {A:Around}{v w:V}{x y:PV}{a b:Value},A.units+n < cLine->aE X.K M H v x->aE X.K M' H w y->aS v a->aS w b->cY n x y=true->SeqAt.EqAt A s a b (bM n x y):=by
 intro n
 induction n with
 | zero=>
  intro A v w x y a b hu rx ry ra rb o
  cases rx with
  | non=>
   cases ra
   cases ry with
   | non=>cases rb; exact SeqAt.EqAt.same _
   | int i=>obtain ⟨t',rfl⟩:=rb; exact SeqAt.EqAt.none_int _ _
   | _=>cases o
  | bl i=>
   cases ra
   cases ry with
   | bl j=>cases rb; exact SeqAt.EqAt.bool_bool _ _
   | _=>cases o
  | int i=>
   obtain ⟨t,rfl⟩:=ra
   cases ry with
   | int j=>obtain ⟨t',rfl⟩:=rb; exact SeqAt.EqAt.int_int _ _ _ _
   | non=>cases rb; exact SeqAt.EqAt.int_none _ _
   | _=>cases o
  | str i=>
   obtain ⟨t,rfl⟩:=ra
   cases ry with
   | str j=>obtain ⟨t',rfl⟩:=rb; exact SeqAt.EqAt.str_str _ _ _ _
   | _=>cases o
  | _=>cases o
 | succ n ih=>
  intro A v w x y a b hu rx ry ra rb o
  have items:∀ {us ws:List V}{xs ys:List PV}{its its2:List Value},Reps X.K M H us xs->Reps X.K M' H ws ys->aF us its->aF ws its2->((xs.zip ys).all fun p=>cY n p.1 p.2)=true->
    ∀ j (h1:j < its.toArray.size) (h2:j < its2.toArray.size),SeqAt.EqAt A.in1 s its.toArray[j] its2.toArray[j] (bM n (xs.getD j .non) (ys.getD j .non)):=fun {us ws xs ys its its2} r1 r2 v1 v2 ok j h1 h2=>by
   have l1:=v1.length
   have l2:=v2.length
   have m1:=r1.length
   have m2:=r2.length
   have k1:j < its.length:=by simpa using h1
   have k2:j < its2.length:=by simpa using h2
   have j1:j < us.length:=by omega
   have j2:j < ws.length:=by omega
   have i1:j < xs.length:=by omega
   have i2:j < ys.length:=by omega
   obtain ⟨u,hu',ru⟩:=v1.get (ar9 j1)
   obtain ⟨u2,hu2',ru2⟩:=v2.get (ar9 j2)
   obtain ⟨x,hx,rx⟩:=r1.get (ar9 j1)
   obtain ⟨y,hy,ry⟩:=r2.get (ar9 j2)
   have e1:its.toArray[j]=u:=by
    rw [ar9 k1] at hu'
    simpa using hu'
   have e2:its2.toArray[j]=u2:=by
    rw [ar9 k2] at hu2'
    simpa using hu2'
   have ok':cY n x y=true:=by
    rw [az8] at ok
    have hz:j < (xs.zip ys).length:=by simp; omega
    have:=ok _ (aA3 hz)
    rw [List.getElem_zip] at this
    rw [ar9 i1] at hx
    rw [ar9 i2] at hy
    cases hx; cases hy
    exact this
   rw [e1,e2]
   have g1:xs.getD j .non=x:=by rw [at2,hx]; rfl
   have g2:ys.getD j .non=y:=by rw [at2,hy]; rfl
   rw [g1,g2]
   exact ih (by show A.units+1+n < cLine; omega) rx ry ru ru2 ok'
  have huA:A.units < cLine:=by omega
  cases rx with
  | @kt p us xs h1 r1=>
   obtain ⟨its,v1,p1,_⟩:=I.tuple (.inr h1)
   cases (show a=Value.ref p from ra)
   cases ry with
   | @kt p2 ws ys h2 r2=>
    obtain ⟨its2,v2,p2',_⟩:=I.tuple (.inr h2)
    cases (show b=Value.ref p2 from rb)
    by_cases e:p=p2
    ·subst e
     have:=aE.self (K:=X.K) (M:=M) (M':=M') (n+1) (.kt h1 r1) (.kt h2 r2) o
     rw [this]
     exact SeqAt.EqAt.same _
    ·have:=SeqAt.RcAt.tuples p1 p2' huA (items r1 r2 v1 v2 o)
     refine .of_refs e ?_
     have l1:=v1.length
     have l2:=v2.length
     have m1:=r1.length
     have m2:=r2.length
     rw [ar8,ar8,<- l1,<- l2,m1,m2,gB] at this
     exact this
   | _=>cases o
  | @tup p us xs h1 r1=>
   obtain ⟨its,v1,p1,_⟩:=I.tuple (aG.of (K:=X.K) h1)
   cases (show a=Value.ref p from ra)
   cases ry with
   | @tup p2 ws ys h2 r2=>
    obtain ⟨its2,v2,p2',_⟩:=I.tuple (aG.of (K:=X.K) h2)
    cases (show b=Value.ref p2 from rb)
    by_cases e:p=p2
    ·subst e
     have:=aE.self (K:=X.K) (M:=M) (M':=M') (n+1) (.tup h1 r1) (.tup h2 r2) o
     rw [this]
     exact SeqAt.EqAt.same _
    ·have:=SeqAt.RcAt.tuples p1 p2' huA (items r1 r2 v1 v2 o)
     refine .of_refs e ?_
     have l1:=v1.length
     have l2:=v2.length
     have m1:=r1.length
     have m2:=r2.length
     rw [ar8,ar8,<- l1,<- l2,m1,m2,gB] at this
     exact this
   | non=>cases rb; exact SeqAt.EqAt.tuple_none p1 huA
   | _=>cases o
  | @lst p us xs _ h1 r1=>
   obtain ⟨its,v1,p1,_⟩:=I.list (aJ.of (K:=X.K) h1)
   cases (show a=Value.ref p from ra)
   cases ry with
   | @lst p2 ws ys _ h2 r2=>
    obtain ⟨its2,v2,p2',_⟩:=I.list (aJ.of (K:=X.K) h2)
    cases (show b=Value.ref p2 from rb)
    have l1:=v1.length
    have l2:=v2.length
    have m1:=r1.length
    have m2:=r2.length
    by_cases e:p=p2
    ·subst e
     rw [h1] at h2; cases h2
     have:=Reps.self n r1 r2 o
     show SeqAt.EqAt A s _ _ ((xs.zip ys).all (fun p=>bM n p.1 p.2) && xs.length == ys.length)
     rw [this]
     exact SeqAt.EqAt.same _
    ·refine .of_refs e ?_
     by_cases hl:xs.length=ys.length
     ·have:=SeqAt.RcAt.lists p1.isList p2'.isList (by rw [ar8,ar8]; omega) huA (items r1 r2 v1 v2 o)
      have hm:min xs.length ys.length=its.length:=by omega
      rw [ar8,<- hm,gB] at this
      show SeqAt.RcAt A s _ _ ((xs.zip ys).all (fun p=>bM n p.1 p.2) && xs.length == ys.length)
      rw [show (xs.length == ys.length)=true by simpa using hl,Bool.and_true]
      exact this
     ·have:=SeqAt.RcAt.lists_lengths (A:=A) p1.isList p2'.isList (by rw [ar8,ar8]; simp; omega) huA
      show SeqAt.RcAt A s _ _ ((xs.zip ys).all (fun p=>bM n p.1 p.2) && xs.length == ys.length)
      rw [show (xs.length == ys.length)=false by simpa using hl,Bool.and_false]
      exact this
   | _=>cases o
  | non=>
   cases ra
   cases ry with
   | non=>cases rb; exact SeqAt.EqAt.same _
   | int i=>obtain ⟨t',rfl⟩:=rb; exact SeqAt.EqAt.none_int _ _
   | @tup p2 ws ys h2 r2=>
    obtain ⟨its2,v2,p2',_⟩:=I.tuple (aG.of (K:=X.K) h2)
    cases (show b=Value.ref p2 from rb)
    exact SeqAt.EqAt.none_tuple p2' huA
   | _=>cases o
  | bl i=>
   cases ra
   cases ry with
   | bl j=>cases rb; exact SeqAt.EqAt.bool_bool _ _
   | _=>cases o
  | int i=>
   obtain ⟨t,rfl⟩:=ra
   cases ry with
   | int j=>obtain ⟨t',rfl⟩:=rb; exact SeqAt.EqAt.int_int _ _ _ _
   | non=>cases rb; exact SeqAt.EqAt.int_none _ _
   | _=>cases o
  | str i=>
   obtain ⟨t,rfl⟩:=ra
   cases ry with
   | str j=>obtain ⟨t',rfl⟩:=rb; exact SeqAt.EqAt.str_str _ _ _ _
   | _=>cases o
  | _=>cases o
end
structure Bt (mg:Str->Option Value):Prop where
 len:mg "len" = none
 range:mg "range" = none
 tuple:mg "tuple" = none
 list:mg "list" = none
 sorted:mg "sorted" = none
 all:mg "all" = none
 any:mg "any" = none
 zip:mg "zip" = none
 min:mg "min" = none
 max:mg "max" = none
 sum:mg "sum" = none
 isinst:mg "isinstance" = none
 int:mg "int" = none
 bool:mg "bool" = none
 enum:mg "enumerate" = none
section
variable {X : Cx} {a b c e o : Expr} {es bU : List Expr} {ta tb te to tk : aB} {tr : bS} {tA tB' tc : bZ} {pos p2 px : Pos} {st : Stmt} {sts : List Stmt} {t u : aM}
theorem i7 (B:Bt X.mg) (ha:QA X [e] tr) (hg:Gl X "len":=by rfl) (he:starEach [e] X.env=(false,eval e X.env) :: starEach [] X.env:=by rfl) (hpl:(backTo pos (starEach [] X.env)).any (·.1)=false:=by rfl):QE X (.Call (.Name "len" p2) [e] [] pos) (aH fX tr):=
 gO (N0.or O7) U3 hg B.len PySem.boot_len ha (he:=he) (hpl:=hpl)
theorem mI (B:Bt X.mg) (ha:QA X [e] tr) (hg:Gl X "tuple":=by rfl) (he:starEach [e] X.env=(false,eval e X.env) :: starEach [] X.env:=by rfl) (hpl:(backTo pos (starEach [] X.env)).any (·.1)=false:=by rfl):QE X (.Call (.Name "tuple" p2) [e] [] pos) (aH k6 tr):=
 vI N1 U4 hg B.tuple PyProof.Rows.boot_tuple ha (he:=he) (hpl:=hpl)
theorem vL (B:Bt X.mg) (hc:X.calm=true) (ha:QA X [e] tr) (hg:Gl X "all":=by rfl) (he:starEach [e] X.env=(false,eval e X.env) :: starEach [] X.env:=by rfl) (hpl:(backTo pos (starEach [] X.env)).any (·.1)=false:=by rfl):QE X (.Call (.Name "all" p2) [e] [] pos) (aH m8 tr):=
 gO (Q9 hc) U5 hg B.all PyProof.Rows.boot_all ha (he:=he) (hpl:=hpl)
theorem X8 (B:Bt X.mg) (hc:X.calm=true) (ha:QA X [a,b] tr) (hg:Gl X "min":=by rfl) (he:starEach [a,b] X.env=(false,eval a X.env) :: starEach [b] X.env:=by rfl) (hpl:(backTo pos (starEach [b] X.env)).any (·.1)=false:=by rfl):QE X (.Call (.Name "min" p2) [a,b] [] pos) (aH pP tr):=
 gO (G2 hc) U6 hg B.min PyProof.Rows.boot_min ha (he:=he) (hpl:=hpl)
theorem vM (B:Bt X.mg) (hc:X.calm=true) (ha:QA X [a,b] tr) (hg:Gl X "max":=by rfl) (he:starEach [a,b] X.env=(false,eval a X.env) :: starEach [b] X.env:=by rfl) (hpl:(backTo pos (starEach [b] X.env)).any (·.1)=false:=by rfl):QE X (.Call (.Name "max" p2) [a,b] [] pos) (aH m9 tr):=
 gO (G1 hc) U7 hg B.max PyProof.Rows.boot_max ha (he:=he) (hpl:=hpl)
theorem kD (ha:QE X a ta):QE X (.UnaryOp .USub a pos) (iQ ta):=bO (E7 F5 ha) fun σ H Q' h=>by
 obtain ⟨W,ρ,Q,px,q,k⟩:=h
 refine⟨W,ρ,_,px,q,?_⟩
 rintro v H1 x g s r ⟨i,rfl,q⟩
 cases r
 exact⟨i,rfl,k _ _ _ .fr s (.int _) q⟩
theorem aE.kt_ {K:PySem.W.Frag}{M:Addr->Prop}{H:Hp}{v:V}{xs:List PV} (r:aE K M H v (.kt xs)):∃ a us,v = .ref a/\iK K a us/\Reps K M H us xs:=by
 cases r with
 | kt h r=>exact⟨_,_,rfl,h,r⟩
def vN (K:PySem.W.Frag) (H:Hp) (x:V) (t:Value):Prop:=dG K H x t ∨ ∃ a us,x = .ref a/\aG K H a us/\t = .type "tuple"
theorem X9:cB X (.builtin "isinstance") (fun xs H Q=>∃ x t n b,xs = [x,.ty n]/\vN X.K H x t/\PySem.W.kitOne X.K t (.type n)=some b/\Q (.bl b) H):=by
 intro pins s σ H xs us Q I r h
 obtain ⟨x,t,n,b,rfl,ty,e,q⟩:=h
 rcases ty with ty | ⟨a,ws,rfl,hs,rfl⟩
 ·exact P8 pins s σ H _ us Q I r ⟨x,t,n,b,rfl,ty,e,q⟩
 obtain ⟨u,u',rfl,ru,ru'⟩:=jP r
 cases ru'
 cases (show u=Value.ref a from ru)
 obtain ⟨its,_,⟨o,h1,h2,_⟩,_⟩:=I.tuple hs
 exact aw4 PySem.W.kitx_tuple I.kIn ⟨o,h1,h2⟩ e (fun z=>nomatch z) fun tk=>⟨.bl b,H,I.tok tk,rfl,q⟩
theorem Y0 {K:PySem.W.Frag}{M:Addr->Prop}{H:Hp}{v:V}{x:PV}{T:String} (r:aE K M H v x) (e:v8 x=some T):vN K H v (.type T):=by
 cases r with
 | non=>cases e; exact .inl .non
 | bl b=>cases e; exact .inl (.bl b)
 | int i=>cases e; exact .inl (.int i)
 | str i=>cases e; exact .inl (.str i)
 | tup h _=>cases e; exact .inl (.tup h)
 | lst _ h _=>cases e; exact .inl (.lst h)
 | kt h _=>cases e; exact .inr ⟨_,_,rfl,.inr h,rfl⟩
 | _=>cases e
theorem mJ {x:Str}{n:String} (B:Bt X.mg) (hn:bootBuiltins x=some (.type n)) (hm:X.mg x=none) (ha:QE X a ta) (hg:Gl X "isinstance":=by rfl) (hgx:Gl X x:=by rfl) (hx:x ≠ "__name__":=by decide) (hdx:(x == ("__debug__" : Str))=false:=by decide)
  (he:starEach [a,.Name x px] X.env=(false,eval a X.env) :: starEach [.Name x px] X.env:=by rfl) (he2:starEach [.Name x px] X.env=(false,eval (.Name x px) X.env) :: starEach [] X.env:=by rfl) (hpl:(backTo pos (starEach [.Name x px] X.env)).any (·.1)=false:=by rfl):QE X (.Call (.Name "isinstance" p2) [a,.Name x px] [] pos) (eV X.K n ta):=
 bO (oM X9 hg B.isinst PyProof.Rows.boot_isinstance (dP ha (dP (sC (v:=.ty n) hgx hm hn rfl hx hdx) fO he2) he) (he:=he) (hpl:=hpl)) fun σ H Q' h=>by
  obtain ⟨W,ρ,Q,px,q,k⟩:=h
  refine⟨W,ρ,_,px,q,?_⟩
  rintro v H1 x g s r ⟨T,b,e,kt,q⟩
  exact⟨v,_,n,b,rfl,Y0 r e,kt,k _ _ _ .fr s (.bl _) q⟩
theorem Y1 (B:Bt X.mg) (ha:QE X a ta) (hg:Gl X "isinstance":=by rfl) (hgx:Gl X "int":=by rfl)
  (he:starEach [a,.Name "int" px] X.env=(false,eval a X.env) :: starEach [.Name "int" px] X.env:=by rfl) (he2:starEach [.Name "int" px] X.env=(false,eval (.Name "int" px) X.env) :: starEach [] X.env:=by rfl) (hpl:(backTo pos (starEach [.Name "int" px] X.env)).any (·.1)=false:=by rfl):QE X (.Call (.Name "isinstance" p2) [a,.Name "int" px] [] pos) (eV X.K "int" ta):=mJ B PyProof.Rows.boot_int B.int ha (hg:=hg) (hgx:=hgx) (he:=he) (he2:=he2) (hpl:=hpl)
theorem Y2 (B:Bt X.mg) (ha:QE X a ta) (hg:Gl X "isinstance":=by rfl) (hgx:Gl X "bool":=by rfl)
  (he:starEach [a,.Name "bool" px] X.env=(false,eval a X.env) :: starEach [.Name "bool" px] X.env:=by rfl) (he2:starEach [.Name "bool" px] X.env=(false,eval (.Name "bool" px) X.env) :: starEach [] X.env:=by rfl) (hpl:(backTo pos (starEach [.Name "bool" px] X.env)).any (·.1)=false:=by rfl):QE X (.Call (.Name "isinstance" p2) [a,.Name "bool" px] [] pos) (eV X.K "bool" ta):=mJ B PyProof.Rows.boot_bool B.bool ha (hg:=hg) (hgx:=hgx) (he:=he) (he2:=he2) (hpl:=hpl)
theorem pZ (B:Bt X.mg) (ha:QE X a ta) (hg:Gl X "isinstance":=by rfl) (hgx:Gl X "tuple":=by rfl)
  (he:starEach [a,.Name "tuple" px] X.env=(false,eval a X.env) :: starEach [.Name "tuple" px] X.env:=by rfl) (he2:starEach [.Name "tuple" px] X.env=(false,eval (.Name "tuple" px) X.env) :: starEach [] X.env:=by rfl) (hpl:(backTo pos (starEach [.Name "tuple" px] X.env)).any (·.1)=false:=by rfl):QE X (.Call (.Name "isinstance" p2) [a,.Name "tuple" px] [] pos) (eV X.K "tuple" ta):=mJ B PyProof.Rows.boot_tuple B.tuple ha (hg:=hg) (hgx:=hgx) (he:=he) (he2:=he2) (hpl:=hpl)
theorem Y3 (B:Bt X.mg) (ha:QE X a ta) (hg:Gl X "isinstance":=by rfl) (hgx:Gl X "list":=by rfl)
  (he:starEach [a,.Name "list" px] X.env=(false,eval a X.env) :: starEach [.Name "list" px] X.env:=by rfl) (he2:starEach [.Name "list" px] X.env=(false,eval (.Name "list" px) X.env) :: starEach [] X.env:=by rfl) (hpl:(backTo pos (starEach [.Name "list" px] X.env)).any (·.1)=false:=by rfl):QE X (.Call (.Name "isinstance" p2) [a,.Name "list" px] [] pos) (eV X.K "list" ta):=mJ B PyProof.Rows.boot_list B.list ha (hg:=hg) (hgx:=hgx) (he:=he) (he2:=he2) (hpl:=hpl)
def qA (K:PySem.W.Frag) (n:Nat) (neg:Bool):R2:=fun v w H Q=>∃ x y,aE K (fun _=>True) H v x/\aE K (fun _=>True) H w y/\((∃ xs ys,x = .tup xs/\y = .tup ys) ∨ (∃ xs ys,x = .lst xs/\y = .lst ys) ∨ (∃ xs ys,x = .kt xs/\y = .kt ys))/\cY (n+1) x y=true/\Q (.bl (if neg=true then !bM (n+1) x y else bM (n+1) x y)) H
theorem iX {pins:List (Addr × Obj)}{σ:St}{H:Hp}{s:Shared}{M M':Addr->Prop} (I:a5 X pins σ H s) {n:Nat}{A:Around} (hu:A.units+(n+1) < cLine) {us ws:List V}{xs ys:List PV}{its its2:List Value} (r1:Reps X.K M H us xs) (r2:Reps X.K M' H ws ys) (v1:aF us its) (v2:aF ws its2)
  (ok:((xs.zip ys).all fun p=>cY n p.1 p.2)=true):∀ j (h1:j < its.toArray.size) (h2:j < its2.toArray.size),SeqAt.EqAt A.in1 s its.toArray[j] its2.toArray[j] (bM n (xs.getD j .non) (ys.getD j .non)):=by
 intro j h1 h2
 have l1:=v1.length
 have l2:=v2.length
 have m1:=r1.length
 have m2:=r2.length
 have k1:j < its.length:=by simpa using h1
 have k2:j < its2.length:=by simpa using h2
 have j1:j < us.length:=by omega
 have j2:j < ws.length:=by omega
 have i1:j < xs.length:=by omega
 have i2:j < ys.length:=by omega
 obtain ⟨u,hu',ru⟩:=v1.get (ar9 j1)
 obtain ⟨u2,hu2',ru2⟩:=v2.get (ar9 j2)
 obtain ⟨x,hx,rx⟩:=r1.get (ar9 j1)
 obtain ⟨y,hy,ry⟩:=r2.get (ar9 j2)
 have e1:its.toArray[j]=u:=by
  rw [ar9 k1] at hu'
  simpa using hu'
 have e2:its2.toArray[j]=u2:=by
  rw [ar9 k2] at hu2'
  simpa using hu2'
 have ok':cY n x y=true:=by
  rw [az8] at ok
  have hz:j < (xs.zip ys).length:=by simp; omega
  have:=ok _ (aA3 hz)
  rw [List.getElem_zip] at this
  rw [ar9 i1] at hx
  rw [ar9 i2] at hy
  cases hx; cases hy
  exact this
 rw [e1,e2]
 have g1:xs.getD j .non=x:=by rw [at2,hx]; rfl
 have g2:ys.getD j .non=y:=by rw [at2,hy]; rfl
 rw [g1,g2]
 exact X7 I n (by show A.units+1+n < cLine; omega) rx ry ru ru2 ok'
theorem ar4 (n:Nat) (hu:X.A.units+(n+1) < cLine):b8 X (compareOp .Eq) (qA X.K n false):=by
 intro pins s σ H v w a b Q I ra rb h
 obtain ⟨x,y,rx,ry,kd,o,q⟩:=h
 have hu0:X.A.units < cLine:=by omega
 rcases kd with ⟨xs,ys,rfl,rfl⟩ | ⟨xs,ys,rfl,rfl⟩ | ⟨xs,ys,rfl,rfl⟩
 ·obtain ⟨p,us,rfl,h1,r1⟩:=rx.sqT
  obtain ⟨p2,ws,rfl,h2,r2⟩:=ry.sqT
  cases ra; cases rb
  obtain ⟨its,v1,p1,_⟩:=I.tuple (aG.of (K:=X.K) h1)
  obtain ⟨its2,v2,p2',_⟩:=I.tuple (aG.of (K:=X.K) h2)
  have l1:=v1.length
  have l2:=v2.length
  have m1:=r1.length
  have m2:=r2.length
  have:=SeqAt.RcAt.tuples p1 p2' hu0 (iX I hu r1 r2 v1 v2 o)
  rw [ar8,ar8,<- l1,<- l2,m1,m2,gB] at this
  exact this _ _ _ _ ⟨.bl _,H,I,rfl,q⟩
 ·obtain ⟨p,us,rfl,_,h1,r1⟩:=rx.sqL
  obtain ⟨p2,ws,rfl,_,h2,r2⟩:=ry.sqL
  cases ra; cases rb
  obtain ⟨its,v1,p1,_⟩:=I.list (aJ.of (K:=X.K) h1)
  obtain ⟨its2,v2,p2',_⟩:=I.list (aJ.of (K:=X.K) h2)
  have l1:=v1.length
  have l2:=v2.length
  have m1:=r1.length
  have m2:=r2.length
  have q:Q (.bl ((xs.zip ys).all (fun p=>bM n p.1 p.2) && xs.length == ys.length)) H:=q
  by_cases hl:xs.length=ys.length
  ·have:=SeqAt.RcAt.lists p1.isList p2'.isList (by rw [ar8,ar8]; omega) hu0 (iX I hu r1 r2 v1 v2 o)
   have hm:min xs.length ys.length=its.length:=by omega
   rw [ar8,<- hm,gB] at this
   rw [show (xs.length == ys.length)=true by simpa using hl,Bool.and_true] at q
   exact this _ _ _ _ ⟨.bl _,H,I,rfl,q⟩
  ·have:=SeqAt.RcAt.lists_lengths (A:=X.A) p1.isList p2'.isList (by rw [ar8,ar8]; simp; omega) hu0
   rw [show (xs.length == ys.length)=false by simpa using hl,Bool.and_false] at q
   exact this _ _ _ _ ⟨.bl _,H,I,rfl,q⟩
 ·obtain ⟨p,us,rfl,h1,r1⟩:=rx.kt_
  obtain ⟨p2,ws,rfl,h2,r2⟩:=ry.kt_
  cases ra; cases rb
  obtain ⟨its,v1,p1,_⟩:=I.tuple (.inr h1)
  obtain ⟨its2,v2,p2',_⟩:=I.tuple (.inr h2)
  have l1:=v1.length
  have l2:=v2.length
  have m1:=r1.length
  have m2:=r2.length
  have:=SeqAt.RcAt.tuples p1 p2' hu0 (iX I hu r1 r2 v1 v2 o)
  rw [ar8,ar8,<- l1,<- l2,m1,m2,gB] at this
  exact this _ _ _ _ ⟨.bl _,H,I,rfl,q⟩
theorem Y4 (n:Nat) (hu:X.A.units+(n+1) < cLine):b8 X (compareOp .NotEq) (qA X.K n true):=by
 intro pins s σ H v w a b Q I ra rb h
 obtain ⟨x,y,rx,ry,kd,o,q⟩:=h
 have hu0:X.A.units < cLine:=by omega
 rcases kd with ⟨xs,ys,rfl,rfl⟩ | ⟨xs,ys,rfl,rfl⟩ | ⟨xs,ys,rfl,rfl⟩
 ·obtain ⟨p,us,rfl,h1,r1⟩:=rx.sqT
  obtain ⟨p2,ws,rfl,h2,r2⟩:=ry.sqT
  cases ra; cases rb
  obtain ⟨its,v1,p1,_⟩:=I.tuple (aG.of (K:=X.K) h1)
  obtain ⟨its2,v2,p2',_⟩:=I.tuple (aG.of (K:=X.K) h2)
  have l1:=v1.length
  have l2:=v2.length
  have m1:=r1.length
  have m2:=r2.length
  have:=SeqAt.RcNeAt.tuples p1 p2' hu0 (iX I hu r1 r2 v1 v2 o)
  rw [ar8,ar8,<- l1,<- l2,m1,m2,gB] at this
  exact this _ _ _ _ ⟨.bl _,H,I,rfl,q⟩
 ·obtain ⟨p,us,rfl,_,h1,r1⟩:=rx.sqL
  obtain ⟨p2,ws,rfl,_,h2,r2⟩:=ry.sqL
  cases ra; cases rb
  obtain ⟨its,v1,p1,_⟩:=I.list (aJ.of (K:=X.K) h1)
  obtain ⟨its2,v2,p2',_⟩:=I.list (aJ.of (K:=X.K) h2)
  have l1:=v1.length
  have l2:=v2.length
  have m1:=r1.length
  have m2:=r2.length
  have q:Q (.bl (!((xs.zip ys).all (fun p=>bM n p.1 p.2) && xs.length == ys.length))) H:=q
  by_cases hl:xs.length=ys.length
  ·have:=SeqAt.RcNeAt.lists p1.isList p2'.isList (by rw [ar8,ar8]; omega) hu0 (iX I hu r1 r2 v1 v2 o)
   have hm:min xs.length ys.length=its.length:=by omega
   rw [ar8,<- hm,gB] at this
   rw [show (xs.length == ys.length)=true by simpa using hl,Bool.and_true] at q
   exact this _ _ _ _ ⟨.bl _,H,I,rfl,q⟩
  ·have:=SeqAt.RcNeAt.lists_lengths (A:=X.A) p1.isList p2'.isList (by rw [ar8,ar8]; simp; omega) hu0
   rw [show (xs.length == ys.length)=false by simpa using hl,Bool.and_false] at q
   exact this _ _ _ _ ⟨.bl _,H,I,rfl,q⟩
 ·obtain ⟨p,us,rfl,h1,r1⟩:=rx.kt_
  obtain ⟨p2,ws,rfl,h2,r2⟩:=ry.kt_
  cases ra; cases rb
  obtain ⟨its,v1,p1,_⟩:=I.tuple (.inr h1)
  obtain ⟨its2,v2,p2',_⟩:=I.tuple (.inr h2)
  have l1:=v1.length
  have l2:=v2.length
  have m1:=r1.length
  have m2:=r2.length
  have:=SeqAt.RcNeAt.tuples p1 p2' hu0 (iX I hu r1 r2 v1 v2 o)
  rw [ar8,ar8,<- l1,<- l2,m1,m2,gB] at this
  exact this _ _ _ _ ⟨.bl _,H,I,rfl,q⟩
theorem Y5 {n:Nat}{neg:Bool}:cF X (mC n neg) (qA X.K n neg):=by
 rintro W Hs H u v x y g g' Q Q' s n r1 r2 ⟨kd,o,q⟩ k
 exact⟨x,y,r1.same (aA.refl _) fun _ _=>trivial,r2.same (aA.refl _) fun _ _=>trivial,kd.elim .inl fun z=>.inr (.inl z),o,k _ _ _ .fr (aA.refl _) (.bl _) q⟩
theorem vO (hu:X.A.units+3 < cLine) (ha:QE X a ta) (hb:QE X b tb):QT X (.Compare a [.NotEq] [b] pos) (aR (q2 (mC 2 true) ta tb)):=gN (Y4 2 hu) Y5 ha hb (dO _)
end
end PP
namespace PP
open PySem L2 PyProof.Rows
def LO (X:Cx) (t:iR):TO:=fun σ H Q'=>∃ (W:Addr->Prop) (ρ:aW) (Q:Option Int->Prop),PX X.K X.H₀ W σ ρ H/\t ρ Q/\∀ o H',aA H H'->Q o->Q' o H'
def QO (X:Cx) (e:Option Expr) (t:iR):Prop:=PO X e (LO X t)
theorem Reps.cut {K:PySem.W.Frag}{M:Addr->Prop}{H:Hp}{us:List V}{xs:List PV} (r:Reps K M H us xs) (lo hi:Option Int):Reps K M H (eN us lo hi) (iS xs lo hi):=by
 unfold eN iS
 rw [r.length]
 exact (r.drop _).take _
section
variable {X : Cx} {a b c e o : Expr} {es bU : List Expr} {ta tb te to tk : aB} {tr : bS} {tA tB' tc : bZ} {pos p2 px : Pos} {st : Stmt} {sts : List Stmt} {t u : aM}
theorem Y6:QO X none v9:=fun pins s σ H Q I h=>K6 pins s σ H Q I (by
 obtain ⟨W,ρ,Q1,px,q,k⟩:=h
 exact k _ _ (aA.refl _) q)
theorem Y7 (h:QE X e te):QO X (some e) (vA te):=fun pins s σ H Q I hq=>K7 h pins s σ H Q I (by
 obtain ⟨W,ρ,Q1,px,q,k⟩:=hq
 refine⟨W,ρ,_,px,q,?_⟩
 rintro v H1 x g s r ⟨i,rfl,q⟩
 cases r
 exact⟨i,rfl,k _ _ s q⟩)
theorem Y8 {lo hi:Option Expr}{tl th:iR}{sp:Pos} (he:QE X e te) (hl:QO X lo tl) (hh:QO X hi th):QE X (.Subscript e (.Slice lo hi none sp) pos) (vB te tl th):=bO (K9 (M9.or R3) he hl hh) fun σ H Q' h=>by
 obtain ⟨W,ρ,Q,px,q,k⟩:=h
 refine⟨W,ρ,_,px,q,fun v H1 x g s1 r1 q1=>⟨W,ρ,_,px.mono s1,q1,fun lo H2 s2 q2=>⟨W,ρ,_,px.mono (s1.trans s2),q2,?_⟩⟩⟩
 rintro hi H3 s3 ⟨xs,e,f,q3⟩
 have S:=(s1.trans s2).trans s3
 have r3:=r1.same (M':=Mg X.H₀ W H g) (s2.trans s3) fun _ z=>z
 cases r3 with
 | tup h r=>
  cases e
  refine .inr ⟨_,_,rfl,aG.of h,fun p hp=>k _ _ _ .fr (S.trans (bR hp _)) (.tup cD (((r.flat f).cut lo hi).same (bR hp _) fun _ z=>z)) q3,fun ec=>k _ _ _ .fr S (.tup h ?_) q3⟩
  have:=(r.flat (M':=Mg X.H₀ W H .fr) f).cut lo hi
  rw [ec] at this
  exact this
 | lst m h r=>
  cases e
  exact .inl ⟨_,_,rfl,aJ.of h,fun p hp=>k _ _ _ .fr (S.trans (bR hp _)) (.lst (S.free hp) cD (((r.flat f).cut lo hi).same (bR hp _) fun _ z=>z)) q3⟩
 | scr h=>
  cases e
  exact .inl ⟨_,_,rfl,h.sqL,fun p hp=>k _ _ _ .fr (S.trans (bR hp _)) (.lst (S.free hp) cD (((Reps.intz _).cut lo hi).same (bR hp _) fun _ z=>z)) q3⟩
 | _=>cases e
structure Df (P:Program) (w:World) (K:PySem.W.Frag) (mg:Str->Option Value) (base:Heap) (k:Nat) (x:Str) (ps:List Str) (p:bL):Prop where
 ex:∃ f fd,cI P w K mg base dD k f fd ps (jW K p)/\fP K fd ps []/\PySem.W.keepIn K (.ref f)=true/\mg x=some (.ref f)
theorem cC {k j:Nat}{x:Str}{ps:List Str}{p:bL} (d:Df X.prog X.w X.K X.mg X.base k x ps p) (hr:bE j X.A) (ha:QA X (e :: es) tr) (hkj:k<=j:=by decide) (hg:Gl X x:=by rfl) (hdb:(x == ("__debug__" : Str))=false:=by decide)
  (he:starEach (e :: es) X.env=(false,eval e X.env) :: starEach es X.env:=by rfl) (hpl:(backTo pos (starEach es X.env)).any (·.1)=false:=by rfl):QE X (.Call (.Name x p2) (e :: es) [] pos) (aH p tr):=by
 obtain ⟨f,fd,F,b,kp,m⟩:=d.ex
 exact bO (oJ F (hr.mono hkj) hg m kp b .nil O3 ha hdb he hpl) fun _ _ _=>U8
theorem qB {K:PySem.W.Frag}{H:Hp}{N:List Str}{vs:List V}{xs:List PV} (r:Reps K (fun _=>True) H vs xs):PX K H (fun _=>False) (L2.eF N vs) (cZ N xs) H:=by
 have lr:=r.length
 have own:∀ {i:Nat}{m:Slot},(cZ N xs)[i]? = some (some m)->∃ x,xs[i]? = some x/\m = .sh (flat x) x:=fun {i m} h=>by
  unfold cZ at h
  by_cases hi:i < xs.length
  ·rw [aA1 (by simpa using hi),au9] at h
   rw [ar9 hi] at h ⊢
   cases h
   exact⟨_,rfl,rfl⟩
  ·rw [aC2 (by simpa using hi),List.getElem?_replicate] at h
   split at h <;> cases h
 refine⟨by unfold L2.eF cZ; simp [lr],aA.refl _,fun a z=>z.elim,fun i m h=>?_,fun i j x y a h1=>?_⟩
 ·obtain ⟨x,hx,rfl⟩:=own h
  obtain ⟨v,hv,rx⟩:=r.at hx
  refine⟨v,?_,iO (g:=false) (rx.same (aA.refl _) fun _ _ z=>z)⟩
  have hi:i < vs.length:=(au3.mp hv).1
  unfold L2.eF
  rw [aA1 (by simpa using hi),au9,hv]; rfl
 ·obtain ⟨x,_,e⟩:=own h1
  cases e
theorem Df.of {P:Program}{w:World}{K:PySem.W.Frag}{mg:Str->Option Value}{base:Heap}{k:Nat}{x:Str}{ps N:List Str}{p:bL}{st:Stmt}{f:Addr}{fd:FuncData} (F:dQ K x x st f fd) (m:mg x=some (.ref f)) (S:FnScope N ps (aP st))
  (hb:∀ (kV doc pm:Value) (an:Option Addr) (cdv ct:Value) (us:List Value),us.length=ps.length->bindArgs (PySem.W.fnOf x x (fR st) (cW st) (aP st) .none kV doc pm an cdv ct) ⟨us,[]⟩=pure (ps.zip us))
  (len:∀ xs Q,p xs Q->xs.length=ps.length)
  (body:∀ (cdv:Value) (A:Around) (outer:List Env) (s:Shared) (H:Hp) (E:XK),bE k (A.deeper (envOfC x (aP st) s.heap.objs.size f cdv))->
   ∃ t,dJ (cE dD P w K mg base N x (aP st) f cdv A outer s H E).nox (cW st) t/\∀ xs Q,p xs Q->t { nx:=fun _=>Q .non,rt:=Q } (cZ N xs)):Df P w K mg base (k+1) x ps p:=by
 refine⟨f,fd,F.ok S (fun vs H Q E h=>?_) (fun cdv A outer s H vs Q E hr h=>?_),F.binds hb,F.kp,m⟩
 ·obtain ⟨xs,Qp,r,q,_⟩:=h
  rw [r.length]; exact len xs Qp q
 ·obtain ⟨xs,Qp,r,q,k⟩:=h
  obtain ⟨t,ht,hq⟩:=body cdv A outer s H E hr
  refine⟨_,ht,fun _=>False,cZ N xs,_,qB r,hq xs Qp q,?_,?_,?_,?_⟩
  ·exact fun W' σ' H' ρ' e px q=>k _ _ _ px.same .non q
  ·exact fun v H' x s r q=>k _ _ _ s r q
  ·exact fun W' σ' H' ρ' e px q=>q
  ·exact fun W' σ' H' ρ' e px q=>q
theorem iY (i:Nat) {x:Str}{tp:Pos}{body:List Stmt}{ti:dH} (hN:X.N.Nodup) (hi:QI X (.Name x tp) e ti) (hb:dJ X body t) (hx:X.N[i]? = some x:=by rfl) (hl:eM X.env.scope x:=by first | exact Or.inl rfl | exact Or.inr rfl) (hf:X.fn x=true ∨ X.env.scope.names.lookup x=some .local:=by first | exact .inl rfl | exact .inr rfl)
  (hp:PassesOwn (model X.prog X.w) X.A X.env X.xe:=by exact PassesOwn.never) (hc:X.calm=true:=by rfl) (hs:∀ x,foldedSetIterable e X.env x=pure x:=by intro _; rfl):QS X (.For (.Name x tp) e body [] pos) (fY ti (cK i) t):=
 X6 hp hc hi (lE hN hx hl hf) (jY _ i) hb hs
abbrev bV:Value->Shared->Prop:=fun _ _=>False
section
variable {scope : Scope} {N : List Str} {fr : List (Option Nat)} {x y : Str} {tp xp yp : Pos} {kt : Nat} {iter elt : Expr} {ti : dH}
theorem mK {ifs:List Expr}{tcs:bZ} (he:∀ (s:Shared) (H:Hp) (C:Addr) (fp:List Addr),QE (bA X scope N s H C fp bV) elt te) (hi:∀ (s:Shared) (H:Hp) (C:Addr) (fp:List Addr),hU (bA X scope N s H C fp bV) ifs (LT (bA X scope N s H C fp bV) tcs))
  (hN:N.Nodup) (h0:N[0]? = some x) (hl:∀ (s:Shared) (H:Hp) (C:Addr) (fp:List Addr),(bA X scope N s H C fp bV).env.scope.names.lookup x=some .local) (s:Shared) (H:Hp) :
  jS X scope N (.Name x tp) ifs elt s H (cR 0) (LT (X.frm H) tcs) (LE (X.frm H) te):=
 ⟨fun C fp=>lE (X:=bA X scope N s H C fp bV) hN h0 (.inl (hl s H C fp)) (.inr (hl s H C fp)),fun C fp=>hi s H C fp,fun C fp=>he s H C fp⟩
theorem qD {Y:Cx}:hU Y [] (LT Y eI):=fun pins s σ H Q I h=>P0 pins s σ H Q I (V7 h)
theorem vP (hi:QI X (.Name x tp) iter ti) (he:∀ (s:Shared) (H:Hp) (C:Addr) (fp:List Addr),QE (bA X scope N s H C fp bV) elt te)
  (hc:X.calm=true:=by rfl) (S:cN X scope N fr:=by exact cN.of rfl rfl) (hN:N.Nodup:=by decide +kernel) (h0:N[0]? = some x:=by rfl) (hl:∀ (s:Shared) (H:Hp) (C:Addr) (fp:List Addr),(bA X scope N s H C fp bV).env.scope.names.lookup x=some .local:=by intro _ _ _ _; rfl) (hf:fr[0]? = some none:=by rfl)
  (hs:∀ x,foldedSetIterable iter X.env x=pure x:=by intro _; rfl):QE X (.ListComp elt [⟨.Name x tp,iter,[],0⟩] scope pos) (e8 ti fr (cK 0) eI te):=
 bO (p6 (gh:=fun _=>cR 0) (tch:=fun H=>LT (X.frm H) eI) (teh:=fun H=>LE (X.frm H) te) hc S hi (mK he (fun _ _ _ _=>qD) hN h0 hl) hs) fun _ _ _=>jZ (jY _ 0) (fun i e=>by subst e; exact hf)
theorem vQ {c:Expr}{tcs:bZ} (hi:QI X (.Name x tp) iter ti) (ht:∀ (s:Shared) (H:Hp) (C:Addr) (fp:List Addr),QT (bA X scope N s H C fp bV) c tcs) (he:∀ (s:Shared) (H:Hp) (C:Addr) (fp:List Addr),QE (bA X scope N s H C fp bV) elt te)
  (hc:X.calm=true:=by rfl) (S:cN X scope N fr:=by exact cN.of rfl rfl) (hN:N.Nodup:=by decide +kernel) (h0:N[0]? = some x:=by rfl) (hl:∀ (s:Shared) (H:Hp) (C:Addr) (fp:List Addr),(bA X scope N s H C fp bV).env.scope.names.lookup x=some .local:=by intro _ _ _ _; rfl) (hf:fr[0]? = some none:=by rfl)
  (hs:∀ x,foldedSetIterable iter X.env x=pure x:=by intro _; rfl):QE X (.ListComp elt [⟨.Name x tp,iter,[c],0⟩] scope pos) (e8 ti fr (cK 0) tcs te):=
 bO (p6 (gh:=fun _=>cR 0) (tch:=fun H=>LT (X.frm H) tcs) (teh:=fun H=>LE (X.frm H) te) hc S hi (mK he (fun s H C fp=>u7 (ht s H C fp)) hN h0 hl) hs) fun _ _ _=>jZ (jY _ 0) (fun i e=>by subst e; exact hf)
theorem Y9 {i:Nat}{z:Str}{zp:Pos} (nd:X.N.Nodup) (hi:QI X (.Name x tp) iter ti) (he:∀ (s:Shared) (H:Hp) (C:Addr) (fp:List Addr),QE (bA X scope N s H C fp bV) elt te)
  (hz:X.N[i]? = some z:=by rfl) (hzl:X.env.scope.names.lookup z=some .local:=by rfl) (hsw:swapsWith (.ListComp elt [⟨.Name x tp,iter,[],0⟩] scope p2) (some (.Name z zp)) pos.line X.env=pure true:=by rfl)
  (hc:X.calm=true:=by rfl) (S:cN X scope N fr:=by exact cN.of rfl rfl) (hN:N.Nodup:=by decide +kernel) (h0:N[0]? = some x:=by rfl) (hl:∀ (s:Shared) (H:Hp) (C:Addr) (fp:List Addr),(bA X scope N s H C fp bV).env.scope.names.lookup x=some .local:=by intro _ _ _ _; rfl) (hf:fr[0]? = some none:=by rfl)
  (hs:∀ x,foldedSetIterable iter X.env x=pure x:=by intro _; rfl):QS X (.Assign [.Name z zp] (.ListComp elt [⟨.Name x tp,iter,[],0⟩] scope p2) pos) (bB i (e8 ti fr (cK 0) eI te)):=
 dB (uA (gh:=fun _=>cR 0) (tch:=fun H=>LT (X.frm H) eI) (teh:=fun H=>LE (X.frm H) te) hc S hi (mK he (fun _ _ _ _=>qD) hN h0 hl) nd hz hzl hsw hs) fun D σ H h=>jZ (jY _ 0) (fun i e=>by subst e; exact hf) (pJ h)
theorem Z0 {c:Expr}{tcs:bZ}{i:Nat}{z:Str}{zp:Pos} (nd:X.N.Nodup) (hi:QI X (.Name x tp) iter ti) (ht:∀ (s:Shared) (H:Hp) (C:Addr) (fp:List Addr),QT (bA X scope N s H C fp bV) c tcs) (he:∀ (s:Shared) (H:Hp) (C:Addr) (fp:List Addr),QE (bA X scope N s H C fp bV) elt te)
  (hz:X.N[i]? = some z:=by rfl) (hzl:X.env.scope.names.lookup z=some .local:=by rfl) (hsw:swapsWith (.ListComp elt [⟨.Name x tp,iter,[c],0⟩] scope p2) (some (.Name z zp)) pos.line X.env=pure true:=by rfl)
  (hc:X.calm=true:=by rfl) (S:cN X scope N fr:=by exact cN.of rfl rfl) (hN:N.Nodup:=by decide +kernel) (h0:N[0]? = some x:=by rfl) (hl:∀ (s:Shared) (H:Hp) (C:Addr) (fp:List Addr),(bA X scope N s H C fp bV).env.scope.names.lookup x=some .local:=by intro _ _ _ _; rfl) (hf:fr[0]? = some none:=by rfl)
  (hs:∀ x,foldedSetIterable iter X.env x=pure x:=by intro _; rfl):QS X (.Assign [.Name z zp] (.ListComp elt [⟨.Name x tp,iter,[c],0⟩] scope p2) pos) (bB i (e8 ti fr (cK 0) tcs te)):=
 dB (uA (gh:=fun _=>cR 0) (tch:=fun H=>LT (X.frm H) tcs) (teh:=fun H=>LE (X.frm H) te) hc S hi (mK he (fun s H C fp=>u7 (ht s H C fp)) hN h0 hl) nd hz hzl hsw hs) fun D σ H h=>jZ (jY _ 0) (fun i e=>by subst e; exact hf) (pJ h)
end
theorem Z1:lN X "list.extend" (uR X.K):=fun pins s σ H x xs v us Q I rx rs h=>h.elim (N3 pins s σ H x xs v us Q I rx rs) (R7 pins s σ H x xs v us Q I rx rs)
theorem Z2 (i:Nat) {x:Str}{apos cpos xpos:Pos} (he:QE X e te) (hN:X.N[i]? = some x:=by rfl) (hv:gX X.env.scope x:=by first | exact Or.inl rfl | exact Or.inr (Or.inl rfl) | exact Or.inr (Or.inr rfl)) (hd:(x == ("__debug__" : Str))=false:=by decide) (hcd:(x == ("__classdict__" : Str))=false:=by decide)
  (hbase:attributeBase (.Name x xpos) "extend" X.env (eval (.Name x xpos) X.env)=eval (.Name x xpos) X.env:=by rfl)
  (hfew:((backTo cpos (starEach [e] X.env)).all (fun x=>!x.1) && (backToKw cpos (keywordEach [] X.env)).all (fun x=>x.1.isSome) && decide (([e]:List Expr).length+([]:List Keyword).length+(if ([]:List Keyword).isEmpty then 0 else 1) < 30))=true:=by rfl)
  (hline:(apos.endLine == cpos.line)=true:=by rfl) (hs:starEach [e] X.env=(false,eval e X.env) :: starEach [] X.env:=by rfl) (hplain:(backTo cpos (starEach [] X.env)).any (·.1)=false:=by rfl)
  (hsw:swapsWith (.Call (.Attribute (.Name x xpos) "extend" apos) [e] [] cpos) none pos.line X.env=pure false:=by rfl) :
  QS X (.Expr (.Call (.Attribute (.Name x xpos) "extend" apos) [e] [] cpos) pos) (pN i te):=
 dB (lC (oQ PySem.F.plainAttrs_list PySem.F.slot_list_extend PySem.F.type_list_extend Z1 (lB hN hv hd hcd) (dP he fO hs) hbase hfew hline hs hplain) hsw) fun _ _ _=>U1
end
end PP
namespace SO
open PySem PyProof.Rows
section
variable (rk : Keyed → Int)
def Kr (xs:Array Keyed) (i:Nat):Int:=((xs[i]?).map rk).getD 0
def Up (xs:Array Keyed) (lo hi:Nat):Prop:=∀ i j,lo<=i->i<=j->j < hi->Kr rk xs i<=Kr rk xs j
def Dn (xs:Array Keyed) (lo hi:Nat):Prop:=∀ i j,lo<=i->i<=j->j < hi->Kr rk xs j<=Kr rk xs i
end
variable {rk : Keyed → Int}
theorem i8 {xs ys:Array Keyed}{i j:Nat} (h:xs[i]? = ys[j]?):Kr rk xs i=Kr rk ys j:=by unfold Kr; rw [h]
theorem mL {xs:Array Keyed}{i j:Nat} (hj:j<=xs.size) (k:Nat):Kr rk (mirror xs i j ((j - i) / 2)) k=Kr rk xs (if i<=k/\k < j then i+j - 1 - k else k):=by
 refine i8 ?_
 rw [getElem?_mirror_all hj]
 split <;> rfl
theorem qE {xs:Array Keyed}{i j:Nat} (hj:j<=xs.size) (e:∀ k,i<=k->k < j->Kr rk xs k=Kr rk xs (j - 1)) (k:Nat):Kr rk (mirror xs i j ((j - i) / 2)) k=Kr rk xs k:=by
 rw [mL hj]
 split
 ·rename_i h; rw [e k h.1 h.2,e _ (by omega) (by omega)]
 ·rfl
theorem Z3 {xs:Array Keyed}{src d:Nat} (hs:src < xs.size) (hd:d<=src) (k:Nat):Kr rk (bubble xs src d) k=Kr rk xs (if k=src - d then src else if src - d < k/\k<=src then k - 1 else k):=by
 refine i8 ?_
 rw [getElem?_bubble hs d hd]
 repeat' split
 all_goals rfl
structure SB (κ:SortKind) (a0:Array Keyed) (pd:Array (Nat × Nat × Nat)) (st:SortSt):Prop where
 pm:(arrOf st).Perm a0
 kd:kindOf st=κ
 ok:failedOf st=none
 pd:pendingOf st=pd
section
variable {κ : SortKind} {a0 : Array Keyed} {pd : Array (Nat × Nat × Nat)} {st : SortSt} {prog : Program} {w : World} {A : Around} {E : Value → Shared → Prop} {s : Shared} {Ok : Keyed → Prop}
theorem SB.sz (h:SB κ a0 pd st):(arrOf st).size=a0.size:=h.pm.size_eq
theorem SB.put (h:SB κ a0 pd st) {xs:Array Keyed} (hp:xs.Perm (arrOf st)):SB κ a0 pd (setArr st xs):=⟨hp.trans h.pm,h.kd,h.ok,h.pd⟩
def bJ (prog:Program) (w:World) (A:Around) (E:Value->Shared->Prop) (s:Shared) (κ:SortKind) (Ok:Keyed->Prop) (rk:Keyed->Int):Prop:=
 ∀ (x y:Keyed),Ok x->Ok y->∀ (st:SortSt) (Q:Option Bool->SortSt->Prop),kindOf st=κ->Q (some (decide (rk x < rk y))) st->wpS (model prog w) A E s (lt' x y) Q st
def aX (Ok:Keyed->Prop) (xs:Array Keyed):Prop:=∀ x ∈ xs,Ok x
theorem SB.all (h:SB κ a0 pd st) (o:aX Ok a0):aX Ok (arrOf st):=fun x hx=>o x (h.pm.mem_iff.mp hx)
theorem c9 {xs:Array Keyed}{i:Nat}{Q:Keyed->SortSt->Prop} (hi:i < xs.size) (h:Q xs[i] st):wpS (model prog w) A E s (elem' xs i) Q st:=by
 rw [elem'_eq,getElem?_pos xs i hi]; exact as7 h
theorem bF {xs:Array Keyed}{i:Nat} (hi:i < xs.size):Kr rk xs i=rk xs[i]:=by unfold Kr; rw [getElem?_pos xs i hi]; rfl
theorem kE (c:bJ prog w A E s κ Ok rk) (o:aX Ok a0) (b:SB κ a0 pd st) {i j:Nat}{Q:Option Bool->SortSt->Prop} (hi:i < a0.size) (hj:j < a0.size)
  (h:Q (some (decide (Kr rk (arrOf st) i < Kr rk (arrOf st) j))) st):wpS (model prog w) A E s (ltAt' i j) Q st:=by
 have hi':i < (arrOf st).size:=by rw [b.sz]; exact hi
 have hj':j < (arrOf st).size:=by rw [b.sz]; exact hj
 rw [ltAt'_eq]
 refine as1 (wpS_get (as1 (c9 hi' (as1 (c9 hj' ?_)))))
 refine c _ _ (b.all o _ (av5 hi')) (b.all o _ (av5 hj')) st Q b.kd ?_
 rw [<- bF (rk:=rk) hi',<- bF (rk:=rk) hj']; exact h
theorem mM {i j:Nat}{Q:Unit->SortSt->Prop} (h:Q () (setArr st (mirror (arrOf st) i j ((j - i) / 2)))):wpS (model prog w) A E s (reverseSlice' i j) Q st:=by
 rw [reverseSlice'_eq]; exact wpS_modify h
abbrev CS:=Option (Option Nat) × Nat
abbrev DS:=Option (Option Nat) × Nat × Nat
def kF (lo b nrem:Nat):StateT SortSt Sem CS:=forIn [b:nrem] ((none,b):CS) fun _ r=>do
 match <- ltAt' (lo+r.2) (lo+r.2 - 1) with
 | some q=>if q=true then pure (ForInStep.done (none,r.2)) else pure (ForInStep.yield (none,r.2+1))
 | _=>pure (ForInStep.done (some none,r.2))
def qF (lo b nrem:Nat):StateT SortSt Sem DS:=forIn [b:nrem] ((none,b,0):DS) fun _ r=>do
 match <- ltAt' (lo+r.2.1) (lo+r.2.1 - 1) with
 | some q=>
  if q=true then (if r.2.2 > 0 then do reverseSlice' (lo+r.2.1 - (r.2.2+1)) (lo+r.2.1); pure (ForInStep.yield (none,r.2.1+1,0)) else pure (ForInStep.yield (none,r.2.1+1,0)))
  else do
   match <- ltAt' (lo+r.2.1 - 1) (lo+r.2.1) with
   | some q=>if q=true then pure (ForInStep.done (none,r.2.1,r.2.2)) else pure (ForInStep.yield (none,r.2.1+1,r.2.2+1))
   | _=>pure (ForInStep.done (some none,r.2.1,r.2.2))
 | _=>pure (ForInStep.done (some none,r.2.1,r.2.2))
theorem vR (c:bJ prog w A E s κ Ok rk) (o:aX Ok a0) (b:SB κ a0 pd st) {lo n nrem:Nat}{Q:CS->SortSt->Prop} (hz:lo+nrem<=a0.size) (h1:1<=n) (hn:n<=nrem) (u:Up rk (arrOf st) lo (lo+n))
  (h:∀ m,n<=m->m<=nrem->Up rk (arrOf st) lo (lo+m)->(m=nrem ∨ Kr rk (arrOf st) (lo+m) < Kr rk (arrOf st) (lo+m - 1))->Q (none,m) st):wpS (model prog w) A E s (kF lo n nrem) Q st:=by
 unfold kF
 refine ax9 (I:=fun x r st'=>st'=st/\r=(none,x)/\Up rk (arrOf st) lo (lo+x)) ?_ ?_ ⟨rfl,rfl,u⟩
 ·rintro x r st' hx hx' ⟨rfl,rfl,u'⟩
  refine as1 (kE c o b (by omega) (by omega) ?_)
  by_cases hq:Kr rk (arrOf st') (lo+x) < Kr rk (arrOf st') (lo+x - 1)
  ·rw [at0 hq]
   exact as7 (h x hx (by omega) u' (.inr hq))
  ·rw [as0 hq]
   refine as7 ⟨rfl,rfl,fun i j hi hij hj=>?_⟩
   rcases av6 j (lo+x) with z | z
   ·exact u' i j hi hij z
   ·have ej:j=lo+x:=by omega
    subst ej
    rcases aC9 hij with z | z
    ·rw [z]; exact aD4 _
    ·have:=u' i (lo+x - 1) hi (by omega) (by omega)
     omega
 ·rintro r st' ⟨rfl,rfl,u'⟩
  have em:max n nrem=nrem:=by omega
  rw [em] at u' ⊢
  exact h nrem hn (as3 _) u' (.inl rfl)
structure kG (rk:Keyed->Int) (xs ys:Array Keyed) (lo m q:Nat):Prop where
 dn:Dn rk ys lo (lo+m)
 le:q+1<=m
 eq:∀ i,lo+m - (q+1)<=i->i < lo+m->Kr rk ys i=Kr rk ys (lo+m - 1)
 low:∀ i,i < lo->Kr rk ys i=Kr rk xs i
theorem Z4 (c:bJ prog w A E s κ Ok rk) (o:aX Ok a0) (b:SB κ a0 pd st) {lo n nrem:Nat}{xs:Array Keyed}{Q:DS->SortSt->Prop} (hz:lo+nrem<=a0.size) (h1:1<=n) (hn:n<=nrem) (u:kG rk xs (arrOf st) lo n 0)
  (h:∀ m q st',SB κ a0 pd st'->n<=m->m<=nrem->kG rk xs (arrOf st') lo m q->Q (none,m,q) st'):wpS (model prog w) A E s (qF lo n nrem) Q st:=by
 unfold qF
 refine ax9 (I:=fun x r st'=>∃ q,r=(none,x,q)/\SB κ a0 pd st'/\kG rk xs (arrOf st') lo x q) ?_ ?_ ⟨0,rfl,b,u⟩
 ·rintro x r st' hx hx' ⟨q,rfl,b',f⟩
  have sz:=b'.sz
  dsimp only
  refine as1 (kE c o b' (by omega) (by omega) ?_)
  by_cases hq:Kr rk (arrOf st') (lo+x) < Kr rk (arrOf st') (lo+x - 1)
  ·rw [at0 hq]
   have nx:∀ ys:Array Keyed,(∀ k,Kr rk ys k=Kr rk (arrOf st') k)->kG rk xs ys lo (x+1) 0:=fun ys e=>by
    refine⟨fun i j hi hij hj=>?_,by omega,fun i h1 h2=>by rw [show i=lo+(x+1) - 1 by omega],fun i hi=>(e i).trans (f.low i hi)⟩
    rw [e,e]
    rcases av6 j (lo+x) with z | z
    ·exact f.dn i j hi hij z
    ·have ej:j=lo+x:=by omega
     subst ej
     rcases aC9 hij with z | z
     ·rw [z]; exact aD4 _
     ·have:=f.dn i (lo+x - 1) hi (by omega) (by omega)
      omega
   dsimp only
   rw [if_pos rfl]
   by_cases hp:q > 0
   ·rw [if_pos hp]
    exact as1 (mM (as7 ⟨0,rfl,b'.put (mirror_perm _ _ _ _),nx _ (qE (by omega) f.eq)⟩))
   ·rw [if_neg hp]
    exact as7 ⟨0,rfl,b',nx _ fun _=>rfl⟩
  ·rw [as0 hq]
   dsimp only
   rw [if_neg at3]
   refine as1 (kE c o b' (by omega) (by omega) ?_)
   by_cases hl:Kr rk (arrOf st') (lo+x - 1) < Kr rk (arrOf st') (lo+x)
   ·rw [at0 hl]
    exact as7 (h x q st' b' hx (by omega) f)
   ·rw [as0 hl]
    have ex:Kr rk (arrOf st') (lo+x)=Kr rk (arrOf st') (lo+x - 1):=by omega
    refine as7 ⟨q+1,rfl,b',fun i j hi hij hj=>?_,by have:=f.le; omega,fun i h1 h2=>?_,f.low⟩
    ·rcases av6 j (lo+x) with z | z
     ·exact f.dn i j hi hij z
     ·have ej:j=lo+x:=by omega
      subst ej
      rcases aC9 hij with z | z
      ·rw [z]; exact aD4 _
      ·rw [ex]; exact f.dn i (lo+x - 1) hi (by omega) (by omega)
    ·rw [show lo+(x+1) - 1=lo+x by omega]
     rcases av6 i (lo+x) with z | z
     ·rw [ex]; exact f.eq i (by omega) z
     ·rw [show i=lo+x by omega]
 ·rintro r st' ⟨q,rfl,b',f⟩
  have em:max n nrem=nrem:=by omega
  rw [em] at f ⊢
  exact h nrem q st' b' hn (as3 _) f
theorem vS (c:bJ prog w A E s κ Ok rk) (o:aX Ok a0) (b:SB κ a0 pd st) {lo nrem:Nat} (n:Nat) {xs:Array Keyed}{Q:Option Nat->SortSt->Prop}{K:DS->StateT SortSt Sem (Option Nat)}{k:CS->StateT SortSt Sem (Option Nat)} (hz:lo+nrem<=a0.size) (hn:n+1<=nrem)
  (hK:∀ m q,K (none,m,q)=if q > 0 then reverseSlice' (lo+m - (q+1)) (lo+m) >>= fun _=>reverseSlice' lo (lo+m) >>= fun _=>kF lo m nrem >>= k else reverseSlice' lo (lo+m) >>= fun _=>kF lo m nrem >>= k)
  (hk:∀ m,k (none,m)=pure (some m)) (u:kG rk xs (arrOf st) lo (n+1) 0)
  (h:∀ m st',SB κ a0 pd st'->1<=m->m<=nrem->Up rk (arrOf st') lo (lo+m)->(∀ i,i < lo->Kr rk (arrOf st') i=Kr rk xs i)->Q (some m) st'):wpS (model prog w) A E s (liftM (rule "list.sort.descending-run") >>= fun _=>qF lo (n+1) nrem >>= K) Q st:=by
 refine as1 (wpS_lift (aC7 ⟨rfl,?_⟩))
 refine as1 (Z4 c o b hz (by omega) hn u fun m q st1 b1 m1 m2 f=>?_)
 have fin:∀ st2:SortSt,SB κ a0 pd st2->(∀ k,Kr rk (arrOf st2) k=Kr rk (arrOf st1) k)->
   wpS (model prog w) A E s (reverseSlice' lo (lo+m) >>= fun _=>kF lo m nrem >>= k) Q st2:=fun st2 b2 e=>by
  have sz:=b2.sz
  have low:∀ i,i < lo->Kr rk (mirror (arrOf st2) lo (lo+m) ((lo+m - lo) / 2)) i=Kr rk xs i:=fun i hi=>by
   rw [mL (by omega),if_neg (by omega),e]
   exact f.low i hi
  refine as1 (mM (as1 (vR (κ:=κ) c o (b2.put (mirror_perm _ _ _ _)) hz (by omega) m2 ?_ fun m' h1 h2 up _=>by rw [hk]; exact as7 (h m' _ (b2.put (mirror_perm _ _ _ _)) (by omega) h2 up low))))
  ·intro i j hi hij hj
   show Kr rk (mirror (arrOf st2) lo (lo+m) _) i<=Kr rk (mirror (arrOf st2) lo (lo+m) _) j
   rw [mL (by omega),mL (by omega),if_pos (by omega),if_pos (by omega),e,e]
   exact f.dn _ _ (by omega) (by omega) (by omega)
 rw [hK]
 by_cases hp:q > 0
 ·rw [if_pos hp]
  have sz:=b1.sz
  exact as1 (mM (fin _ (b1.put (mirror_perm _ _ _ _)) (qE (by omega) f.eq)))
 ·rw [if_neg hp]
  exact fin st1 b1 fun _=>rfl
theorem Z5 (c:bJ prog w A E s κ Ok rk) (o:aX Ok a0) (b:SB κ a0 pd st) {lo nrem:Nat}{Q:Option Nat->SortSt->Prop} (hz:lo+nrem<=a0.size) (h1:1<=nrem)
  (h:∀ m st',SB κ a0 pd st'->1<=m->m<=nrem->Up rk (arrOf st') lo (lo+m)->(∀ i,i < lo->Kr rk (arrOf st') i=Kr rk (arrOf st) i)->Q (some m) st'):wpS (model prog w) A E s (countRun' lo nrem) Q st:=by
 rw [countRun'_eq]
 refine as1 (vR (n:=1) c o b hz (as3 _) h1 (fun i j hi hij hj=>by rw [show i=j by omega]; exact aD4 _) fun n n1 n2 un on=>?_)
 dsimp only
 by_cases en:(n == nrem)=true
 ·rw [if_pos en]
  exact as7 (h n st b n1 n2 un fun _ _=>rfl)
 ·rw [if_neg en]
  have en':n ≠ nrem:=by simpa using en
  have lt:=on.resolve_left en'
  have sz:=b.sz
  by_cases g:n > 1
  ·rw [if_pos g]
   refine as1 (kE c o b (by omega) (by omega) ?_)
   by_cases hq:Kr rk (arrOf st) lo < Kr rk (arrOf st) (lo+n - 1)
   ·rw [at0 hq]
    exact as7 (h n st b n1 n2 un fun _ _=>rfl)
   ·rw [as0 hq]
    dsimp only
    rw [if_neg at3]
    have all:∀ k,lo<=k->k < lo+n->Kr rk (arrOf st) k=Kr rk (arrOf st) (lo+n - 1):=fun k k1 k2=>by
     have a1:=un lo k (as3 _) k1 k2
     have a2:=un k (lo+n - 1) k1 (by omega) (by omega)
     omega
    have sm:=qE (rk:=rk) (xs:=arrOf st) (i:=lo) (j:=lo+n) (by omega) all
    refine as1 (mM (vS (xs:=arrOf st) (κ:=κ) c o (b.put (mirror_perm _ _ _ _)) n hz (by omega) (fun _ _=>rfl) (fun _=>rfl) ⟨fun i j hi hij hj=>?_,by omega,fun i h1 h2=>by rw [show i=lo+(n+1) - 1 by omega],fun i _=>sm i⟩ h))
    show Kr rk (mirror (arrOf st) lo (lo+n) _) j<=Kr rk (mirror (arrOf st) lo (lo+n) _) i
    rw [sm,sm]
    rcases av6 j (lo+n) with z | z
    ·rw [all i hi (by omega),all j (by omega) z]; exact aD4 _
    ·have ej:j=lo+n:=by omega
     subst ej
     rcases aC9 hij with z | z
     ·rw [z]; exact aD4 _
     ·rw [all i hi (by omega)]; exact Int.le_of_lt lt
  ·rw [if_neg g]
   have e1:n=1:=by omega
   subst e1
   refine vS (xs:=arrOf st) c o b 1 hz (by omega) (fun _ _=>rfl) (fun _=>rfl) ⟨fun i j hi hij hj=>?_,by omega,fun i h1 h2=>by rw [show i=lo+(1+1) - 1 by omega],fun i _=>rfl⟩ h
   rcases aC9 hij with z | z
   ·rw [z]; exact aD4 _
   ·have ei:i=lo+1 - 1:=by omega
    have ej:j=lo+1:=by omega
    rw [ei,ej]; exact Int.le_of_lt lt
theorem Z6 (c:bJ prog w A E s κ Ok rk) (o:aX Ok a0) (b:SB κ a0 pd st) {lo n q:Nat}{Q:Bool->SortSt->Prop} (hz:lo+n<=a0.size) (hq:q<=n) (u:Up rk (arrOf st) lo (lo+q))
  (h:∀ st',SB κ a0 pd st'->Up rk (arrOf st') lo (lo+n)->(∀ i,i < lo->Kr rk (arrOf st') i=Kr rk (arrOf st) i)->Q true st'):wpS (model prog w) A E s (binarySort' lo n q) Q st:=by
 rw [binarySort'_eq]
 refine as1 (aD5 (ax9 (I:=fun k r st'=>r=(none,())/\SB κ a0 pd st'/\Up rk (arrOf st') lo (lo+min k n)/\∀ i,i < lo->Kr rk (arrOf st') i=Kr rk (arrOf st) i)
  (Q:=fun r st'=>r=(none,())/\SB κ a0 pd st'/\Up rk (arrOf st') lo (lo+n)/\∀ i,i < lo->Kr rk (arrOf st') i=Kr rk (arrOf st) i) ?_ ?_ ?_) ?_)
 ·rintro k r st1 hk hkn ⟨rfl,b1,u1,l1⟩
  rw [show min k n=k by omega] at u1
  have hk0:lo+k < a0.size:=by omega
  have sz:=b1.sz
  refine as1 (aD5 (ax9 (I:=fun x r st'=>st'=st1/\∃ l g,r=(none,l,g)/\l<=g/\g<=k/\g - l<=k - x/\(∀ i,i < l->Kr rk (arrOf st1) (lo+i)<=Kr rk (arrOf st1) (lo+k))/\∀ i,g<=i->i < k->Kr rk (arrOf st1) (lo+k) < Kr rk (arrOf st1) (lo+i))
   (Q:=fun r st'=>st'=st1/\∃ l g,r=(none,l,g)/\l<=k/\(∀ i,i < l->Kr rk (arrOf st1) (lo+i)<=Kr rk (arrOf st1) (lo+k))/\∀ i,l<=i->i < k->Kr rk (arrOf st1) (lo+k) < Kr rk (arrOf st1) (lo+i)) ?_ ?_ ?_) ?_)
  ·rintro x r st2 _ hx ⟨rfl,l,g,rfl,d1,d2,d3,f1,f2⟩
   dsimp only
   by_cases hlg:l >= g
   ·rw [if_pos hlg]
    have e:g=l:=by omega
    subst e
    exact as7 ⟨rfl,g,g,rfl,d2,f1,f2⟩
   ·rw [if_neg hlg]
    refine as1 (kE c o b1 hk0 (by omega) ?_)
    by_cases hc:Kr rk (arrOf st2) (lo+k) < Kr rk (arrOf st2) (lo+(l+g) / 2)
    ·rw [at0 hc]
     refine as7 ⟨rfl,l,(l+g) / 2,rfl,by omega,by omega,by omega,f1,fun i i1 i2=>?_⟩
     have:=u1 (lo+(l+g) / 2) (lo+i) (by omega) (by omega) (by omega)
     omega
    ·rw [as0 hc]
     refine as7 ⟨rfl,(l+g) / 2+1,g,rfl,by omega,d2,by omega,fun i i1=>?_,f2⟩
     have:=u1 (lo+i) (lo+(l+g) / 2) (by omega) (by omega) (by omega)
     omega
  ·rintro r st2 ⟨rfl,l,g,rfl,d1,d2,d3,f1,f2⟩
   have e:g=l:=by omega
   subst e
   exact⟨rfl,g,g,rfl,d2,f1,f2⟩
  ·exact⟨rfl,0,k,rfl,by omega,by omega,by omega,fun i hi=>absurd hi (by omega),fun i i1 i2=>absurd i1 (by omega)⟩
  ·rintro r st2 ⟨rfl,l,g,rfl,d,f1,f2⟩
   dsimp only
   rw [moveDown'_eq]
   have kb:∀ i,Kr rk (bubble (arrOf st2) (lo+k) (lo+k - (lo+l))) i=Kr rk (arrOf st2) (if i=lo+l then lo+k else if lo+l < i/\i<=lo+k then i - 1 else i):=fun i=>by
    rw [Z3 (by omega) (by omega),show lo+k - (lo+k - (lo+l))=lo+l by omega]
   refine as1 (wpS_modify (as7 ⟨rfl,b1.put (bubble_perm _ _ _),fun i j hi hij hj=>?_,fun i hi=>?_⟩))
   ·show Kr rk (bubble (arrOf st2) (lo+k) (lo+k - (lo+l))) i<=Kr rk (bubble (arrOf st2) (lo+k) (lo+k - (lo+l))) j
    rw [kb,kb]
    rw [show min (k+1) n=k+1 by omega] at hj
    have v1:∀ p,lo<=p->p < lo+l->Kr rk (arrOf st2) p<=Kr rk (arrOf st2) (lo+k):=fun p p1 p2=>by have:=f1 (p - lo) (by omega); rwa [show lo+(p - lo)=p by omega] at this
    have v2:∀ p,lo+l<=p->p < lo+k->Kr rk (arrOf st2) (lo+k) < Kr rk (arrOf st2) p:=fun p p1 p2=>by have:=f2 (p - lo) (by omega) (by omega); rwa [show lo+(p - lo)=p by omega] at this
    repeat' split
    all_goals first
     | (exfalso; omega)
     | exact aD4 _
     | exact v1 _ (by omega) (by omega)
     | exact Int.le_of_lt (v2 _ (by omega) (by omega))
     | exact u1 _ _ (by omega) (by omega) (by omega)
   ·show Kr rk (bubble (arrOf st2) (lo+k) (lo+k - (lo+l))) i=_
    rw [kb,if_neg (by omega),if_neg (by omega)]
    exact l1 i hi
 ·rintro r st1 ⟨rfl,b1,u1,l1⟩
  rw [show min (max (max q 1) n) n=n by omega] at u1
  exact⟨rfl,b1,u1,l1⟩
 ·refine⟨rfl,b,fun i j hi hij hj=>?_,fun _ _=>rfl⟩
  rcases av6 j (lo+q) with z | z
  ·exact u i j hi hij z
  ·rw [show i=j by omega]; exact aD4 _
 ·rintro r st1 ⟨rfl,b1,u1,l1⟩
  exact as7 (h st1 b1 u1 l1)
end
def gP:Bool->Keyed->Array Keyed->Nat->Nat->Nat->StateT SortSt Sem (Option Nat):=sortPriv% PySem.Builtin.gallop
def i9 (lf:Bool) (key:Keyed) (xs:Array Keyed) (bs i:Nat):StateT SortSt Sem (Option Bool):=do
 let z <- elem' xs (bs+i)
 if lf then lt' z key else return (<- lt' key z).map (!·)
theorem Z7 (lf:Bool) (key:Keyed) (xs:Array Keyed) (bs n h:Nat):gP lf key xs bs n h=(do
 let mut la:=0
 let mut of:=1
 let mut l:=0
 let mut g:=0
 let some rt <- i9 lf key xs bs h | return none
 if rt then
  let mx:=n - h
  for _ in [0:n] do
   if of >= mx then break
   let some mr <- i9 lf key xs bs (h+of) | return none
   if !mr then break
   la:=of
   of:=2 * of+1
  l:=h+la+1
  g:=h+min of mx
 else
  let mx:=h+1
  for _ in [0:n] do
   if of >= mx then break
   let some fd <- i9 lf key xs bs (h - of) | return none
   if fd then break
   la:=of
   of:=2 * of+1
  l:=h+1 - min of mx
  g:=h - la
 for _ in [0:n] do
  if l >= g then break
  let m:=l+(g - l) / 2
  let some mr <- i9 lf key xs bs m | return none
  if mr then l:=m+1 else g:=m
 return some g):=rfl
section
variable {rk : Keyed → Int} {κ : SortKind} {st : SortSt} {prog : Program} {w : World} {A : Around} {E : Value → Shared → Prop} {s : Shared} {Ok : Keyed → Prop}
def bD (rk:Keyed->Int) (lf:Bool) (key:Keyed) (xs:Array Keyed) (bs i:Nat):Bool:=if lf then decide (Kr rk xs (bs+i) < rk key) else decide (Kr rk xs (bs+i)<=rk key)
theorem mO (c:bJ prog w A E s κ Ok rk) (hk:kindOf st=κ) {lf:Bool}{key:Keyed}{xs:Array Keyed}{bs i:Nat}{Q:Option Bool->SortSt->Prop} (ok:Ok key) (o:aX Ok xs) (hi:bs+i < xs.size)
  (h:Q (some (bD rk lf key xs bs i)) st):wpS (model prog w) A E s (i9 lf key xs bs i) Q st:=by
 unfold i9
 refine as1 (c9 hi ?_)
 unfold bD at h
 rw [bF hi] at h
 cases lf with
 | true=>
  simp only [if_true] at h ⊢
  exact c _ _ (o _ (av5 hi)) ok st Q hk h
 | false=>
  simp only [aw8,aD2] at h ⊢
  refine as1 (c _ _ ok (o _ (av5 hi)) st _ hk (as7 ?_))
  have e:(!decide (rk key < rk xs[bs+i]))=decide (rk xs[bs+i]<=rk key):=by
   by_cases z:rk xs[bs+i]<=rk key
   ·rw [at0 z,as0 (by omega)]; rfl
   ·rw [as0 z,at0 (by omega)]; rfl
  show Q (some (!decide (rk key < rk xs[bs+i]))) st
  rw [e]; exact h
abbrev GS:=Option (Option Nat) × Nat × Nat
def vT (lf:Bool) (key:Keyed) (xs:Array Keyed) (bs n l g:Nat):StateT SortSt Sem GS:=forIn [0:n] ((none,l,g):GS) fun _ r=>
 if r.2.1 >= r.2.2 then pure (ForInStep.done (none,r.2.1,r.2.2)) else do
  match <- i9 lf key xs bs (r.2.1+(r.2.2 - r.2.1) / 2) with
  | some q=>if q=true then pure (ForInStep.yield (none,r.2.1+(r.2.2 - r.2.1) / 2+1,r.2.2)) else pure (ForInStep.yield (none,r.2.1,r.2.1+(r.2.2 - r.2.1) / 2))
  | _=>pure (ForInStep.done (some none,r.2.1,r.2.2))
theorem vU (c:bJ prog w A E s κ Ok rk) (hk:kindOf st=κ) {lf:Bool}{key:Keyed}{xs:Array Keyed}{bs n l g:Nat}{Q:GS->SortSt->Prop} (ok:Ok key) (o:aX Ok xs) (hz:bs+n<=xs.size)
  (mono:∀ i j,i<=j->j < n->bD rk lf key xs bs j=true->bD rk lf key xs bs i=true) (hlg:l<=g) (hg:g<=n) (h1:∀ i,i < l->bD rk lf key xs bs i=true) (h2:∀ i,g<=i->i < n->bD rk lf key xs bs i=false)
  (hq:∀ k,k<=n->(∀ i,i < k->bD rk lf key xs bs i=true)->(∀ i,k<=i->i < n->bD rk lf key xs bs i=false)->Q (none,k,k) st):wpS (model prog w) A E s (vT lf key xs bs n l g) Q st:=by
 unfold vT
 refine ax9 (I:=fun x r st'=>st'=st/\∃ l g,r=(none,l,g)/\l<=g/\g<=n/\g - l<=n - x/\(∀ i,i < l->bD rk lf key xs bs i=true)/\∀ i,g<=i->i < n->bD rk lf key xs bs i=false) ?_ ?_ ⟨rfl,l,g,rfl,hlg,hg,by omega,h1,h2⟩
 ·rintro x r st' _ hx ⟨rfl,l,g,rfl,d1,d2,d3,f1,f2⟩
  dsimp only
  by_cases hc:l >= g
  ·rw [if_pos hc]
   have e:g=l:=by omega
   subst e
   exact as7 (hq g d2 f1 f2)
  ·rw [if_neg hc]
   refine as1 (mO c hk ok o (by omega) ?_)
   cases z:bD rk lf key xs bs (l+(g - l) / 2) with
   | true=>exact as7 ⟨rfl,_,_,rfl,by omega,d2,by omega,fun i hi=>mono i (l+(g - l) / 2) (by omega) (by omega) z,f2⟩
   | false=>
    refine as7 ⟨rfl,_,_,rfl,by omega,by omega,by omega,f1,fun i i1 i2=>?_⟩
    cases y:bD rk lf key xs bs i with
    | false=>rfl
    | true=>rw [mono _ i i1 i2 y] at z; cases z
 ·rintro r st' ⟨rfl,l,g,rfl,d1,d2,d3,f1,f2⟩
  have e:g=l:=by omega
  subst e
  exact hq g d2 f1 f2
theorem iZ (c:bJ prog w A E s κ Ok rk) (hk:kindOf st=κ) {lf:Bool}{key:Keyed}{xs:Array Keyed}{bs n h:Nat}{Q:Option Nat->SortSt->Prop} (ok:Ok key) (o:aX Ok xs) (hh:h < n) (hz:bs+n<=xs.size) (u:Up rk xs bs (bs+n))
  (hq:∀ k,k<=n->(∀ i,i < k->bD rk lf key xs bs i=true)->(∀ i,k<=i->i < n->bD rk lf key xs bs i=false)->Q (some k) st):wpS (model prog w) A E s (gP lf key xs bs n h) Q st:=by
 have mono:∀ i j,i<=j->j < n->bD rk lf key xs bs j=true->bD rk lf key xs bs i=true:=fun i j hij hj e=>by
  have:=u (bs+i) (bs+j) (by omega) (by omega) (by omega)
  unfold bD at e ⊢
  cases lf with
  | true=>simp only [if_true,au7] at e ⊢; omega
  | false=>simp only [aw8,aD2,au7] at e ⊢; omega
 have monf:∀ i j,i<=j->j < n->bD rk lf key xs bs i=false->bD rk lf key xs bs j=false:=fun i j hij hj e=>by
  cases z:bD rk lf key xs bs j with
  | false=>rfl
  | true=>rw [mono i j hij hj z] at e; cases e
 rw [Z7]
 refine as1 (mO c hk ok o (by omega) ?_)
 dsimp only
 cases z:bD rk lf key xs bs h with
 | true=>
  rw [if_pos rfl]
  refine as1 (aD5 (ax9 (I:=fun x r st'=>st'=st/\∃ la of,r=(none,la,of)/\la < of/\x < of/\h+la < n/\bD rk lf key xs bs (h+la)=true)
   (Q:=fun r st'=>st'=st/\∃ la of,r=(none,la,of)/\la < of/\h+la < n/\bD rk lf key xs bs (h+la)=true/\(of < n - h->bD rk lf key xs bs (h+of)=false)) ?_ ?_ ⟨rfl,0,1,rfl,by omega,by omega,by omega,z⟩) ?_)
  ·rintro x r st' _ hx ⟨rfl,la,of,rfl,d1,d2,d3,f⟩
   dsimp only
   by_cases hc:of >= n - h
   ·rw [if_pos hc]
    exact as7 ⟨rfl,la,of,rfl,d1,d3,f,fun y=>absurd y (by omega)⟩
   ·rw [if_neg hc]
    refine as1 (mO c hk ok o (by omega) ?_)
    cases y:bD rk lf key xs bs (h+of) with
    | true=>exact as7 ⟨rfl,of,2 * of+1,rfl,by omega,by omega,by omega,y⟩
    | false=>exact as7 ⟨rfl,la,of,rfl,d1,d3,f,fun _=>y⟩
  ·rintro r st' ⟨rfl,la,of,rfl,d1,d2,d3,f⟩
   exact⟨rfl,la,of,rfl,d1,d3,f,fun y=>absurd y (by omega)⟩
  ·rintro r st' ⟨rfl,la,of,rfl,d1,d3,f,ft⟩
   dsimp only
   refine as1 (vU (l:=h+la+1) (g:=h+min of (n - h)) c hk ok o hz mono (by omega) (by omega) (fun i hi=>mono i (h+la) (by omega) d3 f) (fun i i1 i2=>?_) fun k k1 k2 k3=>as7 (hq k k1 k2 k3))
   rcases av6 of (n - h) with y | y
   ·exact monf (h+of) i (by omega) i2 (ft y)
   ·exact absurd i1 (by omega)
 | false=>
  rw [if_neg at3]
  refine as1 (aD5 (ax9 (I:=fun x r st'=>st'=st/\∃ la of,r=(none,la,of)/\la < of/\x < of/\la<=h/\bD rk lf key xs bs (h - la)=false)
   (Q:=fun r st'=>st'=st/\∃ la of,r=(none,la,of)/\la < of/\la<=h/\bD rk lf key xs bs (h - la)=false/\(of < h+1->bD rk lf key xs bs (h - of)=true)) ?_ ?_ ⟨rfl,0,1,rfl,by omega,by omega,by omega,z⟩) ?_)
  ·rintro x r st' _ hx ⟨rfl,la,of,rfl,d1,d2,d3,f⟩
   dsimp only
   by_cases hc:of >= h+1
   ·rw [if_pos hc]
    exact as7 ⟨rfl,la,of,rfl,d1,d3,f,fun y=>absurd y (by omega)⟩
   ·rw [if_neg hc]
    refine as1 (mO c hk ok o (by omega) ?_)
    cases y:bD rk lf key xs bs (h - of) with
    | false=>exact as7 ⟨rfl,of,2 * of+1,rfl,by omega,by omega,by omega,y⟩
    | true=>exact as7 ⟨rfl,la,of,rfl,d1,d3,f,fun _=>y⟩
  ·rintro r st' ⟨rfl,la,of,rfl,d1,d2,d3,f⟩
   exact⟨rfl,la,of,rfl,d1,d3,f,fun y=>absurd y (by omega)⟩
  ·rintro r st' ⟨rfl,la,of,rfl,d1,d3,f,ft⟩
   dsimp only
   refine as1 (vU (l:=h+1 - min of (h+1)) (g:=h - la) c hk ok o hz mono (by omega) (by omega) (fun i hi=>?_) (fun i i1 i2=>monf (h - la) i i1 i2 f) fun k k1 k2 k3=>as7 (hq k k1 k2 k3))
   rcases av6 of (h+1) with y | y
   ·exact mono i (h - of) (by omega) (by omega) (ft y)
   ·exact absurd hi (by omega)
end
def j4:Nat->StateT SortSt Sem Unit:=sortPriv% PySem.Builtin.setMinGallop
def qG:Array Keyed->Array Keyed->StateT SortSt Sem (Array Keyed):=sortPriv% PySem.Builtin.mergeLo
theorem Z8 (g:Nat):j4 g=modify (fun st=>SortSt.mk' (kindOf st) (arrOf st) (pendingOf st) g (failedOf st)):=rfl
abbrev LS:=Option (Array Keyed) × Array Keyed × Nat × Nat × Nat × Nat × Nat
abbrev qH:=Option (Array Keyed) × Array Keyed × Nat × Nat × Nat × Nat
abbrev LO:=Option (Array Keyed) × Array Keyed × Nat × Nat × Nat
def mP (x y o:Array Keyed) (i j mg p q:Nat):StateT SortSt Sem (ForInStep LS):=do
 let v <- elem' x i
 if (i+1+1 == x.size)=true then pure (.done (some (o.push v ++ y.extract j y.size ++ x.extract (i+1) x.size),o.push v,i+1,j,mg,p,q))
 else if (decide (p < 7) && decide (q < 7))=true then pure (.done (none,o.push v,i+1,j,mg,p,q)) else pure (.yield (none,o.push v,i+1,j,mg,p,q))
def mQ (x y o:Array Keyed) (i j mg p q:Nat):StateT SortSt Sem (ForInStep LS):=do
 let v <- elem' y j
 if (j+1 == y.size)=true then pure (.done (some (o.push v ++ x.extract i x.size ++ y.extract (j+1) y.size),o.push v,i,j+1,mg,p,q)) else do
  let u <- elem' x i
  match <- gP true u y (j+1) (y.size - (j+1)) 0 with
  | some k=>
   if k > 0 then
    if (j+1+k == y.size)=true then pure (.done (some (o.push v ++ y.extract (j+1) (j+1+k) ++ x.extract i x.size ++ y.extract (j+1+k) y.size),o.push v ++ y.extract (j+1) (j+1+k),i,j+1+k,mg,p,k))
    else mP x y (o.push v ++ y.extract (j+1) (j+1+k)) i (j+1+k) mg p k
   else mP x y (o.push v) i (j+1) mg p k
  | _=>pure (.done (some (o.push v ++ x.extract i x.size ++ y.extract (j+1) y.size),o.push v,i,j+1,mg,p,q))
def mR (x y o:Array Keyed) (i j mg p q:Nat):StateT SortSt Sem (ForInStep LS):=do
 j4 mg
 let v <- elem' y j
 match <- gP false v x i (x.size - i) 0 with
 | some k=>
  if k > 0 then
   if (i+k+1 == x.size)=true then pure (.done (some (o ++ x.extract i (i+k) ++ y.extract j y.size ++ x.extract (i+k) x.size),o ++ x.extract i (i+k),i+k,j,mg,k,q))
   else if (i+k == x.size)=true then pure (.done (some (o ++ x.extract i (i+k) ++ x.extract (i+k) x.size ++ y.extract j y.size),o ++ x.extract i (i+k),i+k,j,mg,k,q))
   else mQ x y (o ++ x.extract i (i+k)) (i+k) j mg k q
  else mQ x y o i j mg k q
 | _=>pure (.done (some (o ++ x.extract i x.size ++ y.extract j y.size),o,i,j,mg,p,q))
def qI (x y o:Array Keyed) (i j mg p q:Nat):StateT SortSt Sem LS:=forIn [0:x.size+y.size] ((none,o,i,j,mg,p,q):LS) fun _ r=>
 if r.2.2.2.2.1 > 1 then mR x y r.2.1 r.2.2.1 r.2.2.2.1 (r.2.2.2.2.1 - 1) r.2.2.2.2.2.1 r.2.2.2.2.2.2 else mR x y r.2.1 r.2.2.1 r.2.2.2.1 r.2.2.2.2.1 r.2.2.2.2.2.1 r.2.2.2.2.2.2
def qJ (x y o:Array Keyed) (i j mg:Nat):StateT SortSt Sem qH:=forIn [0:x.size+y.size] ((none,o,i,j,0,0):qH) fun _ r=>do
 let v <- elem' y r.2.2.2.1
 let u <- elem' x r.2.2.1
 match <- lt' v u with
 | some q=>
  if q=true then do
   let v <- elem' y r.2.2.2.1
   if (r.2.2.2.1+1 == y.size)=true then pure (.done (some (r.2.1.push v ++ x.extract r.2.2.1 x.size ++ y.extract (r.2.2.2.1+1) y.size),r.2.1.push v,r.2.2.1,r.2.2.2.1+1,0,r.2.2.2.2.2+1))
   else if r.2.2.2.2.2+1 >= mg then pure (.done (none,r.2.1.push v,r.2.2.1,r.2.2.2.1+1,0,r.2.2.2.2.2+1)) else pure (.yield (none,r.2.1.push v,r.2.2.1,r.2.2.2.1+1,0,r.2.2.2.2.2+1))
  else do
   let u <- elem' x r.2.2.1
   if (r.2.2.1+1+1 == x.size)=true then pure (.done (some (r.2.1.push u ++ y.extract r.2.2.2.1 y.size ++ x.extract (r.2.2.1+1) x.size),r.2.1.push u,r.2.2.1+1,r.2.2.2.1,r.2.2.2.2.1+1,0))
   else if r.2.2.2.2.1+1 >= mg then pure (.done (none,r.2.1.push u,r.2.2.1+1,r.2.2.2.1,r.2.2.2.2.1+1,0)) else pure (.yield (none,r.2.1.push u,r.2.2.1+1,r.2.2.2.1,r.2.2.2.2.1+1,0))
 | _=>pure (.done (some (r.2.1 ++ x.extract r.2.2.1 x.size ++ y.extract r.2.2.2.1 y.size),r.2.1,r.2.2.1,r.2.2.2.1,r.2.2.2.2.1,r.2.2.2.2.2))
def vV (x y o:Array Keyed) (i j mg:Nat):StateT SortSt Sem LO:=forIn [0:x.size+y.size] ((none,o,i,j,mg):LO) fun _ r=>do
 let u <- qJ x y r.2.1 r.2.2.1 r.2.2.2.1 r.2.2.2.2
 match u.1 with
 | some z=>pure (.done (some z,u.2.1,u.2.2.1,u.2.2.2.1,r.2.2.2.2))
 | none=>do
  liftM (rule "list.sort.gallop")
  let v <- qI x y u.2.1 u.2.2.1 u.2.2.2.1 (r.2.2.2.2+1) u.2.2.2.2.1 u.2.2.2.2.2
  match v.1 with
  | some z=>pure (.done (some z,v.2.1,v.2.2.1,v.2.2.2.1,v.2.2.2.2.1))
  | none=>do
   j4 (v.2.2.2.2.1+1)
   pure (.yield (none,v.2.1,v.2.2.1,v.2.2.2.1,v.2.2.2.2.1+1))
theorem Z9 (x y:Array Keyed):qG x y=(do
 liftM (rule "list.sort.merge-lo")
 let v <- elem' y 0
 if (1 == y.size)=true then pure (#[v] ++ x.extract 0 x.size ++ y.extract 1 y.size)
 else if (0+1 == x.size)=true then pure (#[v] ++ y.extract 1 y.size ++ x.extract 0 x.size)
 else do
  let z <- get
  let r <- vV x y #[v] 0 1 (gallopOf z)
  match r.1 with
  | some z=>pure z
  | none=>unsupported "internal:list.sort.merge-bound"):=by kernel_rfl
section
variable (rk : Keyed → Int)
def Sd (l:List Keyed):Prop:=l.Pairwise fun a b=>rk a<=rk b
structure MI (xs ys o:List Keyed) (i j:Nat):Prop where
 pm:o.Perm (xs.take i ++ ys.take j)
 sx:Sd rk (o ++ xs.drop i)
 sy:Sd rk (o ++ ys.drop j)
end
variable {rk : Keyed → Int} {xs ys o : List Keyed} {i j : Nat}
theorem Sd.ins {o a b d:List Keyed} (h1:Sd rk (o ++ a)) (h2:Sd rk (o ++ (b ++ d))) (h:∀ u ∈ b,∀ t ∈ a,rk u<=rk t):Sd rk ((o ++ b) ++ a):=by
 unfold Sd at *
 rw [at5]
 obtain ⟨p1,p2,p3⟩:=av3.mp h1
 obtain ⟨q1,q2,q3⟩:=av3.mp h2
 obtain ⟨r1,r2,r3⟩:=av3.mp q2
 refine av3.mpr ⟨p1,av3.mpr ⟨r1,p2,h⟩,fun u hu t ht=>?_⟩
 rcases ay0.mp ht with z | z
 ·exact q3 u hu t (aD1 _ z)
 ·exact p3 u hu t z
theorem MI.ofy (m:MI rk xs ys o i j) (k:Nat) (h:∀ u ∈ (ys.drop j).take k,∀ t ∈ xs.drop i,rk u<=rk t):MI rk xs ys (o ++ (ys.drop j).take k) i (j+k):=by
 have e:(ys.drop j).take k ++ ys.drop (j+k)=ys.drop j:=by rw [<- List.drop_drop]; exact av7 k _
 refine⟨?_,Sd.ins m.sx (d:=ys.drop (j+k)) (by rw [e]; exact m.sy) h,by rw [at5,e]; exact m.sy⟩
 rw [List.take_add,<- at5]
 exact m.pm.append_right _
theorem MI.ofx (m:MI rk xs ys o i j) (k:Nat) (h:∀ u ∈ (xs.drop i).take k,∀ t ∈ ys.drop j,rk u<=rk t):MI rk xs ys (o ++ (xs.drop i).take k) (i+k) j:=by
 have e:(xs.drop i).take k ++ xs.drop (i+k)=xs.drop i:=by rw [<- List.drop_drop]; exact av7 k _
 refine⟨?_,by rw [at5,e]; exact m.sx,Sd.ins m.sy (d:=xs.drop (i+k)) (by rw [e]; exact m.sx) h⟩
 rw [List.take_add]
 refine (m.pm.append_right _).trans ?_
 rw [at5,at5]
 exact (List.perm_append_comm).append_left _
theorem MI.fin (m:MI rk xs ys o i j) (h:xs.length<=i ∨ ys.length<=j):(o ++ xs.drop i ++ ys.drop j).Perm (xs ++ ys)/\Sd rk (o ++ xs.drop i ++ ys.drop j):=by
 refine⟨?_,?_⟩
 ·rw [at5]
  refine (m.pm.append_right _).trans ?_
  have e1:xs=xs.take i ++ xs.drop i:=(av7 i xs).symm
  have e2:ys=ys.take j ++ ys.drop j:=(av7 j ys).symm
  conv=>rhs; rw [e1,e2]
  rw [at5,at5]
  refine List.Perm.append_left _ ?_
  rw [<- at5,<- at5]
  exact (List.perm_append_comm).append_right _
 ·rcases h with h | h
  ·rw [List.drop_eq_nil_of_le h,ax3]; exact m.sy
  ·rw [List.drop_eq_nil_of_le h,ax3]; exact m.sx
theorem MI.lst (m:MI rk xs ys o i j) (h:∀ u ∈ ys,∀ t ∈ xs.drop i,rk u<=rk t):(o ++ ys.drop j ++ xs.drop i).Perm (xs ++ ys)/\Sd rk (o ++ ys.drop j ++ xs.drop i):=by
 have m2:=m.ofy ys.length fun u hu t ht=>h u (List.mem_of_mem_drop (List.mem_of_mem_take hu)) t ht
 have e:(ys.drop j).take ys.length=ys.drop j:=av2 (by simp)
 rw [e] at m2
 have f:=m2.fin (.inr (by omega))
 rw [List.drop_eq_nil_of_le (as:=ys) (i:=j+ys.length) (by omega),ax3] at f
 exact f
theorem vW {x:Array Keyed}{i k:Nat}{u:Keyed} (h:u ∈ (x.toList.drop i).take k):∃ t,t < k/\i+t < x.size/\rk u=Kr rk x (i+t):=by
 obtain ⟨t,ht,e⟩:=ay5 h
 have h1:t < k/\i+t < x.size:=by simp at ht; omega
 refine⟨t,h1.1,h1.2,?_⟩
 rw [bF h1.2,<- e]
 simp
theorem kH {x:Array Keyed}{i:Nat}{u:Keyed} (h:u ∈ x.toList.drop i):∃ t,i+t < x.size/\rk u=Kr rk x (i+t):=by
 obtain ⟨t,ht,e⟩:=ay5 h
 have h1:i+t < x.size:=by simp at ht; omega
 refine⟨t,h1,?_⟩
 rw [bF h1,<- e]
 simp
theorem Sd.up {x:Array Keyed} (h:Sd rk x.toList) (lo hi:Nat) (hh:hi<=x.size):Up rk x lo hi:=fun i j _ hij hj=>by
 rw [bF (by omega:i < x.size),bF (by omega:j < x.size)]
 rcases aC9 hij with z | z
 ·subst z; exact aD4 _
 ·have:=ay4.mp h i j (by simp; omega) (by simp; omega) z
  simpa using this
theorem vX (x:Array Keyed) (i k:Nat):(x.extract i (i+k)).toList=(x.toList.drop i).take k:=by
 simp [List.extract]
theorem mS (x:Array Keyed) (i:Nat):(x.extract i x.size).toList=x.toList.drop i:=by
 simp [List.extract]
 exact av2 (by simp)
theorem iA {x:Array Keyed}{i:Nat} (h:i < x.size) : [x[i]]=(x.toList.drop i).take 1:=by
 rw [List.drop_eq_getElem_cons (by simpa using h)]; simp
structure Gq (st st':SortSt):Prop where
 kd:kindOf st'=kindOf st
 ar:arrOf st'=arrOf st
 pd:pendingOf st'=pendingOf st
 ok:failedOf st'=failedOf st
theorem Gq.refl (st:SortSt):Gq st st:=⟨rfl,rfl,rfl,rfl⟩
section
variable {κ : SortKind} {st : SortSt} {prog : Program} {w : World} {A : Around} {E : Value → Shared → Prop} {s : Shared} {Ok : Keyed → Prop}
theorem mT {st0:SortSt}{g:Nat}{Q:Unit->SortSt->Prop} (q:Gq st0 st) (h:∀ st',Gq st0 st'->Q () st'):wpS (model prog w) A E s (j4 g) Q st:=by
 rw [Z8]; exact wpS_modify (h _ ⟨q.kd,q.ar,q.pd,q.ok⟩)
def cO (rk:Keyed->Int) (x y r:Array Keyed):Prop:=r.toList.Perm (x.toList ++ y.toList)/\Sd rk r.toList
theorem MI.y1 {x y o:Array Keyed} (m:MI rk x.toList y.toList o.toList i j) (hj:j < y.size) (h:∀ t,i+t < x.size->rk y[j]<=Kr rk x (i+t)):MI rk x.toList y.toList (o.push y[j]).toList i (j+1):=by
 have:=m.ofy 1 fun u hu t ht=>?_
 ·rw [<- iA hj] at this; simpa using this
 ·rw [<- iA hj,au2] at hu
  subst hu
  obtain ⟨q,q1,q2⟩:=kH (rk:=rk) ht
  rw [q2]; exact h q q1
theorem MI.x1 {x y o:Array Keyed} (m:MI rk x.toList y.toList o.toList i j) (hi:i < x.size) (h:∀ t,j+t < y.size->rk x[i]<=Kr rk y (j+t)):MI rk x.toList y.toList (o.push x[i]).toList (i+1) j:=by
 have:=m.ofx 1 fun u hu t ht=>?_
 ·rw [<- iA hi] at this; simpa using this
 ·rw [<- iA hi,au2] at hu
  subst hu
  obtain ⟨q,q1,q2⟩:=kH (rk:=rk) ht
  rw [q2]; exact h q q1
theorem MI.yk {x y o:Array Keyed} (m:MI rk x.toList y.toList o.toList i j) (k:Nat) (h:∀ p t,p < k->j+p < y.size->i+t < x.size->Kr rk y (j+p)<=Kr rk x (i+t)):MI rk x.toList y.toList (o ++ y.extract j (j+k)).toList i (j+k):=by
 have:=m.ofy k fun u hu t ht=>?_
 ·rw [<- vX] at this; rw [ax2]; exact this
 ·obtain ⟨p,p1,p2,p3⟩:=vW (rk:=rk) hu
  obtain ⟨q,q1,q2⟩:=kH (rk:=rk) ht
  rw [q2,p3]; exact h p q p1 p2 q1
theorem MI.xk {x y o:Array Keyed} (m:MI rk x.toList y.toList o.toList i j) (k:Nat) (h:∀ p t,p < k->i+p < x.size->j+t < y.size->Kr rk x (i+p)<=Kr rk y (j+t)):MI rk x.toList y.toList (o ++ x.extract i (i+k)).toList (i+k) j:=by
 have:=m.ofx k fun u hu t ht=>?_
 ·rw [<- vX] at this; rw [ax2]; exact this
 ·obtain ⟨p,p1,p2,p3⟩:=vW (rk:=rk) hu
  obtain ⟨q,q1,q2⟩:=kH (rk:=rk) ht
  rw [q2,p3]; exact h p q p1 p2 q1
theorem j5 {key:Keyed}{xs:Array Keyed}{bs i:Nat}:bD rk false key xs bs i=decide (Kr rk xs (bs+i)<=rk key):=rfl
theorem j6 {key:Keyed}{xs:Array Keyed}{bs i:Nat}:bD rk true key xs bs i=decide (Kr rk xs (bs+i) < rk key):=rfl
def GI (rk:Keyed->Int) (x y:Array Keyed) (lb:Nat) (st:SortSt) (c:LS) (st':SortSt):Prop:=Gq st st'/\∃ o i j mg p q,c=(none,o,i,j,mg,p,q)/\MI rk x.toList y.toList o.toList i j/\i+1 < x.size/\j < y.size/\lb<=i+j
def GQ (rk:Keyed->Int) (x y:Array Keyed) (lb:Nat) (st:SortSt) (c:LS) (st':SortSt):Prop:=Gq st st'/\((∃ r o i j mg p q,c=(some r,o,i,j,mg,p,q)/\cO rk x y r) ∨ ∃ o i j mg p q,c=(none,o,i,j,mg,p,q)/\MI rk x.toList y.toList o.toList i j/\i+1 < x.size/\j < y.size/\lb<=i+j)
def GR (rk:Keyed->Int) (x y:Array Keyed) (lb:Nat) (st:SortSt) (r:ForInStep LS) (st':SortSt):Prop:=match r with | .done c=>GQ rk x y lb st c st' | .yield c=>GI rk x y lb st c st'
theorem MI.done {x y o:Array Keyed} (m:MI rk x.toList y.toList o.toList i j) (hh:x.size<=i ∨ y.size<=j):cO rk x y (o ++ x.extract i x.size ++ y.extract j y.size):=by
 unfold cO
 rw [ax2,ax2,mS,mS]
 exact m.fin (by simpa using hh)
theorem MI.last {x y o:Array Keyed} (m:MI rk x.toList y.toList o.toList i j) (x0:0 < x.size) (hl:∀ u ∈ y.toList,rk u<=rk x[x.size - 1]) (hh:i+1=x.size):cO rk x y (o ++ y.extract j y.size ++ x.extract i x.size):=by
 unfold cO
 rw [ax2,ax2,mS,mS]
 refine m.lst fun u hu t ht=>?_
 obtain ⟨q,q1,q2⟩:=kH (rk:=rk) ht
 have e:i+q=x.size - 1:=by omega
 rw [q2,e,bF (by omega)]
 exact hl u hu
theorem vY {st0:SortSt}{x y o:Array Keyed}{mg p q lb:Nat} (x0:0 < x.size) (hl:∀ u ∈ y.toList,rk u<=rk x[x.size - 1]) (g:Gq st0 st) (m:MI rk x.toList y.toList o.toList i j) (hi:i+1 < x.size) (hj:j < y.size) (hb:lb<=i+j)
  (hm:∀ t,j+t < y.size->rk x[i]<=Kr rk y (j+t)):wpS (model prog w) A E s (mP x y o i j mg p q) (GR rk x y lb st0) st:=by
 unfold mP
 have hi':i < x.size:=by omega
 have m':=m.x1 hi' hm
 refine as1 (c9 hi' ?_)
 by_cases he:(i+1+1 == x.size)=true
 ·rw [if_pos he]
  have he:i+1+1=x.size:=by simpa using he
  exact as7 ⟨g,.inl ⟨_,_,_,_,_,_,_,rfl,m'.last x0 hl he⟩⟩
 ·rw [if_neg he]
  have he:i+1+1 ≠ x.size:=by simpa using he
  split
  ·exact as7 ⟨g,.inr ⟨_,_,_,_,_,_,rfl,m',by omega,hj,by omega⟩⟩
  ·exact as7 ⟨g,_,_,_,_,_,_,rfl,m',by omega,hj,by omega⟩
theorem vZ (c:bJ prog w A E s κ Ok rk) {st0:SortSt} (hk:kindOf st0=κ) {x y o:Array Keyed}{mg p q lb:Nat} (ox:aX Ok x) (oy:aX Ok y) (sx:Sd rk x.toList) (sy:Sd rk y.toList) (x0:0 < x.size) (hl:∀ u ∈ y.toList,rk u<=rk x[x.size - 1]) (g:Gq st0 st) (m:MI rk x.toList y.toList o.toList i j) (hi:i+1 < x.size) (hj:j < y.size) (hb:lb<=i+j)
  (hm:∀ t,i+t < x.size->rk y[j]<=Kr rk x (i+t)):wpS (model prog w) A E s (mQ x y o i j mg p q) (GR rk x y lb st0) st:=by
 unfold mQ
 have hi':i < x.size:=by omega
 have m':=m.y1 hj hm
 refine as1 (c9 hj ?_)
 by_cases he:(j+1 == y.size)=true
 ·rw [if_pos he]
  have he:j+1=y.size:=by simpa using he
  exact as7 ⟨g,.inl ⟨_,_,_,_,_,_,_,rfl,m'.done (.inr (by omega))⟩⟩
 ·rw [if_neg he]
  have he:j+1 ≠ y.size:=by simpa using he
  refine as1 (c9 hi' (as1 (iZ c (g.kd.trans hk) (ox _ (av5 hi')) oy (by omega) (by omega) (sy.up _ _ (by omega)) fun k k1 k2 k3=>?_)))
  dsimp only
  have ux:=sx.up 0 _ (as3 x.size)
  have mk:=m'.yk k fun p t hp _ ht=>by
   have a1:=k2 p hp
   rw [j6,au7] at a1
   have a2:=ux i (i+t) (by omega) (by omega) ht
   rw [bF hi'] at a2
   omega
  have km:∀ t,j+1+k+t < y.size->rk x[i]<=Kr rk y (j+1+k+t):=fun t ht=>by
   have a1:=k3 (k+t) (by omega) (by omega)
   rw [j6,az9,<- Nat.add_assoc] at a1
   omega
  by_cases hk0:k > 0
  ·rw [if_pos hk0]
   by_cases hf:(j+1+k == y.size)=true
   ·rw [if_pos hf]
    have hf:j+1+k=y.size:=by simpa using hf
    exact as7 ⟨g,.inl ⟨_,_,_,_,_,_,_,rfl,mk.done (.inr (by omega))⟩⟩
   ·rw [if_neg hf]
    have hf:j+1+k ≠ y.size:=by simpa using hf
    exact vY x0 hl g mk hi (by omega) (by omega) km
  ·rw [if_neg hk0]
   have e0:k=0:=by omega
   subst e0
   exact vY x0 hl g m' hi (by omega) (by omega) km
theorem w4 (c:bJ prog w A E s κ Ok rk) {st0:SortSt} (hk:kindOf st0=κ) {x y o:Array Keyed}{mg p q lb:Nat} (ox:aX Ok x) (oy:aX Ok y) (sx:Sd rk x.toList) (sy:Sd rk y.toList) (x0:0 < x.size) (hl:∀ u ∈ y.toList,rk u<=rk x[x.size - 1]) (g:Gq st0 st) (m:MI rk x.toList y.toList o.toList i j) (hi:i+1 < x.size) (hj:j < y.size) (hb:lb<=i+j) :
  wpS (model prog w) A E s (mR x y o i j mg p q) (GR rk x y lb st0) st:=by
 unfold mR
 refine as1 (mT g fun st4 q4=>as1 (c9 hj (as1 (iZ c (q4.kd.trans hk) (oy _ (av5 hj)) ox (by omega) (by omega) (sx.up _ _ (by omega)) fun k k1 k2 k3=>?_))))
 dsimp only
 have uy:=sy.up 0 _ (as3 y.size)
 have mk:=m.xk k fun p t hp _ ht=>by
  have a1:=k2 p hp
  rw [j5,au7] at a1
  have a2:=uy j (j+t) (by omega) (by omega) ht
  rw [bF hj] at a2
  omega
 have km:∀ t,i+k+t < x.size->rk y[j]<=Kr rk x (i+k+t):=fun t ht=>by
  have a1:=k3 (k+t) (by omega) (by omega)
  rw [j5,az9,<- Nat.add_assoc] at a1
  omega
 by_cases hk0:k > 0
 ·rw [if_pos hk0]
  by_cases he:(i+k+1 == x.size)=true
  ·rw [if_pos he]
   exact as7 ⟨q4,.inl ⟨_,_,_,_,_,_,_,rfl,mk.last x0 hl (by simpa using he)⟩⟩
  ·rw [if_neg he]
   have he:i+k+1 ≠ x.size:=by simpa using he
   by_cases hf:(i+k == x.size)=true
   ·rw [if_pos hf]
    have hf:i+k=x.size:=by simpa using hf
    exact as7 ⟨q4,.inl ⟨_,_,_,_,_,_,_,rfl,mk.done (.inl (by omega))⟩⟩
   ·rw [if_neg hf]
    have hf:i+k ≠ x.size:=by simpa using hf
    exact vZ c hk ox oy sx sy x0 hl q4 mk (by omega) hj (by omega) km
 ·rw [if_neg hk0]
  have e0:k=0:=by omega
  subst e0
  exact vZ c hk ox oy sx sy x0 hl q4 m hi hj hb km
theorem aa0 (c:bJ prog w A E s κ Ok rk) {st0:SortSt} (hk:kindOf st0=κ) {x y o:Array Keyed}{mg p q lb:Nat} (ox:aX Ok x) (oy:aX Ok y) (sx:Sd rk x.toList) (sy:Sd rk y.toList) (x0:0 < x.size) (hl:∀ u ∈ y.toList,rk u<=rk x[x.size - 1]) (g:Gq st0 st) (m:MI rk x.toList y.toList o.toList i j) (hi:i+1 < x.size) (hj:j < y.size) (hb:lb<=i+j) :
  wpS (model prog w) A E s (qI x y o i j mg p q) (GQ rk x y lb st0) st:=by
 unfold qI
 refine ax9 (I:=fun _=>GI rk x y lb st0) ?_ ?_ ⟨g,o,i,j,_,p,q,rfl,m,hi,hj,hb⟩
 ·rintro t c3 st3 _ _ ⟨q3,o,i,j,mg,p,q,rfl,m,hi,hj,pr3⟩
  dsimp only
  split
  ·exact aD5 (w4 c hk ox oy sx sy x0 hl q3 m hi hj pr3) fun r _ hr=>by cases r <;> exact hr
  ·exact aD5 (w4 c hk ox oy sx sy x0 hl q3 m hi hj pr3) fun r _ hr=>by cases r <;> exact hr
 ·rintro c3 st3 ⟨q3,o,i,j,mg,p,q,rfl,m,hi,hj,pr3⟩
  exact⟨q3,.inr ⟨_,_,_,_,_,_,rfl,m,hi,hj,pr3⟩⟩
theorem aa1 (c:bJ prog w A E s κ Ok rk) {st0:SortSt} (hk:kindOf st0=κ) {x y o:Array Keyed}{mg:Nat}{Q:qH->SortSt->Prop} (ox:aX Ok x) (oy:aX Ok y) (sx:Sd rk x.toList) (sy:Sd rk y.toList) (x0:0 < x.size) (hl:∀ u ∈ y.toList,rk u<=rk x[x.size - 1]) (g:Gq st0 st) (m:MI rk x.toList y.toList o.toList i j) (hi:i+1 < x.size) (hj:j < y.size)
  (h1:∀ r o' i' j' p q st',Gq st0 st'->cO rk x y r->Q (some r,o',i',j',p,q) st')
  (h2:∀ o' i' j' p q st',Gq st0 st'->MI rk x.toList y.toList o'.toList i' j'->i'+1 < x.size->j' < y.size->i+j+1<=i'+j'->Q (none,o',i',j',p,q) st') :
  wpS (model prog w) A E s (qJ x y o i j mg) Q st:=by
 have ux:Up rk x 0 x.size:=sx.up 0 _ (as3 _)
 have uy:Up rk y 0 y.size:=sy.up 0 _ (as3 _)
 unfold qJ
 refine ax9 (I:=fun t c st'=>Gq st0 st'/\∃ o i' j' p q,c=(none,o,i',j',p,q)/\MI rk x.toList y.toList o.toList i' j'/\i'+1 < x.size/\j' < y.size/\i+j+t<=i'+j') ?_ ?_ ⟨g,o,i,j,0,0,rfl,m,hi,hj,by omega⟩
 ·rintro t c2 st2 _ ht ⟨q2,o,i',j',p,q,rfl,m,hi,hj,pr2⟩
  dsimp only
  have hi':i' < x.size:=by omega
  refine as1 (c9 hj (as1 (c9 hi' (as1 (c _ _ (oy _ (av5 hj)) (ox _ (av5 hi')) st2 _ (q2.kd.trans hk) ?_)))))
  by_cases hc:rk y[j'] < rk x[i']
  ·rw [at0 hc]
   dsimp only
   rw [if_pos rfl]
   have m':=m.y1 hj fun t ht=>by
    have:=ux i' (i'+t) (by omega) (by omega) ht
    rw [bF hi'] at this
    omega
   refine as1 (c9 hj ?_)
   by_cases he:(j'+1 == y.size)=true
   ·rw [if_pos he]
    have he:j'+1=y.size:=by simpa using he
    exact as7 (h1 _ _ _ _ _ _ _ q2 (m'.done (.inr (by omega))))
   ·rw [if_neg he]
    have he:j'+1 ≠ y.size:=by simpa using he
    split
    ·exact as7 (h2 _ _ _ _ _ _ q2 m' hi (by omega) (by omega))
    ·exact as7 ⟨q2,_,_,_,_,_,rfl,m',hi,by omega,by omega⟩
  ·rw [as0 hc]
   dsimp only
   rw [if_neg at3]
   have m':=m.x1 hi' fun t ht=>by
    have:=uy j' (j'+t) (by omega) (by omega) ht
    rw [bF hj] at this
    omega
   refine as1 (c9 hi' ?_)
   by_cases he:(i'+1+1 == x.size)=true
   ·rw [if_pos he]
    exact as7 (h1 _ _ _ _ _ _ _ q2 (m'.last x0 hl (by simpa using he)))
   ·rw [if_neg he]
    have he:i'+1+1 ≠ x.size:=by simpa using he
    split
    ·exact as7 (h2 _ _ _ _ _ _ q2 m' (by omega) hj (by omega))
    ·exact as7 ⟨q2,_,_,_,_,_,rfl,m',by omega,hj,by omega⟩
 ·rintro c2 st2 ⟨q2,o,i',j',p,q,rfl,m,hi,hj,pr2⟩
  exact h2 _ _ _ _ _ _ q2 m hi hj (by omega)
theorem aa2 (c:bJ prog w A E s κ Ok rk) (hk:kindOf st=κ) {x y:Array Keyed}{Q:Array Keyed->SortSt->Prop} (ox:aX Ok x) (oy:aX Ok y) (sx:Sd rk x.toList) (sy:Sd rk y.toList) (x0:0 < x.size) (y0:0 < y.size)
  (hf:∀ t ∈ x.toList,rk y[0]<=rk t) (hl:∀ u ∈ y.toList,rk u<=rk x[x.size - 1])
  (h:∀ r st',Gq st st'->cO rk x y r->Q r st'):wpS (model prog w) A E s (qG x y) Q st:=by
 rw [Z9]
 refine as1 (wpS_lift (aC7 ⟨rfl,as1 (c9 y0 ?_)⟩))
 have m0:MI rk x.toList y.toList (#[y[0]]:Array Keyed).toList 0 1:=by
  have mm:MI rk x.toList y.toList [] 0 0:=⟨by simp,sx,sy⟩
  have:=mm.ofy 1 fun u hu t ht=>?_
  ·rw [<- iA y0] at this; exact this
  ·rw [<- iA y0,au2] at hu
   subst hu
   exact hf t ht
 by_cases e1:(1 == y.size)=true
 ·rw [if_pos e1]
  have e1:1=y.size:=by simpa using e1
  exact as7 (h _ st (Gq.refl st) (m0.done (.inr (by omega))))
 ·rw [if_neg e1]
  have e1:1 ≠ y.size:=by simpa using e1
  by_cases e2:(0+1 == x.size)=true
  ·rw [if_pos e2]
   exact as7 (h _ st (Gq.refl st) (m0.last x0 hl (by simpa using e2)))
  ·rw [if_neg e2]
   have e2:0+1 ≠ x.size:=by simpa using e2
   refine as1 (wpS_get ?_)
   unfold vV
   refine as1 (aD5 (ax9
    (I:=fun n c st'=>Gq st st'/\∃ o i j mg,c=(none,o,i,j,mg)/\MI rk x.toList y.toList o.toList i j/\i+1 < x.size/\j < y.size/\n+1<=i+j)
    (Q:=fun c st'=>Gq st st'/\∃ r o i j mg,c=(some r,o,i,j,mg)/\cO rk x y r) ?_ ?_ ⟨Gq.refl st,_,0,1,_,rfl,m0,by omega,by omega,by omega⟩) ?_)
   ·rintro n c1 st1 _ hn ⟨q1,o,i,j,mg,rfl,m,hi,hj,pr⟩
    dsimp only
    refine as1 (aa1 c hk ox oy sx sy x0 hl q1 m hi hj (fun r o' i' j' p q st' g md=>as7 ⟨g,r,_,_,_,_,rfl,md⟩) fun o' i' j' p q st' g m' hi' hj' pr'=>?_)
    refine as1 (wpS_lift (aC7 ⟨rfl,?_⟩))
    refine as1 (aD5 (aa0 c hk ox oy sx sy x0 hl g m' hi' hj' pr') ?_)
    rintro c3 st3 ⟨q3,⟨r,o,i3,j3,mg,p,q,rfl,md⟩ | ⟨o,i3,j3,mg,p,q,rfl,m,hi,hj,pr3⟩⟩
    ·exact as7 ⟨q3,r,_,_,_,_,rfl,md⟩
    ·exact as1 (mT q3 fun st4 q4=>as7 ⟨q4,o,i3,j3,_,rfl,m,hi,hj,by omega⟩)
   ·rintro c1 st1 ⟨q1,o,i,j,mg,rfl,m,hi,hj,pr⟩
    exact absurd pr (by omega)
   ·rintro c1 st1 ⟨q1,r,o,i,j,mg,rfl,md⟩
    exact as7 (h r _ q1 md)
end
def qK:Array Keyed->Array Keyed->StateT SortSt Sem (Array Keyed):=sortPriv% PySem.Builtin.mergeHi
abbrev LH:=Option (Array Keyed) × Nat × Nat × Array Keyed × Nat × Nat × Nat
abbrev qL:=Option (Array Keyed) × Nat × Nat × Array Keyed × Nat × Nat
abbrev LP:=Option (Array Keyed) × Nat × Nat × Array Keyed × Nat
def mU (x y o:Array Keyed) (i j mg p q:Nat):StateT SortSt Sem (ForInStep LH):=do
 let v <- elem' x (i - 1)
 if (i - 1 == 0)=true then pure (.done (some (x.extract 0 (i - 1) ++ y.extract 0 j ++ (o.push v).reverse),i - 1,j,o.push v,mg,p,q))
 else if (decide (p < 7) && decide (q < 7))=true then pure (.done (none,i - 1,j,o.push v,mg,p,q)) else pure (.yield (none,i - 1,j,o.push v,mg,p,q))
def mV (x y o:Array Keyed) (i j mg p q:Nat):StateT SortSt Sem (ForInStep LH):=do
 let v <- elem' y (j - 1)
 if (j - 1 == 1)=true then pure (.done (some (y.extract 0 (j - 1) ++ x.extract 0 i ++ (o.push v).reverse),i,j - 1,o.push v,mg,p,q)) else do
  let u <- elem' x (i - 1)
  match <- gP true u y 0 (j - 1) (j - 1 - 1) with
  | some z=>
   if j - 1 - z > 0 then
    if (z == 1)=true then pure (.done (some (y.extract 0 z ++ x.extract 0 i ++ (o.push v ++ (y.extract z (j - 1)).reverse).reverse),i,z,o.push v ++ (y.extract z (j - 1)).reverse,mg,p,j - 1 - z))
    else if (z == 0)=true then pure (.done (some (x.extract 0 i ++ y.extract 0 z ++ (o.push v ++ (y.extract z (j - 1)).reverse).reverse),i,z,o.push v ++ (y.extract z (j - 1)).reverse,mg,p,j - 1 - z))
    else mU x y (o.push v ++ (y.extract z (j - 1)).reverse) i z mg p (j - 1 - z)
   else mU x y (o.push v) i (j - 1) mg p (j - 1 - z)
  | _=>pure (.done (some (x.extract 0 i ++ y.extract 0 (j - 1) ++ (o.push v).reverse),i,j - 1,o.push v,mg,p,q))
def mW (x y o:Array Keyed) (i j mg p q:Nat):StateT SortSt Sem (ForInStep LH):=do
 j4 mg
 let v <- elem' y (j - 1)
 match <- gP false v x 0 i (i - 1) with
 | some z=>
  if i - z > 0 then
   if (z == 0)=true then pure (.done (some (x.extract 0 z ++ y.extract 0 j ++ (o ++ (x.extract z i).reverse).reverse),z,j,o ++ (x.extract z i).reverse,mg,i - z,q))
   else mV x y (o ++ (x.extract z i).reverse) z j mg (i - z) q
  else mV x y o i j mg (i - z) q
 | _=>pure (.done (some (x.extract 0 i ++ y.extract 0 j ++ o.reverse),i,j,o,mg,p,q))
def qM (x y o:Array Keyed) (i j mg p q:Nat):StateT SortSt Sem LH:=forIn [0:x.size+y.size] ((none,i,j,o,mg,p,q):LH) fun _ r=>
 if r.2.2.2.2.1 > 1 then mW x y r.2.2.2.1 r.2.1 r.2.2.1 (r.2.2.2.2.1 - 1) r.2.2.2.2.2.1 r.2.2.2.2.2.2 else mW x y r.2.2.2.1 r.2.1 r.2.2.1 r.2.2.2.2.1 r.2.2.2.2.2.1 r.2.2.2.2.2.2
def qN (x y o:Array Keyed) (i j mg:Nat):StateT SortSt Sem qL:=forIn [0:x.size+y.size] ((none,i,j,o,0,0):qL) fun _ r=>do
 let v <- elem' y (r.2.2.1 - 1)
 let u <- elem' x (r.2.1 - 1)
 match <- lt' v u with
 | some q=>
  if q=true then do
   let u <- elem' x (r.2.1 - 1)
   if (r.2.1 - 1 == 0)=true then pure (.done (some (x.extract 0 (r.2.1 - 1) ++ y.extract 0 r.2.2.1 ++ (r.2.2.2.1.push u).reverse),r.2.1 - 1,r.2.2.1,r.2.2.2.1.push u,r.2.2.2.2.1+1,0))
   else if r.2.2.2.2.1+1 >= mg then pure (.done (none,r.2.1 - 1,r.2.2.1,r.2.2.2.1.push u,r.2.2.2.2.1+1,0)) else pure (.yield (none,r.2.1 - 1,r.2.2.1,r.2.2.2.1.push u,r.2.2.2.2.1+1,0))
  else do
   let v <- elem' y (r.2.2.1 - 1)
   if (r.2.2.1 - 1 == 1)=true then pure (.done (some (y.extract 0 (r.2.2.1 - 1) ++ x.extract 0 r.2.1 ++ (r.2.2.2.1.push v).reverse),r.2.1,r.2.2.1 - 1,r.2.2.2.1.push v,0,r.2.2.2.2.2+1))
   else if r.2.2.2.2.2+1 >= mg then pure (.done (none,r.2.1,r.2.2.1 - 1,r.2.2.2.1.push v,0,r.2.2.2.2.2+1)) else pure (.yield (none,r.2.1,r.2.2.1 - 1,r.2.2.2.1.push v,0,r.2.2.2.2.2+1))
 | _=>pure (.done (some (x.extract 0 r.2.1 ++ y.extract 0 r.2.2.1 ++ r.2.2.2.1.reverse),r.2.1,r.2.2.1,r.2.2.2.1,r.2.2.2.2.1,r.2.2.2.2.2))
def w5 (x y o:Array Keyed) (i j mg:Nat):StateT SortSt Sem LP:=forIn [0:x.size+y.size] ((none,i,j,o,mg):LP) fun _ r=>do
 let u <- qN x y r.2.2.2.1 r.2.1 r.2.2.1 r.2.2.2.2
 match u.1 with
 | some z=>pure (.done (some z,u.2.1,u.2.2.1,u.2.2.2.1,r.2.2.2.2))
 | none=>do
  liftM (rule "list.sort.gallop")
  let v <- qM x y u.2.2.2.1 u.2.1 u.2.2.1 (r.2.2.2.2+1) u.2.2.2.2.1 u.2.2.2.2.2
  match v.1 with
  | some z=>pure (.done (some z,v.2.1,v.2.2.1,v.2.2.2.1,v.2.2.2.2.1))
  | none=>do
   j4 (v.2.2.2.2.1+1)
   pure (.yield (none,v.2.1,v.2.2.1,v.2.2.2.1,v.2.2.2.2.1+1))
theorem aa3 (x y:Array Keyed):qK x y=(do
 liftM (rule "list.sort.merge-hi")
 let v <- elem' x (x.size - 1)
 if (x.size - 1 == 0)=true then pure (x.extract 0 (x.size - 1) ++ y.extract 0 y.size ++ (#[v]:Array Keyed).reverse)
 else if (y.size == 1)=true then pure (y.extract 0 y.size ++ x.extract 0 (x.size - 1) ++ (#[v]:Array Keyed).reverse)
 else do
  let z <- get
  let r <- w5 x y #[v] (x.size - 1) y.size (gallopOf z)
  match r.1 with
  | some z=>pure z
  | none=>unsupported "internal:list.sort.merge-bound"):=by kernel_rfl
structure MH (rk:Keyed->Int) (xs ys o:List Keyed) (i j:Nat):Prop where
 pm:o.Perm (xs.drop i ++ ys.drop j)
 sx:Sd rk (xs.take i ++ o)
 sy:Sd rk (ys.take j ++ o)
variable {rk : Keyed → Int} {xs ys o : List Keyed} {i j : Nat}
theorem Sd.insR {o a b d:List Keyed} (h1:Sd rk (a ++ o)) (h2:Sd rk ((d ++ b) ++ o)) (h:∀ t ∈ a,∀ u ∈ b,rk t<=rk u):Sd rk (a ++ (b ++ o)):=by
 unfold Sd at *
 obtain ⟨p1,p2,p3⟩:=av3.mp h1
 obtain ⟨q1,q2,q3⟩:=av3.mp h2
 obtain ⟨r1,r2,r3⟩:=av3.mp q1
 refine av3.mpr ⟨p1,av3.mpr ⟨r2,p2,fun u hu t ht=>q3 u (au8 _ hu) t ht⟩,fun u hu t ht=>?_⟩
 rcases ay0.mp ht with z | z
 ·exact h u hu t z
 ·exact p3 u hu t z
theorem mX (l:List Keyed) {z j:Nat} (h:z<=j):l.take z ++ (l.take j).drop z=l.take j:=by
 have e:l.take z=(l.take j).take z:=by rw [List.take_take,Nat.min_eq_left h]
 rw [e]; exact av7 z _
theorem qO (l:List Keyed) {z j:Nat} (h:z<=j):(l.take j).drop z ++ l.drop j=l.drop z:=by
 rw [aE4,show l.drop j=(l.drop z).drop (j - z) by rw [List.drop_drop,Nat.add_sub_cancel' h]]
 exact av7 _ _
theorem MH.ofy (m:MH rk xs ys o i j) {z:Nat} (hz:z<=j) (h:∀ t ∈ xs.take i,∀ u ∈ (ys.take j).drop z,rk t<=rk u):MH rk xs ys ((ys.take j).drop z ++ o) i z:=by
 refine⟨?_,Sd.insR m.sx (d:=ys.take z) (by rw [mX _ hz]; exact m.sy) h,by rw [<- at5,mX _ hz]; exact m.sy⟩
 rw [<- qO ys hz]
 refine (m.pm.append_left _).trans ?_
 rw [<- at5,<- at5]
 exact (List.perm_append_comm).append_right _
theorem MH.ofx (m:MH rk xs ys o i j) {z:Nat} (hz:z<=i) (h:∀ t ∈ ys.take j,∀ u ∈ (xs.take i).drop z,rk t<=rk u):MH rk xs ys ((xs.take i).drop z ++ o) z j:=by
 refine⟨?_,by rw [<- at5,mX _ hz]; exact m.sx,Sd.insR m.sy (d:=xs.take z) (by rw [mX _ hz]; exact m.sx) h⟩
 rw [<- qO xs hz,at5]
 exact m.pm.append_left _
theorem MH.fin (m:MH rk xs ys o i j) (h:i=0 ∨ j=0):(xs.take i ++ ys.take j ++ o).Perm (xs ++ ys)/\Sd rk (xs.take i ++ ys.take j ++ o):=by
 refine⟨?_,?_⟩
 ·have e1:xs=xs.take i ++ xs.drop i:=(av7 i xs).symm
  have e2:ys=ys.take j ++ ys.drop j:=(av7 j ys).symm
  conv=>rhs; rw [e1,e2]
  rw [at5,at5]
  refine List.Perm.append_left _ ((m.pm.append_left _).trans ?_)
  rw [<- at5,<- at5]
  exact (List.perm_append_comm).append_right _
 ·rcases h with h | h
  ·subst h; simpa using m.sy
  ·subst h; simpa using m.sx
theorem MH.fst (m:MH rk xs ys o i j) (h:∀ t ∈ ys.take j,∀ u ∈ xs,rk t<=rk u):(ys.take j ++ xs.take i ++ o).Perm (xs ++ ys)/\Sd rk (ys.take j ++ xs.take i ++ o):=by
 have m2:=m.ofx (ay8 i) fun t ht u hu=>h t ht u (List.mem_of_mem_take (List.mem_of_mem_drop hu))
 have f:=m2.fin (.inl rfl)
 simpa using f
theorem kI {x:Array Keyed}{i:Nat}{u:Keyed} (h:u ∈ x.toList.take i):∃ t,t < i/\t < x.size/\rk u=Kr rk x t:=by
 obtain ⟨t,ht,e⟩:=ay5 h
 have h1:t < i/\t < x.size:=by simp at ht; omega
 refine⟨t,h1.1,h1.2,?_⟩
 rw [bF h1.2,<- e]
 simp
theorem kJ {x:Array Keyed}{z i:Nat}{u:Keyed} (h:u ∈ (x.toList.take i).drop z):∃ t,z<=t/\t < i/\t < x.size/\rk u=Kr rk x t:=by
 obtain ⟨t,ht,e⟩:=ay5 h
 have h1:z+t < i/\z+t < x.size:=by simp at ht; omega
 refine⟨z+t,by omega,h1.1,h1.2,?_⟩
 rw [bF h1.2,<- e]
 simp
theorem iB (x:Array Keyed) (z i:Nat):(x.extract z i).toList=(x.toList.take i).drop z:=by
 rw [aE4]; simp [List.extract]
theorem mY (x:Array Keyed) (i:Nat):(x.extract 0 i).toList=x.toList.take i:=by
 simp [List.extract]
theorem kK {x:Array Keyed}{i:Nat} (h:i < x.size) : [x[i]]=(x.toList.take (i+1)).drop i:=by
 rw [aE4,iA h,show i+1 - i=1 by omega]
section
variable {κ : SortKind} {st : SortSt} {prog : Program} {w : World} {A : Around} {E : Value → Shared → Prop} {s : Shared} {Ok : Keyed → Prop}
theorem MH.y1 {x y o:Array Keyed} (m:MH rk x.toList y.toList o.toList.reverse i (j+1)) (hj:j < y.size) (h:∀ t,t < i->t < x.size->Kr rk x t<=rk y[j]):MH rk x.toList y.toList (o.push y[j]).toList.reverse i j:=by
 have:=m.ofy (Nat.le_succ j) fun t ht u hu=>?_
 ·rw [<- kK hj] at this; simpa using this
 ·rw [<- kK hj,au2] at hu
  subst hu
  obtain ⟨q,q1,q2,q3⟩:=kI (rk:=rk) ht
  rw [q3]; exact h q q1 q2
theorem MH.x1 {x y o:Array Keyed} (m:MH rk x.toList y.toList o.toList.reverse (i+1) j) (hi:i < x.size) (h:∀ t,t < j->t < y.size->Kr rk y t<=rk x[i]):MH rk x.toList y.toList (o.push x[i]).toList.reverse i j:=by
 have:=m.ofx (Nat.le_succ i) fun t ht u hu=>?_
 ·rw [<- kK hi] at this; simpa using this
 ·rw [<- kK hi,au2] at hu
  subst hu
  obtain ⟨q,q1,q2,q3⟩:=kI (rk:=rk) ht
  rw [q3]; exact h q q1 q2
theorem MH.yk {x y o:Array Keyed} (m:MH rk x.toList y.toList o.toList.reverse i j) {z:Nat} (hz:z<=j) (h:∀ t p,t < i->t < x.size->z<=p->p < j->p < y.size->Kr rk x t<=Kr rk y p):MH rk x.toList y.toList (o ++ (y.extract z j).reverse).toList.reverse i z:=by
 have:=m.ofy hz fun t ht u hu=>?_
 ·rw [<- iB] at this; simpa using this
 ·obtain ⟨q,q1,q2,q3⟩:=kI (rk:=rk) ht
  obtain ⟨p,p1,p2,p3,p4⟩:=kJ (rk:=rk) hu
  rw [q3,p4]; exact h q p q1 q2 p1 p2 p3
theorem MH.xk {x y o:Array Keyed} (m:MH rk x.toList y.toList o.toList.reverse i j) {z:Nat} (hz:z<=i) (h:∀ t p,t < j->t < y.size->z<=p->p < i->p < x.size->Kr rk y t<=Kr rk x p):MH rk x.toList y.toList (o ++ (x.extract z i).reverse).toList.reverse z j:=by
 have:=m.ofx hz fun t ht u hu=>?_
 ·rw [<- iB] at this; simpa using this
 ·obtain ⟨q,q1,q2,q3⟩:=kI (rk:=rk) ht
  obtain ⟨p,p1,p2,p3,p4⟩:=kJ (rk:=rk) hu
  rw [q3,p4]; exact h q p q1 q2 p1 p2 p3
theorem MH.done {x y o:Array Keyed} (m:MH rk x.toList y.toList o.toList.reverse i j) (hh:i=0 ∨ j=0):cO rk x y (x.extract 0 i ++ y.extract 0 j ++ o.reverse):=by
 unfold cO
 rw [ax2,ax2,mY,mY,Array.toList_reverse]
 exact m.fin hh
theorem MH.frst {x y o:Array Keyed} (m:MH rk x.toList y.toList o.toList.reverse i j) (y0:0 < y.size) (hf:∀ t ∈ x.toList,rk y[0]<=rk t) (hh:j=1):cO rk x y (y.extract 0 j ++ x.extract 0 i ++ o.reverse):=by
 unfold cO
 rw [ax2,ax2,mY,mY,Array.toList_reverse]
 refine m.fst fun t ht u hu=>?_
 subst hh
 obtain ⟨q,q1,q2,q3⟩:=kI (rk:=rk) ht
 have e:q=0:=by omega
 subst e
 rw [q3,bF y0]
 exact hf u hu
structure HB (rk:Keyed->Int) (x y:Array Keyed) (lb i j:Nat) (o:Array Keyed):Prop where
 m:MH rk x.toList y.toList o.toList.reverse i j
 i0:0 < i
 i1:i < x.size
 j0:1 < j
 j1:j<=y.size
 pr:i+j+lb<=x.size+y.size
def HI (rk:Keyed->Int) (x y:Array Keyed) (lb:Nat) (st:SortSt) (c:LH) (st':SortSt):Prop:=Gq st st'/\∃ i j o mg p q,c=(none,i,j,o,mg,p,q)/\HB rk x y lb i j o
def HQ (rk:Keyed->Int) (x y:Array Keyed) (lb:Nat) (st:SortSt) (c:LH) (st':SortSt):Prop:=Gq st st'/\((∃ r i j o mg p q,c=(some r,i,j,o,mg,p,q)/\cO rk x y r) ∨ ∃ i j o mg p q,c=(none,i,j,o,mg,p,q)/\HB rk x y lb i j o)
def HR (rk:Keyed->Int) (x y:Array Keyed) (lb:Nat) (st:SortSt) (r:ForInStep LH) (st':SortSt):Prop:=match r with | .done c=>HQ rk x y lb st c st' | .yield c=>HI rk x y lb st c st'
theorem w6 {st0:SortSt}{x y o:Array Keyed}{i j mg p q lb:Nat} (g:Gq st0 st) (b:HB rk x y lb (i+1) j o) (hm:∀ (hi:i < x.size) t,t < j->t < y.size->Kr rk y t<=rk x[i]):wpS (model prog w) A E s (mU x y o (i+1) j mg p q) (HR rk x y lb st0) st:=by
 unfold mU
 obtain ⟨m,i0,i1,j0,j1,pr⟩:=b
 have hi':i < x.size:=by omega
 have m':=m.x1 hi' (hm hi')
 simp only [Nat.add_sub_cancel]
 refine as1 (c9 hi' ?_)
 by_cases he:(i == 0)=true
 ·rw [if_pos he]
  have he:i=0:=by simpa using he
  exact as7 ⟨g,.inl ⟨_,_,_,_,_,_,_,rfl,m'.done (.inl he)⟩⟩
 ·rw [if_neg he]
  have he:i ≠ 0:=by simpa using he
  split
  ·exact as7 ⟨g,.inr ⟨_,_,_,_,_,_,rfl,m',by omega,by omega,j0,j1,by omega⟩⟩
  ·exact as7 ⟨g,_,_,_,_,_,_,rfl,m',by omega,by omega,j0,j1,by omega⟩
theorem w9 (c:bJ prog w A E s κ Ok rk) {st0:SortSt} (hk:kindOf st0=κ) {x y o:Array Keyed}{i j mg p q lb:Nat} (ox:aX Ok x) (oy:aX Ok y) (sx:Sd rk x.toList) (sy:Sd rk y.toList) (y0:0 < y.size) (hf:∀ t ∈ x.toList,rk y[0]<=rk t) (g:Gq st0 st) (b:HB rk x y lb (i+1) (j+1) o)
  (hm:∀ (hj:j < y.size) t,t < i+1->t < x.size->Kr rk x t<=rk y[j]):wpS (model prog w) A E s (mV x y o (i+1) (j+1) mg p q) (HR rk x y lb st0) st:=by
 unfold mV
 obtain ⟨m,i0,i1,j0,j1,pr⟩:=b
 have hi':i < x.size:=by omega
 have hj:j < y.size:=by omega
 have m':=m.y1 hj (hm hj)
 simp only [Nat.add_sub_cancel]
 refine as1 (c9 hj ?_)
 by_cases he:(j == 1)=true
 ·rw [if_pos he]
  have he:j=1:=by simpa using he
  exact as7 ⟨g,.inl ⟨_,_,_,_,_,_,_,rfl,m'.frst y0 hf he⟩⟩
 ·rw [if_neg he]
  have he:j ≠ 1:=by simpa using he
  refine as1 (c9 hi' (as1 (iZ c (g.kd.trans hk) (ox _ (av5 hi')) oy (by omega) (by omega) (sy.up _ _ (by omega)) fun z k1 k2 k3=>?_)))
  dsimp only
  have ux:=sx.up 0 _ (as3 x.size)
  have mk:=m'.yk k1 fun t p ht ht' hp hp' _=>by
   have a1:=k3 p hp hp'
   rw [j6,az9,Nat.zero_add] at a1
   have a2:=ux t i (by omega) (by omega) hi'
   rw [bF (i:=i) hi'] at a2
   omega
  have km:∀ (hi:i < x.size) t,t < z->t < y.size->Kr rk y t<=rk x[i]:=fun _ t ht _=>by
   have a1:=k2 t ht
   rw [j6,au7,Nat.zero_add] at a1
   omega
  by_cases hk0:j - z > 0
  ·rw [if_pos hk0]
   by_cases h1:(z == 1)=true
   ·rw [if_pos h1]
    have h1:z=1:=by simpa using h1
    exact as7 ⟨g,.inl ⟨_,_,_,_,_,_,_,rfl,mk.frst y0 hf h1⟩⟩
   ·rw [if_neg h1]
    have h1:z ≠ 1:=by simpa using h1
    by_cases h0:(z == 0)=true
    ·rw [if_pos h0]
     have h0:z=0:=by simpa using h0
     exact as7 ⟨g,.inl ⟨_,_,_,_,_,_,_,rfl,mk.done (.inr h0)⟩⟩
    ·rw [if_neg h0]
     have h0:z ≠ 0:=by simpa using h0
     exact w6 g ⟨mk,by omega,i1,by omega,by omega,by omega⟩ km
  ·rw [if_neg hk0]
   have e0:z=j:=by omega
   subst e0
   exact w6 g ⟨m',by omega,i1,by omega,by omega,by omega⟩ km
theorem wA (c:bJ prog w A E s κ Ok rk) {st0:SortSt} (hk:kindOf st0=κ) {x y o:Array Keyed}{i j mg p q lb:Nat} (ox:aX Ok x) (oy:aX Ok y) (sx:Sd rk x.toList) (sy:Sd rk y.toList) (y0:0 < y.size) (hf:∀ t ∈ x.toList,rk y[0]<=rk t) (g:Gq st0 st) (b:HB rk x y lb i (j+1) o) :
  wpS (model prog w) A E s (mW x y o i (j+1) mg p q) (HR rk x y lb st0) st:=by
 unfold mW
 obtain ⟨m,i0,i1,j0,j1,pr⟩:=b
 have hj:j < y.size:=by omega
 simp only [Nat.add_sub_cancel]
 refine as1 (mT g fun st4 q4=>as1 (c9 hj (as1 (iZ c (q4.kd.trans hk) (oy _ (av5 hj)) ox (by omega) (by omega) (sx.up _ _ (by omega)) fun z k1 k2 k3=>?_))))
 dsimp only
 have uy:=sy.up 0 _ (as3 y.size)
 have mk:=m.xk k1 fun t p ht ht' hp hp' _=>by
  have a1:=k3 p hp hp'
  rw [j5,az9,Nat.zero_add] at a1
  have a2:=uy t j (by omega) (by omega) hj
  rw [bF (i:=j) hj] at a2
  omega
 have km:∀ (hj:j < y.size) t,t < z->t < x.size->Kr rk x t<=rk y[j]:=fun _ t ht _=>by
  have a1:=k2 t ht
  rw [j5,au7,Nat.zero_add] at a1
  exact a1
 by_cases hk0:i - z > 0
 ·rw [if_pos hk0]
  by_cases he:(z == 0)=true
  ·rw [if_pos he]
   exact as7 ⟨q4,.inl ⟨_,_,_,_,_,_,_,rfl,mk.done (.inl (by simpa using he))⟩⟩
  ·rw [if_neg he]
   have he:z ≠ 0:=by simpa using he
   obtain ⟨z2,rfl⟩:∃ z2,z=z2+1:=⟨z - 1,by omega⟩
   exact w9 c hk ox oy sx sy y0 hf q4 ⟨mk,by omega,by omega,j0,j1,by omega⟩ km
 ·rw [if_neg hk0]
  have e0:z=i:=by omega
  subst e0
  obtain ⟨z2,rfl⟩:∃ z2,z=z2+1:=⟨z - 1,by omega⟩
  exact w9 c hk ox oy sx sy y0 hf q4 ⟨m,i0,i1,j0,j1,pr⟩ km
theorem aa4 (c:bJ prog w A E s κ Ok rk) {st0:SortSt} (hk:kindOf st0=κ) {x y o:Array Keyed}{i j mg p q lb:Nat} (ox:aX Ok x) (oy:aX Ok y) (sx:Sd rk x.toList) (sy:Sd rk y.toList) (y0:0 < y.size) (hf:∀ t ∈ x.toList,rk y[0]<=rk t) (g:Gq st0 st) (b:HB rk x y lb i j o) :
  wpS (model prog w) A E s (qM x y o i j mg p q) (HQ rk x y lb st0) st:=by
 unfold qM
 refine ax9 (I:=fun _=>HI rk x y lb st0) ?_ ?_ ⟨g,i,j,o,_,p,q,rfl,b⟩
 ·rintro t c3 st3 _ _ ⟨q3,i,j,o,mg,p,q,rfl,b3⟩
  obtain ⟨j3,rfl⟩:∃ j3,j=j3+1:=⟨j - 1,by have:=b3.j0; omega⟩
  dsimp only
  split
  ·exact aD5 (wA c hk ox oy sx sy y0 hf q3 b3) fun r _ hr=>by cases r <;> exact hr
  ·exact aD5 (wA c hk ox oy sx sy y0 hf q3 b3) fun r _ hr=>by cases r <;> exact hr
 ·rintro c3 st3 ⟨q3,i,j,o,mg,p,q,rfl,b3⟩
  exact⟨q3,.inr ⟨_,_,_,_,_,_,rfl,b3⟩⟩
theorem aa5 (c:bJ prog w A E s κ Ok rk) {st0:SortSt} (hk:kindOf st0=κ) {x y o:Array Keyed}{i j mg n:Nat}{Q:qL->SortSt->Prop} (ox:aX Ok x) (oy:aX Ok y) (sx:Sd rk x.toList) (sy:Sd rk y.toList) (y0:0 < y.size) (hf:∀ t ∈ x.toList,rk y[0]<=rk t) (g:Gq st0 st) (b:HB rk x y n i j o)
  (h1:∀ r i' j' o' p q st',Gq st0 st'->cO rk x y r->Q (some r,i',j',o',p,q) st') (h2:∀ i' j' o' p q st',Gq st0 st'->HB rk x y (n+1) i' j' o'->Q (none,i',j',o',p,q) st') :
  wpS (model prog w) A E s (qN x y o i j mg) Q st:=by
 have ux:Up rk x 0 x.size:=sx.up 0 _ (as3 _)
 have uy:Up rk y 0 y.size:=sy.up 0 _ (as3 _)
 unfold qN
 refine ax9 (I:=fun t c st'=>Gq st0 st'/\∃ i j o p q,c=(none,i,j,o,p,q)/\HB rk x y (n+t) i j o) ?_ ?_ ⟨g,i,j,o,0,0,rfl,b⟩
 ·rintro t c2 st2 _ ht ⟨q2,i',j',o,p,q,rfl,m,i0,i1,j0,j1,pr⟩
  obtain ⟨i2,rfl⟩:∃ i2,i'=i2+1:=⟨i' - 1,by omega⟩
  obtain ⟨j2,rfl⟩:∃ j2,j'=j2+1:=⟨j' - 1,by omega⟩
  simp only [Nat.add_sub_cancel]
  have hi:i2 < x.size:=by omega
  have hj:j2 < y.size:=by omega
  refine as1 (c9 hj (as1 (c9 hi (as1 (c _ _ (oy _ (av5 hj)) (ox _ (av5 hi)) st2 _ (q2.kd.trans hk) ?_)))))
  by_cases hc:rk y[j2] < rk x[i2]
  ·rw [at0 hc]
   dsimp only
   rw [if_pos rfl]
   have m':=m.x1 hi fun t ht _=>by
    have:=uy t j2 (by omega) (by omega) hj
    rw [bF hj] at this
    omega
   refine as1 (c9 hi ?_)
   by_cases he:(i2 == 0)=true
   ·rw [if_pos he]
    exact as7 (h1 _ _ _ _ _ _ _ q2 (m'.done (.inl (by simpa using he))))
   ·rw [if_neg he]
    have he:i2 ≠ 0:=by simpa using he
    split
    ·exact as7 (h2 _ _ _ _ _ _ q2 ⟨m',by omega,by omega,j0,j1,by omega⟩)
    ·exact as7 ⟨q2,_,_,_,_,_,rfl,m',by omega,by omega,j0,j1,by omega⟩
  ·rw [as0 hc]
   dsimp only
   rw [if_neg at3]
   have m':=m.y1 hj fun t ht _=>by
    have:=ux t i2 (by omega) (by omega) hi
    rw [bF hi] at this
    omega
   refine as1 (c9 hj ?_)
   by_cases he:(j2 == 1)=true
   ·rw [if_pos he]
    exact as7 (h1 _ _ _ _ _ _ _ q2 (m'.frst y0 hf (by simpa using he)))
   ·rw [if_neg he]
    have he:j2 ≠ 1:=by simpa using he
    split
    ·exact as7 (h2 _ _ _ _ _ _ q2 ⟨m',i0,i1,by omega,by omega,by omega⟩)
    ·exact as7 ⟨q2,_,_,_,_,_,rfl,m',i0,i1,by omega,by omega,by omega⟩
 ·rintro c2 st2 ⟨q2,i',j',o,p,q,rfl,m,i0,i1,j0,j1,pr⟩
  exact h2 _ _ _ _ _ _ q2 ⟨m,i0,i1,j0,j1,by omega⟩
theorem aa6 (c:bJ prog w A E s κ Ok rk) (hk:kindOf st=κ) {x y:Array Keyed}{Q:Array Keyed->SortSt->Prop} (ox:aX Ok x) (oy:aX Ok y) (sx:Sd rk x.toList) (sy:Sd rk y.toList) (x0:0 < x.size) (y0:0 < y.size)
  (hf:∀ t ∈ x.toList,rk y[0]<=rk t) (hl:∀ u ∈ y.toList,rk u<=rk x[x.size - 1])
  (h:∀ r st',Gq st st'->cO rk x y r->Q r st'):wpS (model prog w) A E s (qK x y) Q st:=by
 rw [aa3]
 refine as1 (wpS_lift (aC7 ⟨rfl,as1 (c9 (by omega:x.size - 1 < x.size) ?_)⟩))
 have m0:MH rk x.toList y.toList (#[x[x.size - 1]]:Array Keyed).toList.reverse (x.size - 1) y.size:=by
  have mm:MH rk x.toList y.toList [] x.size y.size:=⟨by simp,by rw [av2 (by simp),ax3]; exact sx,by rw [av2 (by simp),ax3]; exact sy⟩
  have e:=kK (x:=x) (i:=x.size - 1) (by omega)
  rw [show x.size - 1+1=x.size by omega] at e
  have:=mm.ofx (Nat.sub_le x.size 1) fun t ht u hu=>?_
  ·rw [<- e] at this; simpa using this
  ·rw [<- e,au2] at hu
   subst hu
   exact hl t (List.mem_of_mem_take ht)
 by_cases e1:(x.size - 1 == 0)=true
 ·rw [if_pos e1]
  exact as7 (h _ st (Gq.refl st) (m0.done (.inl (by simpa using e1))))
 ·rw [if_neg e1]
  have e1:x.size - 1 ≠ 0:=by simpa using e1
  by_cases e2:(y.size == 1)=true
  ·rw [if_pos e2]
   exact as7 (h _ st (Gq.refl st) (m0.frst y0 hf (by simpa using e2)))
  ·rw [if_neg e2]
   have e2:y.size ≠ 1:=by simpa using e2
   refine as1 (wpS_get ?_)
   unfold w5
   refine as1 (aD5 (ax9
    (I:=fun n c st'=>Gq st st'/\∃ i j o mg,c=(none,i,j,o,mg)/\HB rk x y (n+1) i j o)
    (Q:=fun c st'=>Gq st st'/\∃ r i j o mg,c=(some r,i,j,o,mg)/\cO rk x y r) ?_ ?_ ⟨Gq.refl st,_,_,_,_,rfl,m0,by omega,by omega,by omega,by omega,by omega⟩) ?_)
   ·rintro n c1 st1 _ hn ⟨q1,i,j,o,mg,rfl,b⟩
    dsimp only
    refine as1 (aa5 c hk ox oy sx sy y0 hf q1 b (fun r o' i' j' p q st' g md=>as7 ⟨g,r,_,_,_,_,rfl,md⟩) fun i' j' o' p q st' g b'=>?_)
    refine as1 (wpS_lift (aC7 ⟨rfl,?_⟩))
    refine as1 (aD5 (aa4 c hk ox oy sx sy y0 hf g b') ?_)
    rintro c3 st3 ⟨q3,⟨r,i3,j3,o,mg,p,q,rfl,md⟩ | ⟨i3,j3,o,mg,p,q,rfl,b3⟩⟩
    ·exact as7 ⟨q3,r,_,_,_,_,rfl,md⟩
    ·exact as1 (mT q3 fun st4 q4=>as7 ⟨q4,i3,j3,o,_,rfl,b3⟩)
   ·rintro c1 st1 ⟨q1,i,j,o,mg,rfl,b⟩
    have:=b.pr
    exact absurd this (by omega)
   ·rintro c1 st1 ⟨q1,r,i,j,o,mg,rfl,md⟩
    exact as7 (h r _ q1 md)
end
theorem aa7 (i:Nat):mergeAt' i=(do
 let z <- get
 let (some (sa,na,pw),some (sb,nb,_)):=((pendingOf z)[i]?,(pendingOf z)[i+1]?) | unsupported "internal:list.sort.pending"
 set (SortSt.mk' (kindOf z) (arrOf z) (((pendingOf z).setIfInBounds i (sa,na+nb,pw)).eraseIdxIfInBounds (i+1)) (gallopOf z) (failedOf z))
 let some k <- gP false (<- elem' (arrOf z) sb) (arrOf z) sa na 0 | return false
 let (sa,na):=(sa+k,na - k)
 if na == 0 then return true
 let some nb <- gP true (<- elem' (arrOf z) (sa+na - 1)) (arrOf z) sb nb (nb - 1) | return false
 if nb == 0 then return true
 let x:=(arrOf z).extract sa sb
 let y:=(arrOf z).extract sb (sb+nb)
 let m <- if na<=nb then qG x y else qK x y
 modify fun z=>setArr z (m.toList.zipIdx.foldl (fun a (p,j)=>a.setIfInBounds (sa+j) p) (arrOf z))
 return (failedOf (<- get)).isNone):=rfl
variable {rk : Keyed → Int}
theorem aa8 {σ:Type}{M:Model}{A:Around}{E:Value->Shared->Prop}{s:Shared}{a b:σ}{Q:PUnit->σ->Prop} (h:Q ⟨⟩ a):wpS M A E s (set a:StateT σ Sem PUnit) Q b:=by
 unfold wpS; rw [StateT.run_set]; exact as2 ⟨rfl,h⟩
theorem wB (o:Nat):∀ (m:List Keyed) (n:Nat) (a:Array Keyed) (t:Nat),o+n+m.length<=a.size->
  ((m.zipIdx n).foldl (fun a (p,j)=>a.setIfInBounds (o+j) p) a)[t]? = if o+n<=t/\t < o+n+m.length then m[t - (o+n)]? else a[t]?
 | [],n,a,t,_=>by
  show a[t]? = _
  rw [if_neg (fun z=>Nat.not_lt_of_ge z.1 z.2)]
 | p :: m,n,a,t,h=>by
  rw [List.zipIdx_cons,List.foldl_cons]
  have h':o+(n+1)+m.length<=(a.setIfInBounds (o+n) p).size:=by rw [Array.size_setIfInBounds]; simp at h; omega
  have ih:=wB o m (n+1) (a.setIfInBounds (o+n) p) t h'
  refine ih.trans ?_
  have hs:o+n < a.size:=by simp at h; omega
  rw [Array.getElem?_setIfInBounds]
  by_cases e:o+n=t
  ·subst e
   rw [if_neg (by omega),if_pos rfl,if_pos hs,if_pos (by simp),Nat.sub_self]; rfl
  ·rw [if_neg e]
   by_cases c:o+n<=t/\t < o+n+(p :: m).length
   ·rw [if_pos c,if_pos (by simp at c; omega)]
    rw [show t - (o+n)=(t - (o+(n+1)))+1 by omega]; rfl
   ·rw [if_neg c,if_neg (by simp at c ⊢; omega)]
theorem wC {a:Array Keyed}{lo hi:Nat} (u:Up rk a lo hi) (hh:hi<=a.size):Sd rk (a.extract lo hi).toList:=by
 unfold Sd
 rw [ay4]
 intro i j hi' hj hij
 have h2:lo+j < hi:=by simp at hj; omega
 have:=u (lo+i) (lo+j) (by omega) (by omega) h2
 rw [bF (by omega:lo+i < a.size),bF (by omega:lo+j < a.size)] at this
 simpa using this
theorem wD {a:Array Keyed}{lo mid hi:Nat} (u:Up rk a lo mid) (v:Up rk a mid hi) (h0:lo < mid) (h1:mid < hi) (h:Kr rk a (mid - 1)<=Kr rk a mid):Up rk a lo hi:=fun i j hi' hij hj=>by
 rcases av6 j mid with z | z
 ·exact u i j hi' hij z
 ·rcases av6 i mid with y | y
  ·have a1:=u i (mid - 1) hi' (by omega) (by omega)
   have a2:=v mid j (as3 _) z hj
   omega
  ·exact v i j y hij hj
theorem wE {a:Array Keyed}{lo hi t:Nat} (h:t < hi - lo) (hh:hi<=a.size):Kr rk (a.extract lo hi) t=Kr rk a (lo+t):=by
 refine i8 ?_
 rw [Array.getElem?_extract_of_lt (by omega)]
 exact (getElem?_pos a (lo+t) (by omega)).symm
section
variable {κ : SortKind} {a0 : Array Keyed} {pd : Array (Nat × Nat × Nat)} {st : SortSt} {prog : Program} {w : World} {A : Around} {E : Value → Shared → Prop} {s : Shared} {Ok : Keyed → Prop}
theorem aa9 {a m:Array Keyed}{p x e:Nat} (hpx:p<=x) (hxe:x<=e) (he:e<=a.size) (md:cO rk (a.extract p x) (a.extract x e) m) :
  let r:=m.toList.zipIdx.foldl (fun a (q,j)=>a.setIfInBounds (p+j) q) a
  r.Perm a/\(∀ t,(t < p ∨ e<=t)->Kr rk r t=Kr rk a t)/\(∀ t t',p<=t->t<=t'->t' < e->Kr rk r t<=Kr rk r t')/\∀ t,p<=t->t < e->∃ t',p<=t'/\t' < e/\Kr rk r t=Kr rk a t':=by
 intro r
 have ml:m.toList.length=e - p:=by
  rw [md.1.length_eq]; simp; omega
 have g:∀ t,r[t]? = if p<=t/\t < e then m[t - p]? else a[t]?:=fun t=>by
  have:=wB p m.toList 0 a t (by omega)
  rw [show r=(m.toList.zipIdx 0).foldl (fun a (q,j)=>a.setIfInBounds (p+j) q) a from rfl,this]
  simp only [Nat.add_zero,ml,show p+(e - p)=e by omega,az0]
 have ex:(a.extract p x).toList ++ (a.extract x e).toList=(a.toList.take e).drop p:=by
  rw [iB,iB,aE4,aE4,aE4]
  rw [show x=p+(x - p) by omega,<- List.drop_drop,show p+(x - p) - p=x - p by omega,show e - (p+(x - p))=(e - p) - (x - p) by omega]
  have:=av7 (x - p) ((a.toList.drop p).take (e - p))
  rw [List.take_take,aE4,Nat.min_eq_left (by omega)] at this
  exact this
 have rl:r.toList=a.toList.take p ++ (m.toList ++ a.toList.drop e):=by
  apply List.ext_getElem?
  intro t
  rw [az0,g]
  rcases av6 t p with z | z
  ·rw [if_neg (by omega),aA1 (by simp; omega),List.getElem?_take_of_lt z,az0]
  ·rw [aC2 (by simp; omega)]
   have lp:(a.toList.take p).length=p:=by simp; omega
   rw [lp]
   rcases av6 t e with y | y
   ·rw [if_pos ⟨z,y⟩,aA1 (by omega),az0]
   ·rw [if_neg (by omega),aC2 (by omega),ml,List.getElem?_drop,az0]
    congr 1; omega
 have mp:m.toList.Perm ((a.toList.take e).drop p):=ex ▸ md.1
 refine⟨?_,fun t ht=>i8 (by rw [g,if_neg (by omega)]),fun t t' h1 h2 h3=>?_,fun t h1 h2=>?_⟩
 ·refine Array.perm_iff_toList_perm.mpr ?_
  rw [rl]
  have:a.toList=a.toList.take p ++ ((a.toList.take e).drop p ++ a.toList.drop e):=by
   rw [qO _ (by omega:p<=e)]; exact (av7 p _).symm
  conv=>rhs; rw [this]
  exact (mp.append_right _).append_left _
 ·have e1:Kr rk r t=Kr rk m (t - p):=i8 (by rw [g,if_pos (by omega)])
  have e2:Kr rk r t'=Kr rk m (t' - p):=i8 (by rw [g,if_pos (by omega)])
  rw [e1,e2]
  have ms:m.size=e - p:=by rw [<- ml]; simp
  exact md.2.up 0 m.size (as3 _) (t - p) (t' - p) (by omega) (by omega) (by omega)
 ·have e1:Kr rk r t=Kr rk m (t - p):=i8 (by rw [g,if_pos (by omega)])
  have ms:m.size=e - p:=by rw [<- ml]; simp
  have hm:t - p < m.size:=by omega
  have mm:m[t - p] ∈ (a.toList.take e).drop p:=mp.mem_iff.mp (by simp)
  obtain ⟨t',q1,q2,q3,q4⟩:=kJ (rk:=rk) mm
  exact⟨t',q1,q2,by rw [e1,bF hm]; exact q4⟩
theorem ab0 (c:bJ prog w A E s κ Ok rk) (o:aX Ok a0) (b:SB κ a0 pd st) {i sa na pw sb nb pw':Nat}{Q:Bool->SortSt->Prop} (e1:pd[i]? = some (sa,na,pw)) (e2:pd[i+1]? = some (sb,nb,pw')) (hs:sb=sa+na) (n0:0 < na) (m0:0 < nb) (hz:sb+nb<=a0.size)
  (u:Up rk (arrOf st) sa sb) (v:Up rk (arrOf st) sb (sb+nb))
  (h:∀ st',SB κ a0 ((pd.setIfInBounds i (sa,na+nb,pw)).eraseIdxIfInBounds (i+1)) st'->Up rk (arrOf st') sa (sb+nb)->(∀ t,(t < sa ∨ sb+nb<=t)->Kr rk (arrOf st') t=Kr rk (arrOf st) t)->Q true st'):wpS (model prog w) A E s (mergeAt' i) Q st:=by
 have sz:=b.sz
 rw [aa7]
 refine as1 (wpS_get ?_)
 rw [b.pd,e1,e2]
 dsimp only
 refine as1 (aa8 ?_)
 generalize hst:SortSt.mk' (kindOf st) (arrOf st) ((pd.setIfInBounds i (sa,na+nb,pw)).eraseIdxIfInBounds (i+1)) (gallopOf st) (failedOf st)=st1
 have b1:SB κ a0 ((pd.setIfInBounds i (sa,na+nb,pw)).eraseIdxIfInBounds (i+1)) st1:=by rw [<- hst]; exact⟨b.pm,b.kd,b.ok,rfl⟩
 have ar:arrOf st1=arrOf st:=by rw [<- hst]
 have oa:=b.all o
 have hsb:sb < (arrOf st).size:=by omega
 refine as1 (c9 hsb (as1 (iZ c b1.kd (oa _ (av5 hsb)) oa n0 (by omega) (hs ▸ u) fun k k1 k2 k3=>?_)))
 dsimp only
 have k2':∀ t,sa<=t->t < sa+k->Kr rk (arrOf st) t<=Kr rk (arrOf st) sb:=fun t t1 t2=>by
  have:=k2 (t - sa) (by omega)
  rw [j5,au7,show sa+(t - sa)=t by omega] at this
  rw [bF hsb]; exact this
 have k3':∀ t,sa+k<=t->t < sb->Kr rk (arrOf st) sb < Kr rk (arrOf st) t:=fun t t1 t2=>by
  have:=k3 (t - sa) (by omega) (by omega)
  rw [j5,az9,show sa+(t - sa)=t by omega] at this
  rw [bF hsb]; omega
 by_cases ek:(na - k == 0)=true
 ·rw [if_pos ek]
  have ek:na - k=0:=by simpa using ek
  refine as7 (h st1 b1 ?_ fun t _=>by rw [ar])
  rw [ar]
  exact wD u v (by omega) (by omega) (k2' (sb - 1) (by omega) (by omega))
 ·rw [if_neg ek]
  have ek:na - k ≠ 0:=by simpa using ek
  have el:sa+k+(na - k) - 1=sb - 1:=by omega
  rw [el]
  have hsl:sb - 1 < (arrOf st).size:=by omega
  refine as1 (c9 hsl (as1 (iZ c b1.kd (oa _ (av5 hsl)) oa (by omega) (by omega) v fun l l1 l2 l3=>?_)))
  dsimp only
  have l2':∀ t,sb<=t->t < sb+l->Kr rk (arrOf st) t < Kr rk (arrOf st) (sb - 1):=fun t t1 t2=>by
   have:=l2 (t - sb) (by omega)
   rw [j6,au7,show sb+(t - sb)=t by omega] at this
   rw [bF hsl]; exact this
  have l3':∀ t,sb+l<=t->t < sb+nb->Kr rk (arrOf st) (sb - 1)<=Kr rk (arrOf st) t:=fun t t1 t2=>by
   have:=l3 (t - sb) (by omega) (by omega)
   rw [j6,az9,show sb+(t - sb)=t by omega] at this
   rw [bF hsl]; omega
  by_cases en:(l == 0)=true
  ·rw [if_pos en]
   have en:l=0:=by simpa using en
   subst en
   refine as7 (h st1 b1 ?_ fun t _=>by rw [ar])
   rw [ar]
   exact wD u v (by omega) (by omega) (l3' sb (by omega) (by omega))
  ·rw [if_neg en]
   have en:l ≠ 0:=by simpa using en
   have sub:∀ p e,aX Ok ((arrOf st).extract p e):=fun p e z hz=>oa z (by
    have:z ∈ ((arrOf st).extract p e).toList:=Array.mem_toList_iff.mpr hz
    rw [iB] at this
    exact Array.mem_toList_iff.mp (List.mem_of_mem_take (List.mem_of_mem_drop this)))
   have sx:Sd rk ((arrOf st).extract (sa+k) sb).toList:=wC (fun i j h1 h2 h3=>u i j (by omega) h2 h3) (by omega)
   have sy:Sd rk ((arrOf st).extract sb (sb+l)).toList:=wC (fun i j h1 h2 h3=>v i j h1 h2 (by omega)) (by omega)
   have x0:0 < ((arrOf st).extract (sa+k) sb).size:=by simp; omega
   have y0:0 < ((arrOf st).extract sb (sb+l)).size:=by simp; omega
   have hf:∀ t ∈ ((arrOf st).extract (sa+k) sb).toList,rk ((arrOf st).extract sb (sb+l))[0]<=rk t:=fun t ht=>by
    rw [iB] at ht
    obtain ⟨t',q1,q2,q3,q4⟩:=kJ (rk:=rk) ht
    rw [q4,<- bF (rk:=rk) y0,wE (by omega) (by omega)]
    exact Int.le_of_lt (k3' t' q1 q2)
   have hl:∀ t ∈ ((arrOf st).extract sb (sb+l)).toList,rk t<=rk ((arrOf st).extract (sa+k) sb)[((arrOf st).extract (sa+k) sb).size - 1]:=fun t ht=>by
    rw [iB] at ht
    obtain ⟨t',q1,q2,q3,q4⟩:=kJ (rk:=rk) ht
    have e:((arrOf st).extract (sa+k) sb).size=sb - (sa+k):=by simp; omega
    rw [q4,<- bF (rk:=rk) (by omega),wE (by omega) (by omega),e,show sa+k+(sb - (sa+k) - 1)=sb - 1 by omega]
    exact Int.le_of_lt (l2' t' q1 q2)
   have fin:∀ (m:Array Keyed) (st2:SortSt),Gq st1 st2->cO rk ((arrOf st).extract (sa+k) sb) ((arrOf st).extract sb (sb+l)) m->
     wpS (model prog w) A E s (do modify (fun z=>setArr z (m.toList.zipIdx.foldl (fun a (p,j)=>a.setIfInBounds (sa+k+j) p) (arrOf z))); return (failedOf (<- get)).isNone) Q st2:=fun m st2 g md=>by
    have b2:SB κ a0 ((pd.setIfInBounds i (sa,na+nb,pw)).eraseIdxIfInBounds (i+1)) st2:=⟨by rw [g.ar]; exact b1.pm,g.kd.trans b1.kd,g.ok.trans b1.ok,g.pd.trans b1.pd⟩
    have a2:arrOf st2=arrOf st:=g.ar.trans ar
    obtain ⟨r1,r2,r3,r4⟩:=aa9 (by omega) (by omega) (by omega) md
    generalize hr:m.toList.zipIdx.foldl (fun a (q,j)=>a.setIfInBounds (sa+k+j) q) (arrOf st)=r at r1 r2 r3 r4
    refine as1 (wpS_modify (as1 (wpS_get (as7 ?_))))
    have b3:=b2.put (xs:=m.toList.zipIdx.foldl (fun a (q,j)=>a.setIfInBounds (sa+k+j) q) (arrOf st2)) (by rw [a2,hr]; exact r1)
    have er:arrOf (setArr st2 (m.toList.zipIdx.foldl (fun a (q,j)=>a.setIfInBounds (sa+k+j) q) (arrOf st2)))=r:=by rw [<- hr,a2]
    have tr:(failedOf (setArr st2 (m.toList.zipIdx.foldl (fun a (q,j)=>a.setIfInBounds (sa+k+j) q) (arrOf st2)))).isNone=true:=by rw [b3.ok]; rfl
    rw [tr]
    refine h _ b3 (fun i j hi hij hj=>?_) fun t ht=>?_
    ·rw [er]
     have bl:∀ t,sa<=t->t < sa+k->∀ t',sa+k<=t'->t' < sb+l->Kr rk (arrOf st) t<=Kr rk (arrOf st) t':=fun t t1 t2 t' t3 t4=>by
      rcases av6 t' sb with z | z
      ·exact u t t' t1 (by omega) z
      ·have a1:=k2' t t1 t2
       have a2:=v sb t' (as3 _) z (by omega)
       omega
     have br:∀ t,sb+l<=t->t < sb+nb->∀ t',sa+k<=t'->t' < sb+l->Kr rk (arrOf st) t'<=Kr rk (arrOf st) t:=fun t t1 t2 t' t3 t4=>by
      rcases av6 t' sb with z | z
      ·have a1:=u t' (sb - 1) (by omega) (by omega) (by omega)
       have a2:=l3' t t1 t2
       omega
      ·exact v t' t z (by omega) t2
     have blr:∀ t,sa<=t->t < sa+k->∀ t',sb+l<=t'->t' < sb+nb->Kr rk (arrOf st) t<=Kr rk (arrOf st) t':=fun t t1 t2 t' t3 t4=>by
      have a1:=bl t t1 t2 (sb - 1) (by omega) (by omega)
      have a2:=l3' t' t3 t4
      omega
     rcases av6 i (sa+k) with z | z
     ·rw [r2 i (.inl z)]
      rcases av6 j (sa+k) with y | y
      ·rw [r2 j (.inl y)]; exact u i j hi hij (by omega)
      ·rcases av6 j (sb+l) with x | x
       ·obtain ⟨t',q1,q2,q3⟩:=r4 j y x
        rw [q3]; exact bl i hi z t' q1 q2
       ·rw [r2 j (.inr x)]; exact blr i hi z j x hj
     ·rcases av6 j (sb+l) with x | x
      ·exact r3 i j z hij x
      ·rw [r2 j (.inr x)]
       rcases av6 i (sb+l) with y | y
       ·obtain ⟨t',q1,q2,q3⟩:=r4 i z y
        rw [q3]; exact br j x hj t' q1 q2
       ·rw [r2 i (.inr y)]; exact v i j (by omega) hij hj
    ·rw [er]; exact r2 t (by omega)
   by_cases hle:na - k<=l
   ·rw [if_pos hle]
    exact as1 (aa2 c b1.kd (sub _ _) (sub _ _) sx sy x0 y0 hf hl fun m st2 g md=>fin m st2 g md)
   ·rw [if_neg hle]
    exact as1 (aa6 c b1.kd (sub _ _) (sub _ _) sx sy x0 y0 hf hl fun m st2 g md=>fin m st2 g md)
end
def Ch:Nat->List (Nat × Nat)->Nat->Prop
 | a,[],b=>a=b
 | a,(p,n) :: r,b=>p=a/\0 < n/\Ch (a+n) r b
theorem Ch.split:∀ {l l':List (Nat × Nat)}{a b:Nat},Ch a (l ++ l') b->∃ m,Ch a l m/\Ch m l' b
 | [],_,a,_,h=>⟨a,rfl,h⟩
 | (p,n) :: l,l',a,b,h=>by
  obtain ⟨h1,h2,h3⟩:=h
  obtain ⟨m,q1,q2⟩:=Ch.split h3
  exact⟨m,⟨h1,h2,q1⟩,q2⟩
theorem Ch.join:∀ {l l':List (Nat × Nat)}{a m b:Nat},Ch a l m->Ch m l' b->Ch a (l ++ l') b
 | [],_,a,m,_,h,h'=>by cases (show a=m from h); exact h'
 | (p,n) :: l,l',a,m,b,h,h'=>⟨h.1,h.2.1,Ch.join h.2.2 h'⟩
theorem Ch.len:∀ {l:List (Nat × Nat)}{a b:Nat},Ch a l b->a+l.length<=b
 | [],a,b,h=>by cases (show a=b from h); simp
 | (p,n) :: l,a,b,h=>by
  have:=Ch.len h.2.2
  have:=h.2.1
  simp; omega
theorem Ch.mem:∀ {l:List (Nat × Nat)}{a b:Nat}{r:Nat × Nat},Ch a l b->r ∈ l->a<=r.1/\r.1+r.2<=b/\0 < r.2
 | (p,n) :: l,a,b,r,h,hr=>by
  obtain ⟨h1,h2,h3⟩:=h
  have hb:=Ch.len h3
  rcases as4.mp hr with e | e
  ·subst e
   have h1:p=a:=h1
   refine⟨?_,?_,h2⟩
   ·show a<=p; omega
   ·show p+n<=b; omega
  ·have:=Ch.mem h3 e
   exact⟨by omega,this.2.1,this.2.2⟩
def sk (pd:Array (Nat × Nat × Nat)):List (Nat × Nat):=pd.toList.map fun r=>(r.1,r.2.1)
theorem mZ (pd:Array (Nat × Nat × Nat)):(sk pd).length=pd.size:=by simp [sk]
structure Rn (rk:Keyed->Int) (a:Array Keyed) (l:List (Nat × Nat)) (lo:Nat):Prop where
 ch:Ch 0 l lo
 up:∀ r ∈ l,Up rk a r.1 (r.1+r.2)
variable {rk : Keyed → Int} {κ : SortKind} {a0 : Array Keyed} {pd : Array (Nat × Nat × Nat)} {st : SortSt} {prog : Program} {w : World} {A : Around} {E : Value → Shared → Prop} {s : Shared} {Ok : Keyed → Prop}
theorem Rn.same {a b:Array Keyed}{l:List (Nat × Nat)}{lo:Nat} (h:Rn rk a l lo) (e:∀ t,t < lo->Kr rk b t=Kr rk a t):Rn rk b l lo:=⟨h.ch,fun r hr i j hi hij hj=>by
 have:=(h.ch.mem hr).2.1
 rw [e i (by omega),e j (by omega)]
 exact h.up r hr i j hi hij hj⟩
theorem wF (c:bJ prog w A E s κ Ok rk) (o:aX Ok a0) (b:SB κ a0 pd st) {i lo:Nat}{Q:Bool->SortSt->Prop} (hi:i+1 < pd.size) (hz:lo<=a0.size) (rn:Rn rk (arrOf st) (sk pd) lo)
  (h:∀ pd' st',SB κ a0 pd' st'->pd'.size+1=pd.size->Rn rk (arrOf st') (sk pd') lo->(∀ t,lo<=t->Kr rk (arrOf st') t=Kr rk (arrOf st) t)->Q true st'):wpS (model prog w) A E s (mergeAt' i) Q st:=by
 obtain ⟨⟨sa,na,pw⟩,e1⟩:∃ r,pd[i]? = some r:=⟨pd[i],getElem?_pos pd i (by omega)⟩
 obtain ⟨⟨sb,nb,pw'⟩,e2⟩:∃ r,pd[i+1]? = some r:=⟨pd[i+1],getElem?_pos pd (i+1) hi⟩
 have d1:pd.toList=pd.toList.take i ++ (sa,na,pw) :: (sb,nb,pw') :: pd.toList.drop (i+2):=by
  have hl:i < pd.toList.length:=by simp; omega
  have hl2:i+1 < pd.toList.length:=by simpa using hi
  have g1:pd.toList[i]=(sa,na,pw):=by rw [getElem?_pos pd i (by omega)] at e1; simpa using e1
  have g2:pd.toList[i+1]=(sb,nb,pw'):=by rw [getElem?_pos pd (i+1) hi] at e2; simpa using e2
  have:=av7 i pd.toList
  rw [List.drop_eq_getElem_cons hl,List.drop_eq_getElem_cons hl2,g1,g2] at this
  exact this.symm
 have li:(pd.toList.take i).length=i:=by simp; omega
 have d2:((pd.setIfInBounds i (sa,na+nb,pw)).eraseIdxIfInBounds (i+1)).toList=pd.toList.take i ++ (sa,na+nb,pw) :: pd.toList.drop (i+2):=by
  have e:((pd.setIfInBounds i (sa,na+nb,pw)).eraseIdxIfInBounds (i+1)).toList=(pd.toList.set i (sa,na+nb,pw)).eraseIdx (i+1):=by
   unfold Array.eraseIdxIfInBounds
   rw [dif_pos (by rw [Array.size_setIfInBounds]; exact hi),Array.toList_eraseIdx,Array.toList_setIfInBounds]
  rw [e]
  conv=>lhs; rw [d1]
  rw [List.set_append_right _ _ (by omega),li,Nat.sub_self,List.set_cons_zero,List.eraseIdx_append_of_length_le (by omega),li,show i+1 - i=1 by omega]
  rfl
 have k1:sk pd=(pd.toList.take i).map (fun r=>(r.1,r.2.1)) ++ (sa,na) :: (sb,nb) :: (pd.toList.drop (i+2)).map (fun r=>(r.1,r.2.1)):=by
  unfold sk; conv=>lhs; rw [d1]
  simp
 have k2:sk ((pd.setIfInBounds i (sa,na+nb,pw)).eraseIdxIfInBounds (i+1))=(pd.toList.take i).map (fun r=>(r.1,r.2.1)) ++ (sa,na+nb) :: (pd.toList.drop (i+2)).map (fun r=>(r.1,r.2.1)):=by
  unfold sk; rw [d2]
  simp
 have ch:=rn.ch
 rw [k1] at ch
 obtain ⟨m,c1,c2⟩:=ch.split
 obtain ⟨f1,f2,f3,f4,f5⟩:=c2
 have f1:sa=m:=f1
 have f3:sb=m+na:=f3
 have up:=rn.up
 rw [k1] at up
 have lo2:=f5.len
 refine ab0 c o b e1 e2 (by omega) f2 f4 (by omega) (by have:=up (sa,na) (by simp); rw [f3,<- f1]; exact this) (up (sb,nb) (by simp)) fun st' b' u' fr=>h _ st' b' ?_ ⟨?_,?_⟩ fun t ht=>fr t (by omega)
 ·rw [<- mZ,<- mZ,k1,k2]; simp; omega
 ·rw [k2]
  refine c1.join ⟨f1,by omega,?_⟩
  rw [<- Nat.add_assoc]; exact f5
 ·intro r hr
  rw [k2] at hr
  rcases ay0.mp hr with z | z
  ·intro p q h1 h2 h3
   have:=(c1.mem z).2.1
   rw [fr p (by omega),fr q (by omega)]
   exact up r (aD1 _ z) p q h1 h2 h3
  ·rcases as4.mp z with z | z
   ·subst z
    show Up rk (arrOf st') sa (sa+(na+nb))
    rw [show sa+(na+nb)=sb+nb by omega]; exact u'
   ·intro p q h1 h2 h3
    have:=(f5.mem z).1
    rw [fr p (by omega),fr q (by omega)]
    exact up r (au8 _ (au4 _ (au4 _ z))) p q h1 h2 h3
abbrev RS:=Option Unit × Nat
def wG (sz pw:Nat):StateT SortSt Sem (Option Unit × Unit):=forIn [0:sz] ((none,()):Option Unit × Unit) fun _ _=>do
 let z <- get
 match (if (pendingOf z).size > 1 then (pendingOf z)[(pendingOf z).size - 2]? else none) with
 | some (_,_,o)=>if o<=pw then pure (.done (none,())) else do
   let q <- mergeAt' ((pendingOf z).size - 2)
   if (!q)=true then pure (.done (some (),())) else pure (.yield (none,()))
 | _=>pure (.done (none,()))
def jn (sz lo n:Nat):StateT SortSt Sem (ForInStep RS):=do
 let z <- get
 match (pendingOf z).back? with
 | some (s1,n1,_)=>do
  let r <- wG sz (power' sz (2 * s1+n1) (2 * s1+n1+n1+n) sz)
  match r.1 with
  | some u=>pure (.done (some u,lo))
  | none=>do
   modify fun s=>setPending s ((pendingOf s).modify ((pendingOf s).size - 1) fun x=>(x.1,x.2.1,power' sz (2 * s1+n1) (2 * s1+n1+n1+n) sz))
   modify fun s=>setPending s ((pendingOf s).push (lo,n,0))
   pure (.yield (none,lo+n))
 | _=>do
  modify fun s=>setPending s ((pendingOf s).push (lo,n,0))
  pure (.yield (none,lo+n))
def wH (sz mr lo:Nat):StateT SortSt Sem (ForInStep RS):=if lo >= sz then pure (.done (none,lo)) else do
 match <- countRun' lo (sz - lo) with
 | some n=>
  if n < mr then
   liftM (rule "list.sort.binary-insertion")
   let q <- binarySort' lo (min (sz - lo) mr) n
   if (!q)=true then pure (.done (some (),lo)) else jn sz lo (min (sz - lo) mr)
  else jn sz lo n
 | _=>pure (.done (some (),lo))
def wI (sz:Nat):StateT SortSt Sem (Option Unit × Unit):=forIn [0:sz] ((none,()):Option Unit × Unit) fun _ _=>do
 let z <- get
 if (pendingOf z).size<=1 then pure (.done (none,())) else do
  let q <- mergeAt' (if ((if (pendingOf z).size - 2 > 0 then (pendingOf z)[(pendingOf z).size - 2 - 1]?.map (·.2.1) else none).any (· < ((pendingOf z)[(pendingOf z).size - 2+1]?.elim 0 (·.2.1))))=true then (pendingOf z).size - 2 - 1 else (pendingOf z).size - 2)
  if (!q)=true then pure (.done (some (),())) else pure (.yield (none,()))
theorem ab1:sortRuns'=(do
 let z <- get
 let r <- (forIn [0:(arrOf z).size] ((none,0):RS) fun _ r=>wH (arrOf z).size (minRun' (arrOf z).size (arrOf z).size 0) r.2)
 match r.1 with
 | some u=>pure u
 | none=>do
  let q <- wI (arrOf z).size
  match q.1 with
  | some u=>pure u
  | none=>pure ()):=by kernel_rfl
theorem wJ {lo nn:Nat} (n1:0 < nn) {pd:Array (Nat × Nat × Nat)}{a:Array Keyed} (r:Rn rk a (sk pd) lo) (u:Up rk a lo (lo+nn)):Rn rk a (sk (pd.push (lo,nn,0))) (lo+nn):=by
 have e:sk (pd.push (lo,nn,0))=sk pd ++ [(lo,nn)]:=by simp [sk]
 refine⟨by rw [e]; exact r.ch.join ⟨rfl,n1,rfl⟩,fun q hq=>?_⟩
 rw [e] at hq
 rcases ay0.mp hq with z | z
 ·exact r.up q z
 ·rw [au2] at z
  subst z
  exact u
theorem wK (c:bJ prog w A E s κ Ok rk) (o:aX Ok a0) (b:SB κ a0 pd st) {lo n:Nat}{Q:ForInStep RS->SortSt->Prop} (n1:1<=n) (n2:lo+n<=a0.size) (rn:Rn rk (arrOf st) (sk pd) lo) (u:Up rk (arrOf st) lo (lo+n))
  (h:∀ pd' st',SB κ a0 pd' st'->Rn rk (arrOf st') (sk pd') (lo+n)->Q (.yield (none,lo+n)) st'):wpS (model prog w) A E s (jn a0.size lo n) Q st:=by
 unfold jn
 refine as1 (wpS_get ?_)
 rw [b.pd]
 cases hb:pd.back? with
 | none=>exact as1 (wpS_modify (as7 (h (pd.push (lo,n,0)) _ ⟨b.pm,b.kd,b.ok,by show (pendingOf st).push _=_; rw [b.pd]⟩ (wJ n1 rn u))))
 | some q=>
  obtain ⟨s1,m1,q3⟩:=q
  dsimp only
  generalize power' a0.size (2 * s1+m1) (2 * s1+m1+m1+n) a0.size=pw
  unfold wG
  refine as1 (aD5 (ax9
   (I:=fun _ r st'=>r=(none,())/\∃ pd,SB κ a0 pd st'/\Rn rk (arrOf st') (sk pd) lo/\Up rk (arrOf st') lo (lo+n))
   (Q:=fun r st'=>r=(none,())/\∃ pd,SB κ a0 pd st'/\Rn rk (arrOf st') (sk pd) lo/\Up rk (arrOf st') lo (lo+n)) ?_ (fun _ _ z=>z) ⟨rfl,pd,b,rn,u⟩) ?_)
  ·rintro t r st4 _ ht ⟨rfl,pd4,b4,r4,u4⟩
   refine as1 (wpS_get ?_)
   rw [b4.pd]
   cases ho:(if pd4.size > 1 then pd4[pd4.size - 2]? else none) with
   | none=>exact as7 ⟨rfl,pd4,b4,r4,u4⟩
   | some z=>
    obtain ⟨z1,z2,z3⟩:=z
    have h1:pd4.size > 1:=by
     by_cases y:pd4.size > 1
     ·exact y
     ·rw [if_neg y] at ho; cases ho
    dsimp only
    by_cases hp:z3<=pw
    ·rw [if_pos hp]
     exact as7 ⟨rfl,pd4,b4,r4,u4⟩
    ·rw [if_neg hp]
     refine as1 (wF c o b4 (by omega) (by omega) r4 fun pd5 st5 b5 _ r5 f5=>?_)
     exact as7 ⟨rfl,pd5,b5,r5,fun i j hi hij hj=>by rw [f5 i hi,f5 j (by omega)]; exact u4 i j hi hij hj⟩
  ·rintro r st4 ⟨rfl,pd4,b4,r4,u4⟩
   refine as1 (wpS_modify (as1 (wpS_modify (as7 ?_))))
   have e:sk (pd4.modify (pd4.size - 1) fun x=>(x.1,x.2.1,pw))=sk pd4:=by
    unfold sk
    rw [Array.toList_modify]
    apply List.ext_getElem?
    intro t
    rw [au9,au9,List.getElem?_modify]
    cases pd4.toList[t]? with
    | none=>simp
    | some v=>by_cases y:pd4.size - 1=t <;> simp [y]
   refine h ((pd4.modify (pd4.size - 1) fun x=>(x.1,x.2.1,pw)).push (lo,n,0)) _ ⟨b4.pm,b4.kd,b4.ok,?_⟩ (wJ n1 (by rw [e]; exact r4) u4)
   show ((pendingOf st4).modify ((pendingOf st4).size - 1) fun x=>(x.1,x.2.1,pw)).push _=_
   rw [b4.pd]
theorem ab2 (c:bJ prog w A E s κ Ok rk) (o:aX Ok a0) (b:SB κ a0 #[] st) {Q:Unit->SortSt->Prop} (h2:1<=a0.size)
  (h:∀ st',(arrOf st').Perm a0->failedOf st'=none->Up rk (arrOf st') 0 a0.size->Q () st'):wpS (model prog w) A E s sortRuns' Q st:=by
 rw [ab1]
 refine as1 (wpS_get ?_)
 rw [b.sz]
 generalize minRun' a0.size a0.size 0=mr
 refine as1 (aD5 (ax9
  (I:=fun x r st'=>∃ lo pd,r=(none,lo)/\x<=lo/\lo<=a0.size/\SB κ a0 pd st'/\Rn rk (arrOf st') (sk pd) lo)
  (Q:=fun r st'=>∃ pd,r=(none,a0.size)/\SB κ a0 pd st'/\Rn rk (arrOf st') (sk pd) a0.size) ?_ ?_ ⟨0,#[],rfl,as3 _,ay8 _,b,⟨rfl,fun r hr=>absurd hr (by simp [sk])⟩⟩) ?_)
 ·rintro x r st1 _ hx ⟨lo,pd,rfl,xl,lz,b1,rn⟩
  unfold wH
  dsimp only
  by_cases hd:lo >= a0.size
  ·rw [if_pos hd]
   have e:lo=a0.size:=by omega
   subst e
   exact as7 ⟨pd,rfl,b1,rn⟩
  ·rw [if_neg hd]
   refine as1 (Z5 c o b1 (by omega) (by omega) fun n st2 b2 n1 n2 u2 l2=>?_)
   have rn2:=rn.same l2
   dsimp only
   by_cases hmr:n < mr
   ·rw [if_pos hmr]
    refine as1 (wpS_lift (aC7 ⟨rfl,?_⟩))
    refine as1 (Z6 c o b2 (by omega) (by omega) u2 fun st3 b3 u3 l3=>?_)
    rw [if_neg (by decide)]
    exact wK c o b3 (by omega) (by omega) (rn2.same l3) u3 fun pd' st' b' r'=>⟨_,pd',rfl,by omega,by omega,b',r'⟩
   ·rw [if_neg hmr]
    exact wK c o b2 n1 (by omega) rn2 u2 fun pd' st' b' r'=>⟨lo+n,pd',rfl,by omega,by omega,b',r'⟩
 ·rintro r st1 ⟨lo,pd,rfl,xl,lz,b1,rn⟩
  have e:lo=a0.size:=by omega
  subst e
  exact⟨pd,rfl,b1,rn⟩
 ·rintro r st1 ⟨pd,rfl,b1,rn⟩
  dsimp only
  unfold wI
  refine as1 (aD5 (ax9
   (I:=fun t r st'=>r=(none,())/\∃ pd,SB κ a0 pd st'/\Rn rk (arrOf st') (sk pd) a0.size/\(pd.size+t<=a0.size ∨ pd.size<=1))
   (Q:=fun r st'=>r=(none,())/\∃ pd,SB κ a0 pd st'/\Rn rk (arrOf st') (sk pd) a0.size/\pd.size<=1) ?_ ?_ ⟨rfl,pd,b1,rn,.inl (by have:=rn.ch.len; rw [mZ] at this; omega)⟩) ?_)
  ·rintro t r st2 _ ht ⟨rfl,pd,b2,rn2,pr⟩
   refine as1 (wpS_get ?_)
   rw [b2.pd]
   by_cases h1:pd.size<=1
   ·rw [if_pos h1]
    exact as7 ⟨rfl,pd,b2,rn2,h1⟩
   ·rw [if_neg h1]
    refine as1 (wF c o b2 ?_ (as3 _) rn2 fun pd' st3 b3 sz3 rn3 _=>?_)
    ·split <;> split <;> omega
    ·exact as7 ⟨rfl,pd',b3,rn3,by omega⟩
  ·rintro r st2 ⟨rfl,pd,b2,rn2,pr⟩
   exact⟨rfl,pd,b2,rn2,by omega⟩
  ·rintro r st2 ⟨rfl,pd,b2,rn2,pr⟩
   refine as7 (h st2 b2.pm b2.ok ?_)
   have ch:=rn2.ch
   have up:=rn2.up
   rw [<- mZ] at pr
   cases e:sk pd with
   | nil=>rw [e] at ch; exact absurd (show 0=a0.size from ch) (by omega)
   | cons r l=>
    rw [e] at ch up pr
    have el:l = []:=List.eq_nil_of_length_eq_zero (by have:=pr; rw [aB9] at this; omega)
    subst el
    obtain ⟨p,n⟩:=r
    obtain ⟨q1,q2,q3⟩:=ch
    have q1:p=0:=q1
    have q3:0+n=a0.size:=q3
    subst q1
    have:=up (0,n) (by simp)
    rw [<- q3]; exact this
end SO
namespace L2
open PySem PySem.Spec PyProof.Rows SO
abbrev dE (h:Heap) (a:Addr) (vs:List Value):Heap:=((h.update a (Obj.mapSeq fun _=>#[])).push (seqObj "tuple" vs.toArray 0)).push (seqObj "list" #[] 0)
abbrev dM (h:Heap) (vs:List Value):Heap:=((h.push (seqObj "list" #[] 0)).update h.objs.size (Obj.mapSeq (· ++ vs.toArray))).push (seqObj "list" vs.toArray 0)
theorem ab3 {h:Heap}{vs:List Value}{b:Addr}{o:Obj} (e:h.get? b=some o):(dM h vs).get? b=some o:=by
 have l:=as8 e
 refine ar7 _ ?_
 rw [Heap.get?_update_ne _ _ _ _ (av4 l)]
 exact ar7 _ e
theorem ab4 {h:Heap}{vs:List Value}{a b:Addr}{o:Obj} (hb:b ≠ a) (e:h.get? b=some o):(dE h a vs).get? b=some o:=by
 refine ar7 _ (ar7 _ ?_)
 rw [Heap.get?_update_ne _ _ _ _ hb]; exact e
theorem ab5 {prog:Program}{w:World}{A:Around}{E:Value->Shared->Prop}{s:Shared}{a:Addr}{vs:List Value}{n:Nat}{P:PySem.Fin->Shared->Prop}{κ:SortKind}{Ok:Keyed->Prop}{rk:Keyed->Int}
  (e:s.heap.get? a=some (seqObj "list" vs.toArray n)) (h2:2<=vs.length) (big:vs.length<=sizeLine)
  (hk:∀ Q:SortKind->Shared->Prop,Q κ { s with heap:=dE s.heap a vs }->wpAny (model prog w) A (keyKind' vs.toArray) Q E { s with heap:=dE s.heap a vs })
  (c:bJ prog w A E { s with heap:=dE s.heap a vs } κ Ok rk) (o:∀ v ∈ vs,Ok (v,v))
  (q:∀ out:List Value,out.Perm vs->out.Pairwise (fun u v=>rk (u,u)<=rk (v,v))->P (.done (.ret .none)) { s with heap:=sortedHeap s.heap a vs out.toArray }):wpAny (model prog w) A (Builtin.«list.sort» ⟨[.ref a],[]⟩) P E s:=by
 have la:=as8 e
 have cc : ¬ vs.toArray.size < 2:=by simpa using h2
 obtain ⟨k,ek⟩:∃ k,(s.heap.update a (Obj.mapSeq fun _=>#[])).get? a=some (seqObj "list" #[] k):=⟨_,get?_update_seq e fun _=>#[]⟩
 have there:(dE s.heap a vs).get? a=some (seqObj "list" #[] k):=ar7 _ (ar7 _ ek)
 rw [list_sort_plain]
 apply ar6
 apply listItems_at e rfl
 apply ar6
 refine listUpdate_at e rfl ?_ (by simpa using big) (ay8 _)
 apply ar6
 apply seqEpoch_at ek rfl
 apply ar6
 refine wpAny_newTuple ?_ big
 apply ar6
 refine wpAny_newList ?_ (ay8 _)
 apply aB8
 simp only [cc,aD2]
 apply ar6
 refine hk _ ?_
 have zl:(vs.toArray.zip vs.toArray).toList=vs.zip vs:=by simp
 apply ar6
 refine ay1 (ab2 (a0:=vs.toArray.zip vs.toArray) (Q:=fun _ st'=>(arrOf st').Perm (vs.toArray.zip vs.toArray)/\failedOf st'=none/\Up rk (arrOf st') 0 (vs.toArray.zip vs.toArray).size) c (fun x hx=>?_) ⟨Array.Perm.refl _,rfl,rfl,rfl⟩ (by simp; omega) fun st' a1 a2 a3=>⟨a1,a2,a3⟩) ?_ fun _ _ z=>z
 ·have hx':x ∈ vs.zip vs:=by rw [<- zl]; exact Array.mem_toList_iff.mpr hx
  obtain ⟨y1,y2⟩:=mem_zip_self hx'
  have:=o x.1 y2
  have ex:x=(x.1,x.1):=Prod.ext rfl y1.symm
  rw [ex]; exact this
 ·rintro ⟨⟨⟩,st'⟩ s' ⟨rfl,pm,ok,up⟩
  have lp:(arrOf st').toList.Perm (vs.zip vs):=by rw [<- zl]; exact Array.perm_iff_toList_perm.mp pm
  have out:(arrOf st').map (·.2)=((arrOf st').toList.map (·.2)).toArray:=by apply Array.toList_inj.mp; rw [Array.toList_map]
  have op:((arrOf st').toList.map (·.2)).Perm vs:=by
   have:=lp.map (·.2)
   rw [lT] at this; exact this
  have sz:(arrOf st').size=vs.length:=by rw [pm.size_eq]; simp
  dsimp only
  apply ar6
  apply seqEpoch_at there rfl
  apply ar6
  refine listUpdate_at there rfl ?_ (ay8 _) (by rw [Array.size_map,sz]; exact Nat.le_succ_of_le big)
  rw [ok]
  simp only [bne_self_eq_false,aw8,aD2]
  refine as2 ?_
  have hq:=q _ op ?_
  ·rw [<- out] at hq; exact hq
  ·rw [ay9,ay4]
   intro i j hi hj hij
   have hi':i < (arrOf st').size:=by simpa using hi
   have hj':j < (arrOf st').size:=by simpa using hj
   have h1:=up i j (ay8 _) (aA4 hij) (by simp; omega)
   rw [bF hi',bF hj'] at h1
   have dg:∀ x ∈ (arrOf st').toList,(x.2,x.2)=x:=fun x hx=>Prod.ext (mem_zip_self (lp.mem_iff.mp hx)).1.symm rfl
   rw [dg _ (aA3 hi),dg _ (aA3 hj)]
   simpa using h1
theorem ab6 {prog:Program}{w:World}{A:Around}{E:Value->Shared->Prop}{s:Shared}{l:Addr}{vs:List Value}{Q:Value->Shared->Prop}{κ:SortKind}{Ok:Keyed->Prop}{rk:Keyed->Int}
  (hl:s.heap.IsList l vs.toArray) (h2:2<=vs.length) (big:vs.length<=sizeLine)
  (hk:∀ (A:Around) (E:Value->Shared->Prop) (Q:SortKind->Shared->Prop),Q κ { s with heap:=dE (dM s.heap vs) (s.heap.objs.size+1) vs }->wpAny (model prog w) A (keyKind' vs.toArray) Q E { s with heap:=dE (dM s.heap vs) (s.heap.objs.size+1) vs })
  (c:∀ (A:Around) (E:Value->Shared->Prop),bJ prog w A E { s with heap:=dE (dM s.heap vs) (s.heap.objs.size+1) vs } κ Ok rk) (o:∀ v ∈ vs,Ok (v,v))
  (q:∀ out:List Value,out.Perm vs->out.Pairwise (fun u v=>rk (u,u)<=rk (v,v))->Q (.ref (s.heap.objs.size+1)) { s with heap:=sortedAll s.heap vs out.toArray }):wpAny (model prog w) A (call (.builtin "sorted") [.ref l]) Q E s:=by
 apply Calls.call_function_entry kind_sorted plain_sorted entry_sorted (args_sorted1 _)
 simp only [Builtin.«sorted»]
 apply ar6 (m:=checkCount "sorted" 1 1 _)
 apply as2
 apply ar6
 refine collect_list hl ?_ big
 apply ar6
 refine wpAny_newList ?_ big
 have one:((s.heap.push (seqObj "list" #[] 0)).update s.heap.objs.size (Obj.mapSeq (· ++ vs.toArray))).objs.size=s.heap.objs.size+1:=(Heap.size_update _ _ _).trans (size_push' _ _)
 have at1:(dM s.heap vs).get? (s.heap.objs.size+1)=some (seqObj "list" vs.toArray 0):=one ▸ au5 _ rfl
 change wpAny _ _ _ _ _ { s with heap:=dM s.heap vs }
 rw [one]
 apply ar6
 apply aB8
 refine aA2 slot_list_sort ⟨_,at1,rfl⟩ entry_list_sort ?_ (args_list_sort _)
 exact ab5 (s:={ s with heap:=dM s.heap vs }) at1 h2 big (hk _ _) (c _ _) o fun out a1 a2=>⟨_,rfl,as2 ⟨_,rfl,q out a1 a2⟩⟩
def nA (h:Heap) (B:Int) (x:Keyed):Int:=match x.1 with
 | .ref b=>match h.get? b with
  | some ob=>match ob.data with
   | .seq us _=>numOf (us.getD 0 .none) * B+numOf (us.getD 1 .none)
   | _=>0
  | none=>0
 | _=>0
structure gC (h:Heap) (M:Int) (v:Value) (p q:Int):Prop where
 at_:∃ b ob us n,v = .ref b/\h.get? b=some ob/\ob.cls = .type "tuple"/\ob.data = .seq (List.toArray us) n/\IntsAre us [p,q]
 lo : -M<=q
 hi:q<=M
theorem gC.rk {h:Heap}{M B:Int}{x:Keyed}{p q:Int} (z:gC h M x.1 p q):nA h B x=p * B+q:=by
 obtain ⟨b,ob,us,n,e1,e2,_,e4,e5⟩:=z.at_
 cases e5 with
 | cons _ t e6=>cases e6 with
  | cons _ u e7=>cases e7; unfold nA; rw [e1]; dsimp only; rw [e2]; dsimp only; rw [e4]; rfl
theorem wL {p q p' q' M:Int} (h1 : -M<=q) (h2:q<=M) (h3 : -M<=q') (h4:q'<=M):HT.bI [p,q] [p',q']=decide (p * (2 * M+1)+q < p' * (2 * M+1)+q'):=by
 rw [HT.gI]
 have mm:∀ {a b:Int},a < b->a * (2 * M+1)+(2 * M+1)<=b * (2 * M+1):=fun {a b} z=>by
  have:=Int.mul_le_mul_of_nonneg_right (show a+1<=b by omega) (show 0<=2 * M+1 by omega)
  rw [Int.add_mul,Int.one_mul] at this
  exact this
 by_cases e:p=p'
 ·subst e
  rw [if_pos rfl,HT.gI]
  by_cases e2:q=q'
  ·subst e2
   rw [if_pos rfl,HT.oN,as0 (by omega)]
  ·rw [if_neg e2]
   by_cases l:q < q'
   ·rw [at0 l,at0 (by omega)]
   ·rw [as0 l,as0 (by omega)]
 ·rw [if_neg e]
  by_cases l:p < p'
  ·have:=mm l
   rw [at0 l,at0 (by omega)]
  ·have:=mm (show p' < p by omega)
   rw [as0 l,as0 (by omega)]
theorem ab7 {prog:Program}{w:World}{A:Around}{E:Value->Shared->Prop}{s:Shared}{M:Int}:bJ prog w A E s (tuples' true) (fun x=>∃ p q,gC s.heap M x.1 p q) (nA s.heap (2 * M+1)):=by
 rintro x y ⟨p,q,z⟩ ⟨p',q',z'⟩ st Q hk hq
 rw [z.rk,z'.rk] at hq
 rw [<- wL z.lo z.hi z'.lo z'.hi] at hq
 obtain ⟨b,ob,us,n,e1,e2,e3,e4,e5⟩:=z.at_
 obtain ⟨b',ob',us',n',e1',e2',e3',e4',e5'⟩:=z'.at_
 rw [lt'_eq]
 refine as1 (wpS_get ?_)
 rw [hk,e1,e1']
 refine as1 (wpS_lift (wpAny_attempt (PySem.W.kat_lt e2 e4 e2' e4' ?_)))
 have:=uC (prog:=prog) (w:=w) (A:=A) (s:=s) (Q:=fun a s'=>s'=s/\wpS (model prog w) A E s (pure (some a)) Q st) 0 e5 e5' ⟨rfl,as7 hq⟩
 simpa using this
theorem ab8 {vs vs':List Value} (h:vs.Perm vs'):∀ {xs:List V},aF xs vs->∃ xs',xs'.Perm xs/\aF xs' vs':=by
 induction h with
 | nil=>intro xs r; exact⟨xs,List.Perm.refl _,r⟩
 | cons v _ ih=>
  intro xs r
  cases r with
  | cons r t=>
   obtain ⟨xs',p,r'⟩:=ih t
   exact⟨_ :: xs',p.cons _,.cons r r'⟩
 | swap u v l=>
  intro xs r
  cases r with
  | cons r t=>cases t with
   | cons r2 t2=>exact⟨_,List.Perm.swap _ _ _,.cons r2 (.cons r t2)⟩
 | trans _ _ ih1 ih2=>
  intro xs r
  obtain ⟨x1,p1,r1⟩:=ih1 r
  obtain ⟨x2,p2,r2⟩:=ih2 r1
  exact⟨x2,p2.trans p1,r2⟩
theorem wM {α:Type} (f:α->Int):∀ l:List α,∃ M:Int,∀ y ∈ l,-M<=f y/\f y<=M
 | []=>⟨0,fun _ h=>nomatch h⟩
 | x :: l=>by
  obtain ⟨M,h⟩:=wM f l
  refine⟨max M (max (f x) (- f x)),fun y hy=>?_⟩
  rcases as4.mp hy with e | e
  ·subst e; omega
  ·have:=h y e; omega
def wN (K:PySem.W.Frag):List V->Hp->VK->Prop:=fun xs H Q=>∃ (a:Addr) (ys:List V) (key:V->List Int),xs = [.ref a]/\aJ K H a ys/\ys.length<=4096/\(∀ y ∈ ys,∃ b,y = .ref b/\aG K H b ((key y).map V.int)/\(key y).length=2)/\
 ∀ l (zs:List V),H l=none->zs.Perm ys->zs.Pairwise (fun u v=>HT.bI (key v) (key u)=false)->Q (.ref l) (upd H l (.lst zs))
theorem ab9 {X:Cx}:cB X (.builtin "sorted") (wN X.K):=by
 intro pins s σ H xs us Q I r h
 obtain ⟨a,ys,key,rfl,hs,hz4,hk,q⟩:=h
 obtain ⟨u,rfl,ru⟩:=fC r
 cases ru
 obtain ⟨its,rv,p,hz⟩:=I.list hs
 have hl:=rv.length
 have hn:s.heap.objs.size<=s.heap.objs.size+1:=Nat.le_succ _
 by_cases h2:its.length < 2
 ·refine P7 p.isList h2 ?_
  obtain ⟨e,he⟩:=sortedAll_at s.heap its its.toArray
  refine⟨.ref (s.heap.objs.size+1),upd H (s.heap.objs.size+1) (.lst ys),I.laid (t':=s.toks) (fun _ _=>sortedAll_old) hn ⟨hz,its,e,rv,he⟩,rfl,q _ ys (I.hok.fresh hn) (List.Perm.refl _) ?_⟩
  match ys,hl with
  | [],_=>exact List.Pairwise.nil
  | [_],_=>exact List.pairwise_singleton _ _
  | _ :: _ :: _,hl=>simp at hl; omega
 ·obtain ⟨M,hM⟩:=wM (fun y=>(key y).getD 1 0) ys
  have pv:∀ {y:V}{v:Value},aS y v->y ∈ ys->∃ pp qq,key y = [pp,qq]/\gC (dE (dM s.heap its) (s.heap.objs.size+1) its) M v pp qq:=fun {y v} ry hy=>by
   obtain ⟨b,rfl,sq,l2⟩:=hk y hy
   cases ry
   obtain ⟨us,ru,⟨ob,e1,c1,n1,d1⟩,_⟩:=I.tuple sq
   have ia:=jR ru
   have mm:=hM _ hy
   match hkk:key (V.ref b),l2 with
   | [pp,qq],_=>
    rw [hkk] at ia mm
    exact⟨pp,qq,rfl,⟨b,ob,us,n1,rfl,ab4 (av4 (Nat.lt_succ_of_lt (as8 e1))) (ab3 e1),c1,d1,ia⟩,mm.1,mm.2⟩
  have pvs:∀ {xs:List V}{vs:List Value},aF xs vs->(∀ y ∈ xs,y ∈ ys)->∀ v ∈ vs,∃ pp qq,gC (dE (dM s.heap its) (s.heap.objs.size+1) its) M v pp qq:=by
   intro xs vs r
   induction r with
   | nil=>intro _ v hv; cases hv
   | cons rx rt ih=>
    intro hh v hv
    rcases as4.mp hv with z | z
    ·subst z
     obtain ⟨pp,qq,_,z⟩:=pv rx (hh _ au6)
     exact⟨pp,qq,z⟩
    ·exact ih (fun y hy=>hh y (au4 _ hy)) v z
  have firsts:∀ {vs:List Value},(∀ v ∈ vs,∃ pp qq,gC (dE (dM s.heap its) (s.heap.objs.size+1) its) M v pp qq)->∃ fs:List Value,PySem.W.KatTups (dE (dM s.heap its) (s.heap.objs.size+1) its) vs fs/\fs.length=vs.length/\∀ v ∈ fs,∃ i t,v=Value.int i t:=by
   intro vs
   induction vs with
   | nil=>intro _; exact⟨[],PySem.W.KatTups.nil,rfl,fun _ z=>nomatch z⟩
   | cons v vs ih=>
    intro hh
    obtain ⟨fs,t1,t2,t3⟩:=ih fun y hy=>hh y (au4 _ hy)
    obtain ⟨pp,qq,z⟩:=hh v au6
    obtain ⟨b,ob,us,n,rfl,e2,e3,e4,e5⟩:=z.at_
    cases e5 with
    | cons _ t e6=>exact⟨Value.int pp t :: fs,PySem.W.KatTups.cons e2 e3 e4 (by simp) t1,by simp [t2],fun v hv=>(as4.mp hv).elim (fun z=>⟨pp,t,z⟩) (t3 v)⟩
  have allp:=pvs rv fun _ h=>h
  obtain ⟨fs,t1,t2,t3⟩:=firsts allp
  refine ab6 (κ:=tuples' true) (Ok:=fun x=>∃ pp qq,gC (dE (dM s.heap its) (s.heap.objs.size+1) its) M x.1 pp qq) (rk:=nA (dE (dM s.heap its) (s.heap.objs.size+1) its) (2 * M+1)) p.isList (by omega) (by rw [<- hl]; exact hz)
   (fun A E Q hQ=>?_) (fun A E=>ab7 (s:={ s with heap:=dE (dM s.heap its) (s.heap.objs.size+1) its })) (fun v hv=>allp v hv) fun out pm so=>?_
  ·refine PySem.W.kat_kind (T:=.type "int") t1 (by omega) (fun v hv=>?_) (by decide) ?_
   ·obtain ⟨i,t,rfl⟩:=t3 v hv
    exact PySem.W.Looks.now
   ·have eT:(Value.type "int" != Value.type "tuple")=true:=by decide
    rw [eT]; exact hQ
  ·obtain ⟨zs,pz,rz⟩:=ab8 pm.symm rv
   obtain ⟨e,he⟩:=sortedAll_at s.heap its out.toArray
   refine⟨.ref (s.heap.objs.size+1),upd H (s.heap.objs.size+1) (.lst zs),I.laid (t':=s.toks) (fun _ _=>sortedAll_old) hn ⟨by rw [pz.length_eq]; exact hz,out,e,rz,he⟩,rfl,q _ zs (I.hok.fresh hn) pz ?_⟩
   have lz:=rz.length
   rw [ay4]
   intro i j hi hj hij
   have s1:=ay4.mp so i j (by omega) (by omega) hij
   have gi:=p7 i hi rz
   have gj:=p7 j hj rz
   simp only [at2,ar9 hi,ar9 hj,ar9 (show i < out.length by omega),ar9 (show j < out.length by omega),Option.getD_some] at gi gj
   obtain ⟨pi,qi,ki,vi⟩:=pv gi (pz.mem_iff.mp (aA3 hi))
   obtain ⟨pj,qj,kj,vj⟩:=pv gj (pz.mem_iff.mp (aA3 hj))
   rw [gC.rk (x:=(out[i],out[i])) vi,gC.rk (x:=(out[j],out[j])) vj] at s1
   rw [ki,kj,wL vj.lo vj.hi vi.lo vi.hi]
   exact as0 (by omega)
end L2
namespace L2
open PySem PySem.Spec PyProof.Rows
theorem bY.at {P:Program}{w:World}{H:Hp}{h:Heap}{a:Addr}{o:HO} (x:bY P w H h a o):∃ ob,h.get? a=some ob:=by
 cases o with
 | lst xs=>obtain ⟨_,_,_,_,e⟩:=x; exact⟨_,e⟩
 | tup xs=>obtain ⟨_,_,_,⟨_,e,_⟩,_⟩:=x; exact⟨_,e⟩
 | dK kvs=>obtain ⟨_,_,_,_,_,_,_,e,_⟩:=x; exact⟨_,e⟩
 | dT kvs=>obtain ⟨_,_,_,_,_,_,_,e,_⟩:=x; exact⟨_,e⟩
 | set S n=>obtain ⟨_,_,_,_,e,_⟩:=x; exact⟨_,e⟩
 | ins C dx fs=>obtain ⟨_,_,_,e,_⟩:=x; exact⟨_,e⟩
 | own y=>exact x
 | xd fs=>obtain ⟨_,⟨_,_,_,e,_⟩,_⟩:=x; exact⟨_,e⟩
 | rng lo hi=>obtain ⟨_,_,_,e⟩:=x; exact⟨_,e⟩
 | frz ob u=>obtain ⟨e,_⟩:=x; exact⟨_,e⟩
 | tbl ps=>exact⟨_,x⟩
 | met f y=>exact⟨_,x⟩
 | ext φ=>exact x.2.1
structure iC (P:Program) (w:World) (outer:List Env) (H:Hp) (s:Shared) (H':Hp) (B:Heap) (a C:Addr) (s':Shared):Prop where
 os:s'.os=s.os
 bare:AllBare s'.gens
 un:Un (aZ outer) [] H H' s.heap s'.heap
 hok:bG P w H' s'.heap
 fly:∃ a0,Heap.FlyingW B outer a (.ref C) a0 s'.heap
 b0:∀ b o,s.heap.get? b=some o->b ∉ aZ outer->∃ o',B.get? b=some o'
 b1:∀ b o,s.heap.get? b=some o->H b=none->b ∉ aZ outer->B.get? b=some o
 b2:∀ b u o,H' b=some u->s'.heap.get? b=some o->B.get? b=some o
def cP (P:Program) (w:World):eD:=fun outer H s E e s'=>∃ (H':Hp) (B:Heap) (a C:Addr),e = .ref a/\iC P w outer H s H' B a C s'/\E (.ref C) none H'
section
variable {P : Program} {w : World} {outer : List Env} {H H' : Hp} {s s' : Shared} {B h2 : Heap} {a C : Addr}
theorem iC.fresh (f:iC P w outer H s H' B a C s'):H' a=none:=by
 cases q:H' a with
 | none=>rfl
 | some u=>
  obtain ⟨ob,e⟩:=(f.hok a u q).at
  have z:=f.b2 a u ob q e
  obtain ⟨_,_,n,_⟩:=f.fly
  rw [n] at z; cases z
theorem iC.hok2 (f:iC P w outer H s H' B a C s') (k:B.StaysIn h2):bG P w H' h2:=fun b u e=>
 (f.hok b u e).stay (fun c v hc q=>by
  rcases hc with z | z
  ·subst z; exact k _ _ (f.b2 _ _ _ e q)
  ·exact k _ _ (f.b2 _ _ _ z q)) (fun _ q=>q) fun _ _ q=>q
end
section
variable {P : Program} {w : World} {K : PySem.W.Frag} {mg : Str → Option Value} {base : Heap} {N : List Str} {qual : Str} {scope : Scope} {f : Addr} {cd : Value} {A : Around} {outer : List Env} {s₀ : Shared} {H₀ : Hp} {E₀ E₁ : XK}
theorem nB {pins:List (Addr × Obj)}{σ:St}{H:Hp}{s:Shared} (I:a5 (cE (cP P w) P w K mg base N qual scope f cd A outer s₀ H₀ E₀) pins σ H s) {b:Addr}{o:Obj} (e:s₀.heap.get? b=some o) (n:b ∉ aZ outer) :
  b ∉ aZ (envOfC qual scope s₀.heap.objs.size f cd :: outer):=fun z=>by
 rcases as4.mp (I.stkSub b z) with y | y
 ·have l:=as8 e
  have y:b=s₀.heap.objs.size:=y
  exact absurd l (by rw [y]; exact ax6 _)
 ·exact n y
theorem ac0 (hE:∀ c d H',E₁ c d H'->E₀ c d H'):jQ (cP P w) (cE (cP P w) P w K mg base N qual scope f cd A outer s₀ H₀ E₀) E₁:=by
 intro pins σ H s e s' I hx
 obtain ⟨H',B,a,C,e1,fl,q⟩:=hx
 subst e1
 have I':=I.call' fl.os fl.un fl.hok fl.bare (ch:=[]) (fun b z=>absurd z (by simp))
 obtain ⟨a0,fly⟩:=fl.fly
 refine wpAny_leaves_onW I.ok.frames rfl fly fun h' fly' up=>?_
 have slot:∀ b o,s₀.heap.get? b=some o->b ∈ aZ outer->∃ sl,h'.get? b=some { o with slots:=sl }:=fun b o e hb=>by
  obtain ⟨sl,e1⟩:=I'.base.slot b o e (I.ok.frf b hb) hb (fun z=>nomatch z)
  obtain ⟨_,o2,e2,nf⟩:=I.ok.funs.mem hb
  rw [show (cE (cP P w) P w K mg base N qual scope f cd A outer s₀ H₀ E₀).s₀=s₀ from rfl,e] at e2
  cases e2
  obtain ⟨sl',e3⟩:=up b _ e1 nf
  exact⟨sl',e3⟩
 have old:∀ b o,s₀.heap.get? b=some o->H₀ b=none->b ∉ aZ outer->B.get? b=some o:=fun b o e n hb=>
  fl.b1 b o (I.base.keep b o e n hb (fun z=>nomatch z)) (I.base.free b o e n (fun z=>nomatch z)) (nB I e hb)
 have old0:∀ b o,s₀.heap.get? b=some o->b ∉ aZ outer->∃ o',B.get? b=some o':=fun b o e hb=>by
  obtain ⟨o1,e1⟩:=I.base.there b o e (fun z=>nomatch z)
  exact fl.b0 b o1 e1 (nB I e hb)
 refine⟨H',B,a,C,rfl,⟨I'.os,I'.bare,⟨fun b o e n hb _=>fly'.1 _ _ (old b o e n hb),fun b o e n hb _=>slot b o e hb,fun b o e n hx=>I'.base.free b o e n hx,fun b o e _=>?_,I'.base.tups,I'.base.frzs,I'.base.tbls⟩,fl.hok2 fly'.1,⟨a0,fly'⟩,old0,old,fun b u o e h=>?_⟩,hE _ _ _ q⟩
 ·by_cases hb:b ∈ aZ outer
  ·obtain ⟨sl,e1⟩:=slot b o e hb
   exact⟨_,e1⟩
  ·obtain ⟨o',e1⟩:=old0 b o e hb
   exact⟨o',fly'.1 _ _ e1⟩
 ·obtain ⟨ob,e1⟩:=(fl.hok b u e).at
  have e2:=fl.b2 b u ob e e1
  have e3:=fly'.1 _ _ e2
  have h:h'.get? b=some o:=h
  rw [h] at e3; cases e3; exact e2
theorem ac1 {pins:List (Addr × Obj)}{σ:St}{H:Hp}{s:Shared}{h':Heap}{e C:Addr}{args:List Value} (I:a5 (cE (cP P w) P w K mg base N qual scope f cd A outer s₀ H₀ E₀) pins σ H s) (mx:Heap.MadeExcOf s.heap h' e (.ref C) args) (q:E₀ (.ref C) none H) :
  (cE (cP P w) P w K mg base N qual scope f cd A outer s₀ H₀ E₀).xe (.ref e) { s with heap:=h' }:=by
 have tr:∀ b u,H b=some u->b ∉ aZ (envOfC qual scope s₀.heap.objs.size f cd :: outer):=fun b u z n=>by
  rw [I.stkFree b n] at z; cases z
 have inB:∀ b o,s.heap.get? b=some o->b ∉ aZ (envOfC qual scope s₀.heap.objs.size f cd :: outer)->(PySem.W.hideAll s.heap (aZ (envOfC qual scope s₀.heap.objs.size f cd :: outer))).get? b=some o:=fun b o z n=>PySem.W.hideAll_get _ z n
 refine wpAny_leaves_madeW (base:=PySem.W.hideAll s.heap (aZ (envOfC qual scope s₀.heap.objs.size f cd :: outer))) I.ok.frames rfl (fun b o z=>PySem.W.of_hideAll _ z) (PySem.W.funFrames_hide I.stack fun env he b hb=>List.mem_filterMap.mpr ⟨env,he,hb⟩) mx fun h'' t fly _ _ up=>?_
 have slot:∀ b o,s₀.heap.get? b=some o->b ∈ aZ outer->∃ sl,h''.get? b=some { o with slots:=sl }:=fun b o e hb=>by
  obtain ⟨sl,e1⟩:=I.base.slot b o e (I.ok.frf b hb) hb (fun z=>nomatch z)
  obtain ⟨_,o2,e2,nf⟩:=I.ok.funs.mem hb
  rw [show (cE (cP P w) P w K mg base N qual scope f cd A outer s₀ H₀ E₀).s₀=s₀ from rfl,e] at e2
  cases e2
  obtain ⟨sl',e3⟩:=up b _ (mx.keeps _ _ e1) nf
  exact⟨sl',e3⟩
 have old:∀ b o,s₀.heap.get? b=some o->H₀ b=none->b ∉ aZ outer->(PySem.W.hideAll s.heap (aZ (envOfC qual scope s₀.heap.objs.size f cd :: outer))).get? b=some o:=fun b o e n hb=>
  inB b o (I.base.keep b o e n hb (fun z=>nomatch z)) (nB I e hb)
 have old0:∀ b o,s₀.heap.get? b=some o->b ∉ aZ outer->∃ o',(PySem.W.hideAll s.heap (aZ (envOfC qual scope s₀.heap.objs.size f cd :: outer))).get? b=some o':=fun b o e hb=>by
  obtain ⟨o1,e1⟩:=I.base.there b o e (fun z=>nomatch z)
  exact⟨o1,inB b o1 e1 (nB I e hb)⟩
 refine⟨H,_,e,C,rfl,⟨I.os,I.bare,⟨fun b o e n hb _=>fly.1 _ _ (old b o e n hb),fun b o e n hb _=>slot b o e hb,fun b o e n hx=>I.base.free b o e n hx,fun b o e _=>?_,I.base.tups,I.base.frzs,I.base.tbls⟩,fun b u z=>?_,⟨_,fly⟩,old0,old,fun b u o z h=>?_⟩,q⟩
 ·by_cases hb:b ∈ aZ outer
  ·obtain ⟨sl,e1⟩:=slot b o e hb
   exact⟨_,e1⟩
  ·obtain ⟨o',e1⟩:=old0 b o e hb
   exact⟨o',fly.1 _ _ e1⟩
 ·refine (I.hok b u z).stay (fun c v hc y=>?_) (fun _ y=>y) fun _ _ y=>y
  rcases hc with z' | z'
  ·subst z'; exact fly.1 _ _ (inB _ _ y (tr _ _ z))
  ·exact fly.1 _ _ (inB _ _ y (tr _ _ z'))
 ·obtain ⟨ob,e1⟩:=(I.hok b u z).at
  have e2:=inB b ob e1 (tr b u z)
  have e3:=fly.1 _ _ e2
  have h:h''.get? b=some o:=h
  rw [h] at e3; cases e3; exact e2
end
structure j7 (X:Cx) (E:XK):Prop where
 pass:jQ (cP X.prog X.w) X E
 made:∀ (pins:List (Addr × Obj)) (σ:St) (H:Hp) (s:Shared) (h':Heap) (e C:Addr) (args:List Value),a5 X pins σ H s->Heap.MadeExcOf s.heap h' e (.ref C) args->E (.ref C) none H->X.xe (.ref e) { s with heap:=h' }
 own:PassesOwn (model X.prog X.w) X.A X.env X.xe
theorem ac2 {P:Program}{w:World}{K:PySem.W.Frag}{mg:Str->Option Value}{base:Heap}{N:List Str}{qual:Str}{scope:Scope}{f:Addr}{cd:Value}{A:Around}{outer:List Env}{s₀:Shared}{H₀:Hp}{E₀ E₁:XK} (hE:∀ c d H',E₁ c d H'->E₀ c d H') :
  j7 (cE (cP P w) P w K mg base N qual scope f cd A outer s₀ H₀ E₀) E₁:=
 ⟨ac0 hE,fun _ _ _ _ _ _ _ _ I mx q=>ac1 I mx (hE _ _ _ q),PassesOwn.leaving⟩
def wO (E:XK) (C:Addr) (t:TA):TS:=fun _ σ H=>t σ H fun vs H1=>vs.length<=sizeLine/\E (.ref C) none H1
theorem ac3 {X:Cx}{E:XK}{x:Str}{C:Addr}{bm:List Value}{B newId initId:String}{np cpos pos:Pos}{e:Expr}{es:List Expr}{t:TA} (hX:j7 X E) (hc:X.calm=true) (O:OwnCls x C bm newId X.mg X.base) (FB:ExcBaseFacts B newId initId bm) (ha:PA X (e :: es) t) (hg:Gl X x)
  (hd:(x == ("__debug__" : Str))=false:=by decide) (he:starEach (e :: es) X.env=(false,eval e X.env) :: starEach es X.env:=by rfl) (hpl:(backTo cpos (starEach es X.env)).any (·.1)=false:=by rfl) :
  PS X (.Raise (some (.Call (.Name x np) (e :: es) [] cpos)) none pos) (wO E C t):=by
 intro pins s σ H D I h
 obtain ⟨tl,Na,nm,qn,bs,hx,sn,sub,ab,col,dd,k0,k1,k2,k3,k5,mN,hC,hN,hni,T⟩:=O.obj
 refine wpAny_Raise_call_subT (nm:=nm) (q:=qn) (N:=Na) (bs:=bs) (bm:=tl) (hdct:=hx) (sn:=sn) (sub:=sub) (ab:=ab) (col:=col) (dd:=dd) (k0:=k0) (k1:=k1) (k2:=k2) (k3:=k3) (k5:=k5) FB (C:=C) (mN:=mN) (T.hasType FB.hasBase) (I.ok.hd hc) (by rw [he]; show (false || (backTo cpos (starEach es X.env)).any (·.1))=false; rw [hpl]; rfl) hni (jJ I hg O.bound ⟨rfl,?_⟩ hd)
 have h1:=ha cpos pins s σ H _ I h
 rw [he] at h1 ⊢
 refine Calls.evalArgs_plain (ay1 h1 (fun us s2 h2=>?_) fun _ _ y=>y)
 obtain ⟨vs,H2,I2,r,hl,q⟩:=h2
 have r:aF vs us:=r
 exact⟨rfl,by show us.length<=sizeLine; rw [<- r.length]; exact hl,I2.bk _ _ hC,hN.keeps I2.bk,T.keeps I2.bk,fun h' e' mx=>hX.made pins σ H2 s2 h' e' C _ I2 mx q⟩
theorem dQ.okX {P:Program}{w:World}{K:PySem.W.Frag}{mg:Str->Option Value}{base:Heap}{x qual:Str}{st:Stmt}{f:Addr}{fd:FuncData}{N ps:List Str}{k:Nat}{sp:Sp} (F:dQ K x qual st f fd) (S:FnScope N ps (aP st)) (len:∀ vs H Q E,sp vs H Q E->vs.length=ps.length)
  (hbody:∀ (cdv:Value) (A:Around) (outer:List Env) (s:Shared) (H:Hp) (vs:List V) (Q:VK) (E:XK),bE k (A.deeper (envOfC qual (aP st) s.heap.objs.size f cdv))->sp vs H Q E->
   ∃ t,cM (cE (cP P w) P w K mg base N qual (aP st) f cdv A outer s H E) (cW st) t/\t { nx:=fun _ H'=>Q .non H',rt:=Q } (eF N vs) H):cI P w K mg base (cP P w) (k+1) f fd ps sp:=by
 obtain ⟨oc,od,kV,doc,pm,an,cdv,ct,osl,rfl,lk,hcd⟩:=F.ex
 exact tI lk hcd S len fun A outer s H vs Q E hr hsp=>hbody cdv A outer s H vs Q E hr hsp
section
variable {X : Cx} {pins : List (Addr × Obj)} {σ : St} {H H1 H' : Hp} {s s1 s' : Shared} {B h2 : Heap} {a C : Addr}
theorem wP {oe:Obj} (I:a5 X pins σ H1 s1) (fl:iC X.prog X.w X.stack H1 s1 H' B a C s') (st:B.StaysIn h2) (up:s'.heap.UpToSlots h2) (he:h2.get? a=some oe) :
  a5 X pins σ (upd H' a (.frz oe (.own a))) { s' with heap:=h2 }:=by
 obtain ⟨a0,fly⟩:=fl.fly
 have na:B.get? a=none:=fly.2.1
 have nf:a ∉ aZ X.stack:=fun z=>by
  obtain ⟨_,o,e,d⟩:=fly.2.2.1.mem z
  obtain ⟨o2,vs,e2,_,d2,_⟩:=fly.first
  rw [e] at e2; cases e2
  exact d vs d2
 have nb:∀ b o,s1.heap.get? b=some o->b ≠ a:=fun b o e z=>by
  subst z
  obtain ⟨o',e'⟩:=fl.b0 _ o e nf
  rw [na] at e'; cases e'
 have nt:∀ b u,H' b=some u->b ≠ a:=fun b u e z=>by
  subst z; rw [fl.fresh] at e; cases e
 have off:∀ b,b ≠ X.env.locals->b ∉ X.fs->b ∉ aZ X.stack:=fun b n1 n2 z=>(as4.mp (I.stkSub b z)).elim n1 n2
 have slot:∀ b o,s1.heap.get? b=some o->b ∈ aZ X.stack->∃ sl,h2.get? b=some { o with slots:=sl }:=fun b o e hb=>by
  obtain ⟨sl,e1⟩:=fl.un.any e (I.stkFree b hb) (fun z=>nomatch z)
  obtain ⟨_,o2,e2,d⟩:=I.stack.mem hb
  rw [e] at e2; cases e2
  obtain ⟨sl',e3⟩:=up b _ e1 d
  exact⟨sl',e3⟩
 have ns:∀ m,s1.heap.Ns X.env.locals m->h2.Ns X.env.locals m:=fun m hm=>by
  obtain ⟨o,es,ep,e,r⟩:=hm
  obtain ⟨sl,e1⟩:=fl.un.any e I.free (fun z=>nomatch z)
  exact up.ns ⟨_,es,ep,e1,r⟩
 have hok:bG X.prog X.w (upd H' a (.frz oe (.own a))) h2:=fun b u e=>by
  by_cases hb:b=a
  ·subst hb; rw [cD] at e; cases e; exact⟨he,_,he⟩
  ·rw [aT hb] at e
   exact (fl.hok2 st b u e).stay (fun _ _ _ q=>q) (fun c q=>by rw [aT (nt c _ q)]; exact q) fun c xs q=>by rw [aT (nt c _ q)]; exact q
 have bare:=fl.bare
 have un:=fl.un
 have b0:=fl.b0
 have b1:=fl.b1
 have os:=fl.os
 clear fl fly up
 obtain ⟨hh,g,d,t,os'⟩:=s'
 obtain rfl:os'=s1.os:=os
 show a5 X pins σ _ { s1 with heap:=h2,gens:=g,drawn:=d,toks:=t }
 refine I.step (h':=h2) (g':=g) (d':=d) (t':=t) (ch:=[]) (fun _ z=>nomatch z) (fun b o n1 n2 _ e n=>st _ _ (b1 b o e n (off b n1 n2))) (fun b o n1 hb _ e n=>?_) (fun b o _ e n=>by rw [aT (nb b o e)]; exact un.free b o e n (fun z=>nomatch z)) (fun b o _ e=>?_)
  (fun b xs q=>by rw [aT (nt b _ (un.tups b xs q))]; exact un.tups b xs q) (fun b o u q=>by rw [aT (nt b _ (un.frzs b o u q))]; exact un.frzs b o u q) (fun b ps q=>by
   obtain ⟨more,q'⟩:=un.tbls b ps q
   exact⟨more,by rw [aT (nt b _ q')]; exact q'⟩) ns hok bare
 ·by_cases hs:b ∈ aZ X.stack
  ·exact slot b o e hs
  ·exact⟨o.slots,st _ _ (b1 b o e n hs)⟩
 ·by_cases hb:b ∈ aZ X.stack
  ·obtain ⟨sl,e1⟩:=slot b o e hb
   exact⟨_,e1⟩
  ·obtain ⟨o',e1⟩:=b0 b o e hb
   exact⟨o',st _ _ e1⟩
abbrev Cx.suite (X:Cx) (a:Addr):Cx:={ X with A:=X.A.mark (some (.ref a)),calm:=false,xe:=fun _ _=>False }
theorem Cx.Ok.suite {X:Cx} (ok:X.Ok) (a:Addr):(X.suite a).Ok:=
 ⟨ok.mod,ok.kind,ok.glob,ok.blt,ok.above,ok.inj,ok.has,ok.cab,fun z=>Bool.noConfusion z,ok.frames,ok.stk,ok.exf,ok.bs,ok.bsz,ok.noex,ok.exfs,ok.funs,ok.frf⟩
theorem a5.suite (I:a5 X pins σ H s) (a:Addr):a5 (X.suite a) pins σ H s:=⟨I.ok.suite a,I.os,I.bare,I.base,I.loc,I.cell,I.free,I.freeC,I.pin,I.hok,I.len⟩
theorem a5.unsuite (I:a5 (X.suite a) pins σ H s) (ok:X.Ok):a5 X pins σ H s:=⟨ok,I.os,I.bare,I.base,I.loc,I.cell,I.free,I.freeC,I.pin,I.hok,I.len⟩
theorem nC {M:Model}{A:Around}{E:Value->Shared->Prop}{i:Nat}{x:Str}{pos:Pos}{Q:Unit->Shared->Prop} (I:a5 X pins σ H s) (hN:X.N.Nodup) (hi:X.N[i]? = some x) (hk:X.env.scope.names.lookup x=some .local)
  (h:∀ s',a5 X pins (σ.set i none) H s'->Q () s'):wpAny M A (do bindName X.env x .none; unbindBehindTheSuite X.env x pos) Q E s:=by
 obtain ⟨m,hn,hl⟩:=id I.loc
 obtain ⟨oL,_,_,hoL,_⟩:=id hn
 have ab:∀ b o,X.s₀.heap.get? b=some o->b ≠ X.env.locals:=fun b o e=>av4 (as5 (as8 e) I.ok.above)
 refine wpAny_nameGoes_keeps hk hn (by rw [I.ok.kind]; rfl) fun h' v hn' hs=>?_
 refine h _ ⟨I.ok,I.os,I.bare,⟨fun b o e n hb hx=>(hs.2 b (ab b o e)).trans (I.base.keep b o e n hb hx),fun b o e n hb hx=>?_,I.base.free,fun b o e hx=>?_,I.base.tups,I.base.frzs,I.base.tbls⟩,⟨_,hn',fun j y v' e1 e2 e3=>?_⟩,fun y c e=>?_,I.free,I.freeC,fun p hp=>?_,fun b u e=>?_,by simpa using I.len⟩
 ·obtain ⟨sl,e1⟩:=I.base.slot b o e n hb hx
  exact⟨sl,(hs.2 b (ab b o e)).trans e1⟩
 ·obtain ⟨o',e1⟩:=I.base.there b o e hx
  exact⟨o',(hs.2 b (ab b o e)).trans e1⟩
 ·by_cases hj:j=i
  ·subst hj
   have hjl:j < σ.length:=by rw [I.len]; exact (au3.mp hi).1
   rw [ax8 hjl] at e2
   cases e2
  ·rw [au1 (Ne.symm hj)] at e2
   obtain ⟨u',r',q⟩:=hl j y v' e1 e2 e3
   refine⟨u',r',?_⟩
   rcases q with ⟨k,e⟩ | ⟨k,c,e,z⟩
   ·have ny:y ≠ x:=fun z=>hj (nZ hN e1 (z ▸ hi))
    exact .inl ⟨k,by simp [ny,e]⟩
   ·exact .inr ⟨k,c,e,z.sameBut hs (I.cne y c e)⟩
 ·obtain ⟨w',z⟩:=I.cell y c e
  exact⟨w',z.sameBut hs (I.cne y c e)⟩
 ·obtain ⟨e,n,ne,nf,d⟩:=I.pin p hp
  exact⟨(hs.2 p.1 ne).trans e,n,ne,nf,d⟩
 ·refine (I.hok b u e).stay (fun c v hc q=>(hs.2 c fun z=>?_).trans q) (fun _ q=>q) fun _ _ q=>q
  subst z
  rcases hc with z | z
  ·subst z; rw [I.free] at e; cases e
  ·rw [I.free] at z; cases z
theorem ac4 {M:Model}{A:Around}{E:Value->Shared->Prop}{K:PySem.W.Frag}{e C D:Addr}{oe:Obj}{Q:Bool->Shared->Prop} (k:K.In s.heap) (he:s.heap.get? e=some oe) (hc:oe.cls = .ref C) (h1:(PySem.W.clsIn K D).isSome=true) (h2:PySem.W.typeIn K (.ref D)=some (.type "type"))
  (h3:PySem.W.subIn K (.ref D) (.type "BaseException")=some true) (h4:PySem.W.subIn K (.ref C) (.ref D)=some true) (hq:Q true s):wpAny M A (excMatches (.ref e) (.ref D)) Q E s:=by
 obtain ⟨h,g,d,t,os⟩:=s
 have k:K.In h:=k
 have he:h.get? e=some oe:=he
 have l1:PySem.W.Looks M h (isType (.ref D)) true:=by
  unfold PySem.W.clsIn at h1
  split at h1
  ·rename_i c' d' cd' sl' ho
   intro A' Q' E' s' kk q
   unfold isType loadHead
   exact ar6 (wpAny_loadPart (kk _ _ (k _ _ ho)) (as2 q))
  ·cases h1
 have l2:PySem.W.Looks M h (typeOf (.ref D)) (.type "type"):=PySem.W.looks_typeIn k h2
 have l3:PySem.W.Looks M h (isSubtype (.ref D) (.type "BaseException")) true:=PySem.W.looks_subIn k h3
 have l4:PySem.W.Looks M h (isSubtype (.ref C) (.ref D)) true:=PySem.W.looks_subIn k h4
 have l5:PySem.W.Looks M h (typeOf (.ref e)) (.ref C):=hc ▸ (PySem.W.Looks.ld he).andThen .now
 have l6:PySem.W.Looks M h (isInstance (.ref D) (.type "tuple")) false:=l2.andThen (PySem.W.Looks.of_pure tc_notTuple)
 have l7:PySem.W.Looks M h (isExcClass (.ref D)) true:=by
  unfold isExcClass
  exact l1.andThen (by simpa using l3)
 have f:=tc_notTuple
 unfold excMatches
 repeat (first | exact hq | (with_reducible refine l2.at ?_) | (with_reducible refine l7.at ?_) | (with_reducible refine l1.at ?_) | (with_reducible refine l3.at ?_) | (with_reducible refine l5.at ?_) | (with_reducible refine l4.at ?_) | wp_step)
end
def qP (D:cL) (i:Nat):cL:={ nx:=fun σ H=>D.nx (σ.set i none) H,rt:=D.rt,bk:=fun σ H=>D.bk (σ.set i none) H,ct:=fun σ H=>D.ct (σ.set i none) H }
section
variable {X : Cx} {pins : List (Addr × Obj)} {σ : St} {H H1 H' : Hp} {s s1 s' : Shared} {B : Heap} {a C Ch : Addr} {i : Nat} {x n : Str} {np pos hpos : Pos} {b₀ : Stmt} {suite : List Stmt} {ts : TS} {D : cL} {bU : List ExceptHandler}
structure qQ (K:PySem.W.Frag) (Ch:Addr):Prop where
 c1:(PySem.W.clsIn K Ch).isSome=true
 c2:PySem.W.typeIn K (.ref Ch)=some (.type "type")
 c3:PySem.W.subIn K (.ref Ch) (.type "BaseException")=some true
theorem ac5 (I:a5 X pins σ H1 s1) (fl:iC X.prog X.w X.stack H1 s1 H' B a C s') (hstk:X.stack=X.env :: X.outer/\X.env.frame=some X.env.locals) (hg:Gl X x) (hm:X.mg x=some (.ref Ch)) (ct:qQ X.K Ch) (sub:PySem.W.subIn X.K (.ref C) (.ref Ch)=some true)
  (hN:X.N.Nodup) (hi:X.N[i]? = some n) (hl:X.env.scope.names.lookup n=some .local) (hs:cM (X.suite a) (b₀ :: suite) ts) (q:∀ oe:Obj,oe.cls = .ref C->ts (qP D i) (σ.set i (some (.ref a))) (upd H' a (.frz oe (.own a)))) (hd:(x == ("__debug__" : Str))=false) :
  wpAny (model X.prog X.w) X.A (noteFrame (.ref a) X.env) (fun _ s₂=>wpAny (model X.prog X.w) X.A (setFlight (.ref a) none) (fun _ s₃=>wpAny (model X.prog X.w) X.A (handleBy (.ref a) X.env (.ExceptHandler (some (.Name x np)) (some n) (b₀ :: suite) hpos :: bU)) (SP X pins D) X.xe s₃) X.xe s₂) X.xe s':=by
 obtain ⟨a0,fly⟩:=fl.fly
 rw [hstk.1] at fly
 refine wpAny_looks_onW (outer:=X.outer) (L:=X.env.locals) (by rw [I.ok.frames,hstk.1]) hstk.2 fly fun h4 held up4=>wpAny_landsW held fun h5 fly5 up5=>?_
 obtain ⟨o5,v5,e5,c5,_⟩:=fly5.first
 have I5:=wP I fl fly5.1 (up4.trans up5) e5
 refine wpAny_handleBy_cons (codeAny_handlers_test (jJ (I5.suite a) hg hm ?_ hd)) (by intro z; cases z)
 refine ac4 I5.kIn e5 c5 ct.c1 ct.c2 ct.c3 sub ?_
 show codeAny (model X.prog X.w) (X.A.mark (some (.ref a))) (.handlers (.ref a) [.ExceptHandler none (some n) (b₀ :: suite) hpos] X.env) _ _
 refine codeAny_handlers_suite_as (lands_againW fly5 fun h6 fly6 up6=>?_)
 obtain ⟨o6,v6,e6,c6,_⟩:=fly6.first
 have I6:=wP I fl fly6.1 ((up4.trans up5).trans up6) e6
 refine jH I6 hN hi (.inl hl) (v:=.ref a) rfl (fun s7 I7=>?_) (.inr hl)
 refine ay1 (hs pins s7 _ _ (qP D i) (I7.suite a) (q o6 c6)) (fun f s8 h8=>?_) fun _ _ z=>z.elim
 show wpAny (model X.prog X.w) X.A (do bindName X.env n .none; unbindBehindTheSuite X.env n hpos) (fun _ s9=>SP X pins D f s9) X.xe s8
 cases f with
 | next=>obtain ⟨σ',H',J,q⟩:=h8; exact nC (J.unsuite I.ok) hN hi hl fun s9 J9=>⟨_,_,J9,q⟩
 | brk=>obtain ⟨σ',H',J,q⟩:=h8; exact nC (J.unsuite I.ok) hN hi hl fun s9 J9=>⟨_,_,J9,q⟩
 | cont=>obtain ⟨σ',H',J,q⟩:=h8; exact nC (J.unsuite I.ok) hN hi hl fun s9 J9=>⟨_,_,J9,q⟩
 | ret u=>obtain ⟨v,σ',H',J,r,q⟩:=h8; exact nC (J.unsuite I.ok) hN hi hl fun s9 J9=>⟨v,_,_,J9,r,q⟩
end
abbrev TB:=cL->XK->St->Hp->Prop
def XB (X:Cx) (pins:List (Addr × Obj)) (σ:St) (Ex:XK):Value->Shared->Prop:=fun e s'=>∃ H1 s1,a5 X pins σ H1 s1/\cP X.prog X.w X.stack H1 s1 Ex e s'
def PB (X:Cx) (sts:List Stmt) (t:TB):Prop:=
 ∀ (pins:List (Addr × Obj)) (s:Shared) (σ:St) (H:Hp) (D:cL) (Ex:XK),a5 X pins σ H s->t D Ex σ H->wpAny (model X.prog X.w) X.A (execs sts X.env) (SP X pins D) (XB X pins σ Ex) s
def ac6 (sp:Sp) (t:TA):TB:=fun D Ex σ H=>t σ H fun vs H1=>sp vs H1 (fun _ H2=>D.nx σ H2) Ex
def ac7 (c:TT) (t u:TB):TB:=fun D Ex σ H=>c σ H fun b H1=>if b=true then t D Ex σ H1 else u D Ex σ H1
section
variable {X : Cx} {k : Nat} {f Ch : Addr} {fd : FuncData} {ps : List Str} {sp : Sp} {x n : Str} {p cp pos np hpos : Pos} {e c : Expr} {es : List Expr} {t : TA} {tb ub : TB} {tc : TT} {sa sb body : List Stmt} {i : Nat} {b₀ : Stmt} {suite : List Stmt} {ts : TS}
theorem ac8 (F:cI X.prog X.w X.K X.mg X.base (cP X.prog X.w) k f fd ps sp) (hr:bE k X.A) (hg:Gl X x) (hm:X.mg x=some (.ref f)) (hk:PySem.W.keepIn X.K (.ref f)=true) (hb:fP X.K fd ps []) (ha:∀ E,PA (X.wish E) (e :: es) t)
  (hdb:(x == ("__debug__" : Str))=false:=by decide) (he:starEach (e :: es) X.env=(false,eval e X.env) :: starEach es X.env:=by rfl) (hpl:(backTo cp (starEach es X.env)).any (·.1)=false:=by rfl) (hsw:swapsWith (.Call (.Name x p) (e :: es) [] cp) none pos.line X.env=pure false:=by rfl) :
  PB X [.Expr (.Call (.Name x p) (e :: es) [] cp) pos] (ac6 sp t):=by
 intro pins s σ H D Ex I h
 refine wpAny_execs_cons (wpAny_Expr_any ?_ I.quiet hsw)
 refine wpAny_Call_Name_kw (jJ I hg hm ?_ hdb)
 refine PySem.W.callWith_K (h₀:=X.base) I.ok.mod.kin hk (aK (ha (XB X pins σ Ex) cp pins s σ H _ (I.wish _) h) fun us s1 h1=>⟨?_,?_⟩) he hpl
 ·obtain ⟨_,_,I1,_⟩:=h1
  exact I1.kIn
 ·obtain ⟨vs,H1,I1,r,q⟩:=h1
  have I1:=I1.unwish
  have hl:us.length=ps.length:=by rw [<- r.length]; exact F.len _ _ _ _ q
  have bd:=hb s1 us I1.kIn (by rw [ax3]; exact hl)
  rw [ax3] at bd
  refine wpAny_call (codeAny_mono (F.run X.A X.stack s1 H1 ⟨us,[]⟩ us vs _ Ex hr I1.env0 bd r q) fun rs s' hq=>?_)
  cases rs with
  | error ev=>exact⟨H1,s1,I1,hq⟩
  | ok fl=>
   cases fl with
   | ret u=>
    obtain ⟨v,H2,I2,_,q2⟩:=I1.after hq
    exact wpAny_execs_nil ⟨σ,H2,I2,q2⟩
   | next=>exact False.elim hq
   | brk=>exact False.elim hq
   | cont=>exact False.elim hq
theorem ac9 (hc:∀ E,PT (X.wish E) c tc) (ha:PB X sa tb) (hb:PB X sb ub):PB X [.If c sa sb pos] (ac7 tc tb ub):=by
 intro pins s σ H D Ex I h
 refine wpAny_execs_cons (wpAny_If (aK (hc (XB X pins σ Ex) pins s σ H _ (I.wish _) h) fun d s1 h1=>?_))
 obtain ⟨H1,I1,q1⟩:=h1
 have I1:=I1.unwish
 have fin:∀ (fl:Flow) (s2:Shared),SP X pins D fl s2->(match fl with | .next=>wpAny (model X.prog X.w) X.A (execs [] X.env) (SP X pins D) (XB X pins σ Ex) s2 | fl=>SP X pins D fl s2):=fun fl s2 q=>by
  cases fl with
  | next=>exact wpAny_execs_nil q
  | _=>exact q
 cases d with
 | true=>exact aK (ha pins s1 σ H1 D Ex I1 q1) fin
 | false=>exact aK (hb pins s1 σ H1 D Ex I1 q1) fin
def wQ (K:PySem.W.Frag) (Ch:Addr) (i:Nat) (tb:TB) (ts:TS):TS:=fun D σ H=>
 tb D (fun c _ H'=>∀ (a C:Addr) (oe:Obj),c = .ref C->H' a=none->oe.cls = .ref C->PySem.W.subIn K (.ref C) (.ref Ch)=some true/\ts (qP D i) (σ.set i (some (.ref a))) (upd H' a (.frz oe (.own a)))) σ H
theorem ad0 (hstk:X.stack=X.env :: X.outer/\X.env.frame=some X.env.locals) (hb:PB X body tb) (hg:Gl X x) (hm:X.mg x=some (.ref Ch)) (ct:qQ X.K Ch) (hN:X.N.Nodup) (hi:X.N[i]? = some n) (hl:X.env.scope.names.lookup n=some .local) (hs:∀ a,cM (X.suite a) (b₀ :: suite) ts)
  (hd:(x == ("__debug__" : Str))=false:=by decide):PS X (.Try body [.ExceptHandler (some (.Name x np)) (some n) (b₀ :: suite) hpos] [] [] pos) (wQ X.K Ch i tb ts):=by
 intro pins s σ H D I h
 refine wpAny_Try_except (ay1 (hb pins s σ H D _ I h) (fun fl s1 q=>?_) (fun ev s1 q=>?_))
 ·cases fl with
  | next=>exact wpAny_execs_nil q
  | _=>exact q
 ·obtain ⟨H1,s2,I1,H',B,a,C,e1,fl,q⟩:=q
  subst e1
  obtain ⟨a0,fly⟩:=fl.fly
  obtain ⟨o5,_,_,c5,_⟩:=fly.first
  exact ac5 I1 fl hstk hg hm ct (q a C o5 rfl fl.fresh c5).1 hN hi hl (hs a) (fun oe hc=>(q a C oe rfl fl.fresh hc).2) hd
end
end L2
namespace L2
open PySem PySem.Spec PyProof.Rows PySem.Calls Builtin Builtin.ObjectAttr Builtin.Getset_descriptor
structure fI (K:PySem.W.Frag) (D:Addr):Prop where
 cls:(PySem.W.clsIn K D).isSome=true
 ga:PySem.W.findIn K (.ref D) "__getattribute__" = some (some (.builtin "BaseException.__getattribute__"))
 gt:PySem.W.findIn K (.ref D) "__getattr__" = some none
 fc:PySem.W.findIn K (.ref D) "__class__" = some (some (.builtin "object.__class__"))
 fg:PySem.W.specialIn K (.builtin "object.__class__") "__get__" = some (some (.builtin "getset_descriptor.__get__"))
 ft:PySem.W.takesIn K (.builtin "object.__class__")=some true
 ob:PySem.W.mroIn K D (.type "object")=some true
 be:PySem.W.mroIn K D (.type "BaseException")=some true
def gQ (h:Heap) (x D:Addr):Prop:=∃ ox:Obj,h.get? x=some ox/\ox.cls = .ref D
theorem gQ.type {h:Heap}{x D:Addr}{M:Model} (I:gQ h x D):PySem.W.Looks M h (typeOf (.ref x)) (.ref D):=by
 obtain ⟨ox,e,c⟩:=I
 exact c ▸ (PySem.W.Looks.ld e).andThen .now
section
variable {prog : Program} {w : World} {A : Around} {E : Value → Shared → Prop} {K : PySem.W.Frag} {x D : Addr} {h : Heap} {g : Array GenState} {d : Drawn} {t : Nat} {os : OsState}
theorem ad1 {M:Model} (F:fI K D) (k:K.In h):PySem.W.Looks M h (find (.ref x) (.ref D) "__class__") (.bind (.builtin "getset_descriptor.__get__") (.builtin "object.__class__")):=by
 have L1:=PySem.W.looks_findIn (M:=M) k F.fc
 have L2:=PySem.W.looks_specialIn (M:=M) k F.fg
 have L3:=PySem.W.looks_takesIn (M:=M) k F.ft
 unfold find
 refine L1.andThen (PySem.W.Looks.andThen (a:=some (Value.builtin "getset_descriptor.__get__")) L2 ?_)
 refine PySem.W.Looks.andThen (a:=some (Value.builtin "getset_descriptor.__get__",Value.builtin "object.__class__")) ?_ (PySem.W.Looks.tag .now)
 unfold dataDescriptor?
 exact L3.andThen .now
theorem ad2 {tp:Value}{R:Result->Shared->Prop} (F:fI K D) (k:K.In h) (I:gQ h x D) (hq:R (.ok (.ret (.ref D))) ⟨h,g,d,t,os⟩):codeAny (model prog w) A (.call (.builtin "getset_descriptor.__get__") ⟨[.builtin "object.__class__",.ref x,tp],[]⟩) R ⟨h,g,d,t,os⟩:=by
 have L0:=I.type (M:=model prog w)
 have L1:=PySem.W.looks_mroIn (M:=model prog w) k F.ob
 refine codeAny_call_builtin PySem.W.KF.slot_gs.plain PySem.W.KF.entry_gs (PySem.W.KF.slot_gs.check _ _ _ _ _ _ _ _ PySem.W.KF.type_class (PySem.W.KF.args_gs _ _ _) ?_)
 unfold Builtin.«getset_descriptor.__get__» descrGet; rw [PySem.W.dga_obj]
 refine ar6 (as2 ?_); unfold descrGetter descrCheckInstance descrNameAndClass isInstance
 simp only [PySem.W.KF.owner_class]
 repeat lk
 refine⟨Code.quiet_builtin _ (by decide +kernel),codeAny_builtin PySem.W.KF.entry_class ?_⟩; unfold Builtin.«object.__class__» shownTypeOf
 repeat lk
 exact hq
theorem ad3 {M:Model}{nameV:Value}{Q:Unit->Shared->Prop} (F:fI K D) (k:K.In h) (I:gQ h x D) (hq:Q () ⟨h,g,d,t,os⟩):wpAny M A (checkBuiltinCall "BaseException.__getattribute__" ⟨[.ref x,nameV],[]⟩) Q E ⟨h,g,d,t,os⟩:=by
 have kd:builtinKind "BaseException.__getattribute__" = some .slot:=by decide +kernel
 have sp:splitId "BaseException.__getattribute__" = some ("BaseException","__getattribute__"):=by decide +kernel
 have L:PySem.W.Looks M h (isInstance (.ref x) (.type "BaseException")) true:=(I.type (M:=M)).andThen (PySem.W.looks_mroIn k F.be)
 have ha:=PySem.F.args_bexc_ga (.ref x) nameV
 simp only [checkBuiltinCall,kd,sp]
 refine ar6 (L.at ?_)
 repeat (any_goals (first | assumption | wp_step))
theorem ad4 {tk:Tok}{Q:Fin->Shared->Prop} (F:fI K D) (k:K.In h) (I:gQ h x D) (hq:Q (.done (.ret (.ref D))) ⟨h,g,d,t,os⟩):wpAny (model prog w) A (Builtin.«object.__getattribute__» ⟨[.ref x,.str "__class__" tk],[]⟩) Q E ⟨h,g,d,t,os⟩:=by
 have L0:=I.type (M:=model prog w)
 have L1:=ad1 (M:=model prog w) F k (x:=x)
 refine ar6 (as2 (ar6 (as2 (ar6 (L0.at (ar6 (L1.at ?_)))))))
 show wpAny _ _ (holding [_] (call _ _) >>= ret) _ _ _
 exact ar6 (aB8 (wpAny_call (ad2 F k I (as2 hq))))
theorem ad5 {tk:Tok}{R:Result->Shared->Prop} (F:fI K D) (k:K.In h) (I:gQ h x D) (hq:R (.ok (.ret (.ref D))) ⟨h,g,d,t,os⟩):codeAny (model prog w) A (.call (.builtin "BaseException.__getattribute__") ⟨[.ref x,.str "__class__" tk],[]⟩) R ⟨h,g,d,t,os⟩:=
 codeAny_call_builtin PySem.F.excAttr_ValueError.ga.plain PySem.F.entry_bexc_ga (ad3 F k I (ad4 F k I hq))
theorem ad6 {Q:Option Value->Shared->Prop} (F:fI K D) (k:K.In h) (I:gQ h x D) (hq:Q (some (.ref D)) ⟨h,g,d,t+1,os⟩):wpAny (model prog w) A (getAttr? (.ref x) "__class__") Q E ⟨h,g,d,t,os⟩:=by
 have L0:=I.type (M:=model prog w)
 have L1:=PySem.W.looks_findIn (M:=model prog w) k F.ga
 have L2:=PySem.W.looks_findIn (M:=model prog w) k F.gt
 have f3:=PySem.F.excAttr_ValueError.ga.bind (.ref x)
 unfold getAttr? getAttrBy? getAttrBy
 refine ar6 (wpAny_mkText (ar6 (wpAny_attempt (aB8 (ar6 (L0.at (ar6 (L1.at ?_))))))))
 have nx:(onTheHeap (Value.ref D) && Value.builtin "BaseException.__getattribute__" == Value.builtin "object.__getattribute__")=false:=by
  rw [show (Value.builtin "BaseException.__getattribute__" == Value.builtin "object.__getattribute__")=false by decide +kernel,Bool.and_false]
 dsimp only
 rw [if_neg (by rw [nx]; decide)]
 unfold getAttrByItsOwn hookBefore
 repeat (any_goals (first | assumption | (with_reducible refine L2.at ?_) | wp_step))
 exact ad5 F k I (PySem.W.handed_on rfl (as2 hq))
end
theorem ad7 {K:PySem.W.Frag}{x D:Addr} (F:fI K D):PySem.W.KitX K (.ref x) (.ref D) (fun h=>gQ h x D) where
 ty:=fun _ _ _ I=>I.type
 it:=fun M h k _=>by
  have z:=F.cls
  unfold PySem.W.clsIn at z
  split at z
  ·rename_i c' d' cd' sl' ho
   intro A' Q' E' s' kk q
   unfold isType loadHead
   exact ar6 (wpAny_loadPart (kk _ _ (k _ _ ho)) (as2 q))
  ·cases z
 ne:=fun h tp dd its n sl k htp=>by
  have z:=F.cls
  refine Bool.eq_false_iff.mpr fun q=>?_
  obtain rfl:D=tp:=Value.ref.inj (beq_iff_eq.mp q)
  unfold PySem.W.clsIn at z
  split at z
  ·rename_i ho
   have y:=(k _ _ ho).symm.trans htp
   cases y
  ·cases z
 ca:=fun {_ _ _ _ _ s} k I q=>by
  obtain ⟨h,g,d,t,os⟩:=s
  exact ad6 F k I q
end L2
namespace Core
open PySem L2 PP
def nD (ns:List Int):Bool:=((ns.zip (ns.drop 1)).map fun p=>decide (p.1 < p.2)).all id
def kin (ws:List Int) (ls:List (Int × Int)) (S:List Int) (h:Int):Bool:=!decide (h ∈ S) && decide (ws.getD h.toNat 0<=(((uE ls h).filter fun x=>decide (x ∈ S)).length:Int))
def nextOf (ws:List Int) (ls:List (Int × Int)) (S:List Int):List Int:=((List.range ws.length).map fun (i:Nat)=>(i:Int)).filter (kin ws ls S)
def kL (ws:List Int) (ls:List (Int × Int)) (S:List Int):Nat->List Int
 | 0=>S
 | k+1=>kL ws ls S k ++ nextOf ws ls (kL ws ls S k)
def after (ws:List Int) (ls:List (Int × Int)) (S:List Int) (m:Nat):List (List Int):=(List.range m).map fun k=>nextOf ws ls (kL ws ls S k)
def cL (ws:List Int) (ls:List (Int × Int)) (ns:List Int) (m:Nat):Prop:=(∀ k < m,nextOf ws ls (kL ws ls ns k) ≠ [])/\nextOf ws ls (kL ws ls ns m) = []
theorem j8 {ns:List Int}{i:Nat}{x:PV} (h:(intz ns)[i]? = some x):∃ n,x = .int n/\ns[i]? = some n:=by
 rw [au9] at h
 cases e:ns[i]? with
 | none=>rw [e] at h; cases h
 | some n=>rw [e] at h; exact⟨n,(av0 h).symm,rfl⟩
theorem qR {lo:Int}{n i:Nat}{x:PV} (h:(eU lo n)[i]? = some x):x = .int (lo+i)/\i < n:=by
 have hi:i < n:=by
  have:=(au3.mp h).1
  rwa [dZ] at this
 rw [uX hi] at h
 exact⟨(av0 h).symm,hi⟩
def rng (n:Nat):List Int:=(List.range n).map fun (i:Nat)=>(i:Int)
theorem gR (n:Nat):(rng n).length=n:=by unfold rng; rw [at4,List.length_range]
theorem j9 {n:Nat}{x:Int}:x ∈ rng n ↔ 0<=x/\x < (n:Int):=by
 unfold rng
 rw [az5]
 constructor
 ·rintro ⟨i,hi,rfl⟩
  have:=List.mem_range.mp hi
  omega
 ·intro h
  exact⟨x.toNat,List.mem_range.mpr (by omega),by omega⟩
theorem qS {α:Type}{l:List α}{p:α->Bool}{i:Nat}{x:α} (h:l[i]? = some x):(l.take (i+1)).filter p=(l.take i).filter p ++ (if p x=true then [x] else []):=by
 rw [aD6,h,List.filter_append]
 congr 1
 cases e:p x <;> simp [e]
theorem wR (a:List Int):(intz a).length=a.length:=at4 _
def qT (ws:List Int) (ls:List (Int × Int)):PV:=.tup [.tup (intz ws),.tup (ls.map fun l=>.tup [.int l.1,.int l.2])]
def e9 (x:PV) (ns:List Int):Prop:=x = .tup (intz ns) ∨ x = .lst (intz ns)
theorem e9.seq {x:PV}{ns:List Int} (h:e9 x ns):fW x=some (intz ns):=by rcases h with rfl | rfl <;> rfl
theorem e9.seqT {x:PV}{ns:List Int} (h:e9 x ns):seqT x=some (intz ns):=by rcases h with rfl | rfl <;> rfl
theorem gD:∀ (ls:List (Int × Int)),flats (ls.map fun l=>PV.tup [.int l.1,.int l.2])=true
 | []=>rfl
 | l :: r=>by
  show (flat (.tup [.int l.1,.int l.2]) && flats (r.map fun l=>PV.tup [.int l.1,.int l.2]))=true
  rw [gD r]; rfl
theorem ad8 (ws:List Int) (ls:List (Int × Int)):flat (qT ws ls)=true:=by
 show flats [.tup (intz ws),.tup (ls.map fun l=>PV.tup [.int l.1,.int l.2])]=true
 show (flat (.tup (intz ws)) && (flat (.tup (ls.map fun l=>PV.tup [.int l.1,.int l.2])) && true))=true
 show (flats (intz ws) && (flats (ls.map fun l=>PV.tup [.int l.1,.int l.2]) && true))=true
 rw [jT,gD]; rfl
theorem ad9 (ns:List Int):flat (.tup (intz ns))=true:=jT ns
abbrev eB (t:aM) (N:List Str) (p:bL):Prop:=∀ xs Q,p xs Q->t { nx:=fun _=>Q .non,rt:=Q } (cZ N xs)
def ae0:bL:=fun xs Q=>∃ x ns,xs = [x]/\e9 x ns/\ns.length<=1000/\Q (.bl (nD ns))
def inB (n:Nat) (x:Int):Bool:=decide (0<=x) && decide (x < (n:Int))
theorem ae1 {x:PV}{ns:List Int} (h:e9 x ns):(Slot.sh (flat x) x).tag = .rd->flat x=true:=by
 cases flat x <;> intro z <;> cases z
theorem e9.noscr {x:PV}{ns:List Int} (h:e9 x ns):∀ ms,([x]:List PV) ≠ [.scr ms]:=by
 rcases h with rfl | rfl <;> intro ms z <;> cases z
structure DS (ps:List (aY × PV)) (S:List Int):Prop where
 has:∀ i:Int,(V8 ps (Sum.inl i:aY)).isSome=decide (i ∈ S)
 len:ps.length<=S.length
 fl:flats (ps.map (·.2))=true
theorem ae2 {ws:List Int}{h:Int} (h0:0<=h) (h1:h < (ws.length:Int)):atI (intz ws) h=some (.int (ws.getD h.toNat 0)):=by
 refine P9 h0 ?_
 have:h.toNat < ws.length:=by omega
 rw [au9,at2,ar9 this]; rfl
def tups (rs:List (List Int)):List PV:=rs.map fun r=>PV.tup (intz r)
theorem ae3 (g:Tg) (n:Int):Nw g (.int n):=by cases g <;> first | exact trivial | rfl
def kM (x:PV) (ns:List Int):Prop:=x = .scr ns ∨ x = .lst (intz ns)
theorem kM.seq {x:PV}{ns:List Int} (h:kM x ns):fW x=some (intz ns):=by rcases h with rfl | rfl <;> rfl
theorem kM.len {x:PV}{ns:List Int} (h:kM x ns):m7 x=some ns.length:=by
 rcases h with rfl | rfl
 ·rfl
 ·show some (intz ns).length=_
  rw [wR]
def iD:bL:=fun xs Q=>∃ x ns k,xs = [x,.int k]/\kM x ns/\0<=k/\Q (.int (ns.getD k.toNat 0))
def wS:aM:=(aN (c8 (aR (iT (a6 1) (aH fX (a7 (a6 0) aC)))) (bH (bN (a6 0) (a6 1))) c7)
 (bH (qC (.int 0))))
theorem ae4:eB wS ["script","k"] iD:=by
 rintro xs Q ⟨x,ns,k,rfl,hx,h0,q⟩
 refine⟨_,rfl,_,rfl,_,_,rfl,hx.len,_,_,rfl,rfl,_,rfl,?_⟩
 by_cases h:k < (ns.length:Int)
 ·rw [at0 h]
  exact bK ⟨_,rfl,_,rfl,_,_,_,hx.seq,rfl,ae2 h0 h,ae3 _ _,q⟩
 ·rw [as0 h]
  rw [at2,List.getElem?_eq_none (by omega)] at q
  exact aQ ⟨trivial,q⟩
def aI (ls:List (Int × Int)):List PV:=ls.map fun l=>PV.tup [.int l.1,.int l.2]
theorem jA (ls:List (Int × Int)):(aI ls).length=ls.length:=at4 _
def bW (l m:Int × Int):Prop:=l.1 < m.1 ∨ (l.1=m.1/\l.2 < m.2)
structure gS (n:Int) (ls:List (Int × Int)) (a b:Int):Prop where
 inn:∀ l ∈ ls,0<=l.1/\l.1 < l.2/\l.2 < n
 ord:ls.Pairwise bW
 low:∀ l ∈ ls,bW l (a,b)
theorem gS.mono {n a b a' b':Int}{ls:List (Int × Int)} (h:gS n ls a b) (m:a < a' ∨ (a=a'/\b<=b')):gS n ls a' b':=
 ⟨h.inn,h.ord,fun l hl=>by have:=h.low l hl; unfold bW at *; dsimp only at *; omega⟩
theorem gS.add {n a b:Int}{ls:List (Int × Int)} (h:gS n ls a b) (h0:0<=a/\a < b/\b < n):gS n (ls ++ [(a,b)]) a (b+1):=by
 refine⟨fun l hl=>?_,?_,fun l hl=>?_⟩
 ·rcases ay0.mp hl with hl | hl
  ·exact h.inn l hl
  ·rw [au2.mp hl]; exact h0
 ·exact av3.mpr ⟨h.ord,List.pairwise_singleton _ _,fun l hl m hm=>by rw [au2.mp hm]; exact h.low l hl⟩
 ·rcases ay0.mp hl with hl | hl
  ·have:=h.low l hl; unfold bW at *; dsimp only at *; omega
  ·rw [au2.mp hl]; unfold bW; dsimp only; omega
abbrev si (n:Int):Option Slot:=some (.sh true (.int n))
def nE:bL:=fun xs Q=>∃ i,xs = [.int i]/\Q (.bl true)
def wT (K:PySem.W.Frag):aM:=(bH (hZ (eV K "int" (a6 0)) (pF (eV K "bool" (a6 0)))))
theorem e9.len {x:PV}{ns:List Int} (h:e9 x ns):m7 x=some ns.length:=by
 rcases h with rfl | rfl <;> (show some (intz ns).length=_; rw [wR])
theorem ae5 {K:PySem.W.Frag} (k1:PySem.W.kitOne K (.type "int") (.type "int")=some true) (k2:PySem.W.kitOne K (.type "int") (.type "bool")=some false):eB (wT K) ["found"] nE:=by
 rintro xs Q ⟨i,rfl,q⟩
 exact⟨_,rfl,_,_,rfl,k1,_,rfl,bK ⟨_,rfl,_,_,rfl,k2,_,rfl,trivial,q⟩⟩
theorem qU {ls:List (Int × Int)}{i:Nat}{x:PV} (h:(aI ls)[i]? = some x):∃ l,x = .tup [.int l.1,.int l.2]/\ls[i]? = some l:=by
 unfold aI at h
 rw [au9] at h
 cases e:ls[i]? with
 | none=>rw [e] at h; cases h
 | some n=>rw [e] at h; exact⟨n,(av0 h).symm,rfl⟩
end Core
namespace PySem
theorem wU:fillsNumberSlot (.type "tuple") "mul" = pure false:=
 fillsNumberSlot_seq (id:="tuple.__mul__") (r:=some (.builtin "tuple.__rmul__")) F.slot_tuple_mul.lookup (by decide +kernel) F.slot_tuple_rmul.lookup (by decide +kernel)
theorem wV:seqRepeat? (.type "tuple")=pure (some (.builtin "tuple.__mul__")):=by
 unfold seqRepeat?
 rw [seqSlot_of (T:="tuple") (name:="__mul__") (id:="tuple.__mul__") F.slot_tuple_mul.lookup (by decide +kernel),seqSlot_of (T:="tuple") (name:="__rmul__") (id:="tuple.__rmul__") F.slot_tuple_rmul.lookup (by decide +kernel)]
 rfl
theorem wW (a:Int) (t:Tok) (l:Addr) (items:Array Value) (n:Nat) (dd:Option Addr) (sl:Array (Option Value)) :
  Meets (Builtin.«int.__rmul__» ⟨[.int a t,.ref l],[]⟩) (fun _ R s=>s.heap.get? l=some { cls:=.type "tuple",dict:=dd,data:=.seq items n,slots:=sl }/\R (.ok (.ret Value.notImplemented)) s):=
 .of_wp fun prog w A R s h=>by obtain ⟨hp,g,d,tk,os⟩:=s; obtain ⟨hl,h⟩:=h; wp_walk; exact⟨_,rfl,h⟩
theorem ae6 (l:Addr) (items:Array Value) (n:Nat) (dd:Option Addr) (sl:Array (Option Value)) (x:Int) (u:Tok) (h0:items.isEmpty=false) (h1:2<=x) (h2:items.size * x.toNat<=sizeLine) (h3:x<=1000000) :
  Meets (Builtin.«tuple.__mul__» ⟨[.ref l,.int x u],[]⟩) (fun _ R s=>s.heap.get? l=some { cls:=.type "tuple",dict:=dd,data:=.seq items n,slots:=sl }/\R (.ok (.ret (Value.ref s.heap.objs.size))) { s with heap:=s.heap.push { cls:=Value.type "tuple",data:=Data.seq (List.foldl (fun x1 x2=>x1 ++ x2) #[] (List.replicate x.toNat items)) } }):=
 .of_wp fun prog w A R s h=>by
  obtain ⟨hp,g,d,tk,os⟩:=s; obtain ⟨hl,h⟩:=h
  have c1:(decide (x < -(2 ^ 63)) || decide (x >= 2 ^ 63))=false:=by
   rw [Bool.or_eq_false_iff]; exact⟨as0 (by omega),as0 (by omega)⟩
  have c2:(items.isEmpty || x == 1)=false:=by rw [h0,Bool.false_or]; exact beq_eq_false_iff_ne.mpr (by omega)
  have c3:(decide (x<=0) || items.isEmpty)=false:=by rw [h0,Bool.or_false]; exact as0 (by omega)
  have hsz:((items.size:Nat):Int) * x=((items.size * x.toNat:Nat):Int):=by rw [Int.natCast_mul]; congr 1; omega
  have hl63:(sizeLine:Nat)<=(2 ^ 63 - 1) / 8:=by decide
  have c4:decide (((items.size:Nat):Int) * x > (2 ^ 63 - 1) / 8)=false:=as0 (by rw [hsz]; omega)
  have c5:Builtin.Tuple.tupleTooMany (((items.size:Nat):Int) * x)=false:=by
   rw [hsz]
   unfold Builtin.Tuple.tupleTooMany
   exact as0 (by omega)
  wp_walk
  refine wpAny_ite_false (by rw [c1]; rfl) ?_
  wp_walk
  refine wpAny_ite_false (by rw [c2]; rfl) ?_
  wp_walk
  refine wpAny_ite_false (by rw [c3]; rfl) ?_
  wp_walk
  refine wpAny_ite_false c4 ?_
  wp_walk
  refine wpAny_ite_false (by rw [c5]; rfl) ?_
  wp_walk
  have f0:∀ (m:Nat) (acc:Array Value),(List.foldl (fun x1 x2=>x1 ++ x2) acc (List.replicate m items)).size=acc.size+m * items.size:=fun m=>by
   induction m with
   | zero=>intro acc; simp
   | succ m ih=>intro acc; rw [ax1,List.foldl_cons,ih,Array.size_append,Nat.succ_mul]; omega
  have c6:decide ((List.foldl (fun x1 x2=>x1 ++ x2) #[] (List.replicate x.toNat items)).size > sizeLine)=false:=as0 (by
   rw [f0 x.toNat #[]]
   have:x.toNat * items.size=items.size * x.toNat:=Nat.mul_comm _ _
   simp only [Array.size_empty]
   omega)
  refine wpAny_ite_false c6 ?_
  wp_walk
  exact⟨_,rfl,h⟩
end PySem
namespace PP
open PySem L2 PyProof.Rows
def ae7 (K:PySem.W.Frag):R2:=fun x y H Q=>∃ l k xs,x = .ref l/\y = .int k/\aG K H l xs/\xs ≠ []/\2<=k/\k<=1000000/\xs.length * k.toNat<=sizeLine/\∀ p,H p=none->Q (.ref p) (upd H p (.tup (List.replicate k.toNat xs).flatten))
theorem ae8 {X:Cx}:b8 X (binaryOp .Mult) (ae7 X.K):=by
 intro pins s σ H x y v u Q I rx ry h
 obtain ⟨l,k,xs,rfl,rfl,hH,hne,h1,h2,hz,q⟩:=h
 cases rx
 obtain ⟨t,rfl⟩:=ry
 obtain ⟨its,r,p,_⟩:=I.tuple hH
 obtain ⟨⟨cls,dd,data,sl⟩,ho,hc,n,hd⟩:=id p
 simp only at hc hd
 subst hc hd
 have hl:=r.length
 have hemp:its.toArray.isEmpty=false:=by
  cases its with
  | nil=>exact absurd (r.nil_iff.mp rfl) hne
  | cons a b=>rfl
 refine wpAny_binaryOp_repeat_ref (T:="tuple") (U:="int") (by decide) ⟨_,ho,rfl⟩ (fun s'=>typeIs_int s' k t) wU F.fills_int_mul F.slot_int_rmul wV F.slot_int_index.lookup
  (call_meets F.slot_int_rmul (typeIs_int s k t) F.entry_int_rmul (F.args_int_rmul_2 _ _) (wW k t l its.toArray n dd sl)
   ⟨ho,rfl,⟨_,ho,rfl⟩,call_meets F.slot_tuple_mul ⟨_,ho,rfl⟩ F.entry_tuple_mul (F.args_tuple_mul_2 _ _) (ae6 l its.toArray n dd sl k t hemp h1 (by rw [ar8,<- hl]; exact hz) h2) ⟨ho,?_⟩⟩)
 have f0:List.foldl (fun x1 x2=>x1 ++ x2) #[] (List.replicate k.toNat its.toArray)=(List.replicate k.toNat its).flatten.toArray:=by
  have:=oR its k.toNat []
  rw [List.nil_append] at this
  exact this
 rw [f0]
 refine⟨.ref s.heap.objs.size,_,I.laid (t':=s.toks) (o:=.tup (List.replicate k.toNat xs).flatten) (fun b ob q=>ar7 _ q) (as3 _) ?_,rfl,q _ (I.hok.fresh (as3 _))⟩
 exact⟨by rw [tW,Nat.mul_comm]; exact hz,_,r.rep k.toNat,IsTup.new _ _,fA.new _ _ rfl⟩
theorem Reps.rep {K:PySem.W.Frag}{M:Addr->Prop}{H:Hp}{us:List V}{xs:List PV} (r:Reps K M H us xs):∀ k:Nat,Reps K M H (List.replicate k us).flatten (List.replicate k xs).flatten
 | 0=>.nil
 | k+1=>by rw [ax1,ax1,aB1,aB1]; exact r.append (Reps.rep r k)
section
variable {X : Cx} {a b e : Expr} {ta tb te : aB} {tr : bS} {pos p2 p3 pos2 : Pos}
def qV:V->Int
 | .int i=>i
 | _=>0
def iE (H:Hp):V->List Int
 | .ref a=>match H a with
  | some (.tup us)=>us.map qV
  | _=>[]
 | _=>[]
theorem ae9 {H:Hp}{a:Addr}{ns:List Int} (h:H a=some (.tup (ns.map V.int))):iE H (.ref a)=ns:=by
 show (match H a with | some (.tup us)=>us.map qV | _=>[])=ns
 rw [h]
 show (ns.map V.int).map qV=ns
 rw [List.map_map]
 exact List.map_id _
theorem wX {K:PySem.W.Frag}{M:Addr->Prop}{H:Hp}:∀ {us:List V}{ys:List (List Int)},Reps K M H us (ys.map fun r=>PV.tup (intz r))->us.map (iE H)=ys/\∀ u ∈ us,∃ b,u = .ref b/\H b=some (.tup ((iE H u).map V.int))
 | _,[],.nil=>⟨rfl,fun u h=>nomatch h⟩
 | _,y :: ys,.cons r t=>by
  obtain ⟨a,us,rfl,h,r1⟩:=r.sqT
  obtain rfl:=r1.ofInts
  obtain ⟨h1,h2⟩:=wX t
  have hk:=ae9 h
  refine⟨by rw [List.map_cons,h1,hk],fun u hu=>?_⟩
  rcases as4.mp hu with rfl | hu
  ·exact⟨a,rfl,by rw [hk]; exact h⟩
  ·exact h2 u hu
theorem wY {K:PySem.W.Frag}{M:Addr->Prop}{H:Hp}:∀ {us:List V},(∀ u ∈ us,∃ b,u = .ref b/\H b=some (.tup ((iE H u).map V.int)))->Reps K M H us ((us.map (iE H)).map fun r=>PV.tup (intz r))
 | [],_=>.nil
 | u :: us,h=>by
  obtain ⟨b,rfl,hb⟩:=h u au6
  exact .cons (.tup hb (Reps.intz _)) (wY fun v hv=>h v (au4 _ hv))
end
def af0 (K:PySem.W.Frag):Sp:=fun vs H Q _=>∃ (a:Addr) (ns:List Int),vs = [.ref a]/\(aG K H a (ns.map V.int) ∨ aJ K H a (ns.map V.int))/\ns.length<=1000/\∀ H',aA H H'->Q (.bl (Core.nD ns)) H'
section
variable {P : Program} {w : World} {K : PySem.W.Frag} {mg : Str → Option Value} {base : Heap} {f : Addr} {fd : FuncData} {k : Nat}
theorem wZ (F:cI P w K mg base dD k f fd ["things"] (af0 K)) (b:fP K fd ["things"] []) (kp:PySem.W.keepIn K (.ref f)=true) (m:mg "rises" = some (.ref f)):Df P w K mg base k "rises" ["things"] Core.ae0:=by
 refine⟨f,fd,F.imp fun vs H Q E h=>?_,b,kp,m⟩
 obtain ⟨xs,Qp,r,⟨x,ns,rfl,hx,hl,q⟩,k⟩:=h
 obtain ⟨v,rfl,r1⟩:=r.one
 rcases hx with rfl | rfl
 ·obtain ⟨a,us,rfl,h,r2⟩:=r1.sqT
  obtain rfl:=r2.ofInts
  exact⟨a,ns,rfl,.inl (aG.of h),hl,fun H' s=>k _ H' _ s (.bl _) q⟩
 ·obtain ⟨a,us,rfl,_,h,r2⟩:=r1.sqL
  obtain rfl:=r2.ofInts
  exact⟨a,ns,rfl,.inr (aJ.of h),hl,fun H' s=>k _ H' _ s (.bl _) q⟩
end
end PP
namespace Core
open PySem L2 PP
theorem nF (n:Nat):eU 0 n=intz (rng n):=by
 unfold eU rng
 show _=List.map PV.int (List.map (fun (i:Nat)=>(i:Int)) (List.range n))
 rw [List.map_map]
 refine List.map_congr_left fun i _=>?_
 show PV.int (0+(i:Int))=PV.int (i:Int)
 rw [Int.zero_add]
theorem x3 (n:Nat):(rng n).Nodup:=by
 unfold rng
 rw [List.nodup_iff_pairwise_ne,ay9]
 exact (List.nodup_range (n:=n)).imp fun h e=>h (by omega)
def two (l:Int × Int):List Int:=[l.1,l.2]
def kN (r:List Int):Int × Int:=(r.getD 0 0,r.getD 1 0)
theorem x4 (ls:List (Int × Int)):aI ls=(ls.map two).map fun r=>PV.tup (intz r):=by
 unfold aI
 rw [List.map_map]; rfl
theorem af1 {zs:List (List Int)}{ls:List (Int × Int)} (h:zs.Perm (ls.map two)):∃ ls':List (Int × Int),zs=ls'.map two/\ls'.Perm ls:=by
 refine⟨zs.map kN,?_,?_⟩
 ·rw [List.map_map]
  have:∀ z ∈ zs,(two ∘ kN) z=z:=fun z hz=>by
   obtain ⟨l,_,rfl⟩:=az5.mp (h.mem_iff.mp hz)
   rfl
  rw [List.map_congr_left this,List.map_id']
 ·have:=h.map kN
  rw [List.map_map] at this
  have e:ls.map (kN ∘ two)=ls:=by
   have:∀ l ∈ ls,(kN ∘ two) l=id l:=fun l _=>rfl
   rw [List.map_congr_left this,List.map_id]
  rw [e] at this
  exact this
theorem af2 {ls:List (Int × Int)} (so:(ls.map two).Pairwise fun u v=>HT.bI v u=false) (nd:ls.Nodup):ls.Pairwise bW:=by
 rw [ay9] at so
 refine (List.pairwise_and_iff.mpr ⟨so,nd⟩).imp fun {a b} h=>?_
 obtain ⟨h1,h2⟩:=h
 unfold two at h1
 rw [HT.gI] at h1
 unfold bW
 by_cases e:b.1=a.1
 ·rw [if_pos e,HT.gI] at h1
  by_cases e2:b.2=a.2
  ·exact absurd (Prod.ext e.symm e2.symm) h2
  ·rw [if_neg e2] at h1
   have:=of_decide_eq_false h1
   omega
 ·rw [if_neg e] at h1
  have:=of_decide_eq_false h1
  omega
def x5:bL:=fun xs Q=>∃ ns:List Int,xs = [.scr ns]/\ns.length<=63/\Q (.bl true)
structure af3 (K:PySem.W.Frag):Prop where
 ii:PySem.W.kitOne K (.type "int") (.type "int")=some true
 ib:PySem.W.kitOne K (.type "int") (.type "bool")=some false
 tt:PySem.W.kitOne K (.type "tuple") (.type "tuple")=some true
 ll:PySem.W.kitOne K (.type "list") (.type "list")=some true
 bb:PySem.W.kitOne K (.type "bool") (.type "bool")=some true
theorem kO (K:PySem.W.Frag):af3 K:=by
 have same:∀ n:String,PySem.W.kitMeta n=true->True:=fun _ _=>trivial
 refine⟨?_,?_,?_,?_,?_⟩
 ·unfold PySem.W.kitOne; rw [if_pos (by decide)]
 ·have e:(if PySem.W.kitMeta "bool" = true then (fastBuiltinMro "int").map (·.contains (Value.type "bool")) else none)=some false:=by decide +kernel
  unfold PySem.W.kitOne
  rw [if_neg (by decide)]
  exact e
 ·unfold PySem.W.kitOne; rw [if_pos (by decide)]
 ·unfold PySem.W.kitOne; rw [if_pos (by decide)]
 ·unfold PySem.W.kitOne; rw [if_pos (by decide)]
end Core
namespace PP
open PySem L2 PyProof.Rows
theorem af4 {P:Program}{w:World}{K:PySem.W.Frag}{mg:Str->Option Value}{base:Heap}{k:Nat}{x:Str}{ps N:List Str}{p:bL}{st:Stmt}{f:Addr}{fd:FuncData} (F:dQ K x x st f fd) (S:FnScope N ps (aP st))
  (len:∀ xs Q,p xs Q->xs.length=ps.length)
  (body:∀ (cdv:Value) (A:Around) (outer:List Env) (s:Shared) (H:Hp) (E:XK),bE k (A.deeper (envOfC x (aP st) s.heap.objs.size f cdv))->
   ∃ t,dJ (cE dD P w K mg base N x (aP st) f cdv A outer s H E).nox (cW st) t/\∀ xs Q,p xs Q->t { nx:=fun _=>Q .non,rt:=Q } (cZ N xs)):cI P w K mg base dD (k+1) f fd ps (jW K p):=by
 refine F.ok S (fun vs H Q E h=>?_) (fun cdv A outer s H vs Q E hr h=>?_)
 ·obtain ⟨xs,Qp,r,q,_⟩:=h
  rw [r.length]; exact len xs Qp q
 ·obtain ⟨xs,Qp,r,q,k⟩:=h
  obtain ⟨t,ht,hq⟩:=body cdv A outer s H E hr
  refine⟨_,ht,fun _=>False,cZ N xs,_,qB r,hq xs Qp q,?_,?_,?_,?_⟩
  ·exact fun W' σ' H' ρ' e px q=>k _ _ _ px.same .non q
  ·exact fun v H' x s r q=>k _ _ _ s r q
  ·exact fun W' σ' H' ρ' e px q=>q
  ·exact fun W' σ' H' ρ' e px q=>q
def nG (K:PySem.W.Frag):Sp:=fun vs H Q _=>∃ (a:Addr) (ns:List Int),vs = [.ref a]/\fU K H a ns/\ns.length<=63/\∀ H',Q (.bl true) H'
theorem af5 {P:Program}{w:World}{K:PySem.W.Frag}{mg:Str->Option Value}{base:Heap}{k:Nat}{f:Addr}{fd:FuncData} (F:cI P w K mg base dD k f fd ["script"] (jW K Core.x5)):cI P w K mg base dD k f fd ["script"] (nG K):=
 F.imp fun vs H Q E h=>by
  obtain ⟨a,ns,rfl,hs,hl,q⟩:=h
  refine⟨[.scr ns],fun z=>z = .bl true,.cons (.scr hs) .nil,⟨ns,rfl,hl,rfl⟩,?_⟩
  rintro v H' x _ r rfl
  cases r
  exact q H'
theorem af6 {K:PySem.W.Frag}{H:Hp}{a:Addr}{ns:List Int} (hO:lO H) (h:aJ K H a (ns.map V.int)):fU K H a ns:=by
 rcases h with (h | ⟨o,h⟩) | h
 ·rcases hO a with e | ⟨o,xs,e⟩ <;> (rw [h] at e; cases e)
 ·exact .inl ⟨o,h⟩
 ·exact .inr h
end PP
namespace PyProof.Rows
open PySem
end PyProof.Rows
namespace PP
open PySem L2 PyProof.Rows
section
variable {X : Cx} {a b e : Expr} {ta tb te : aB} {tr : bS} {pos p2 : Pos}
def x6:PV->Tg->PV->Tg->PK->Prop:=fun x _ y _ Q=>∃ xs ys,x = .lst xs/\y = .lst ys/\flats xs=true/\flats ys=true/\xs.length+ys.length<=16000000/\Q (.lst (xs ++ ys)) .fr
abbrev x8 (ta tb:aB):aB:=q2 x6 ta tb
theorem af7:cF X x6 tU:=by
 rintro W Hs H u v x y g g' Q Q' s n r1 r2 ⟨xs,ys,rfl,rfl,f1,f2,hl,q⟩ k
 obtain ⟨a,us,rfl,_,h1,q1⟩:=r1.sqL
 obtain ⟨b,ws,rfl,_,h2,q2⟩:=r2.sqL
 have l1:=q1.length
 have l2:=q2.length
 refine⟨a,b,us,ws,rfl,rfl,h1,h2,lim (by omega),fun p hp=>k _ _ _ .fr (bR hp _) (.lst (s.free hp) cD (((q1.flat f1).append (q2.flat f2)).same (bR hp _) fun _ z=>z)) q⟩
theorem af8 (ha:QE X a ta) (hb:QE X b tb):QE X (.BinOp a .Add b pos) (x8 ta tb):=eW N4 af7 ha hb
end
section
variable {X : Cx} {e : Expr} {te : aB} {pos p2 : Pos} {scope : Scope} {N : List Str} {fr : List (Option Nat)} {x y : Str} {tp xp yp : Pos} {kt : Nat} {iter elt : Expr} {ti : dH}
abbrev qW (x y:Str) (xp yp:Pos) (kt:Nat) (tp:Pos):Expr:=.Tuple [.Name x xp,.Name y yp] kt tp
theorem af9 {ifs:List Expr}{tcs:bZ} (hc:X.calm=true) (he:∀ (s:Shared) (H:Hp) (C:Addr) (fp:List Addr),QE (bA X scope N s H C fp bV) elt te) (hi:∀ (s:Shared) (H:Hp) (C:Addr) (fp:List Addr),hU (bA X scope N s H C fp bV) ifs (LT (bA X scope N s H C fp bV) tcs))
  (hN:N.Nodup) (h0:N[0]? = some x) (h1:N[1]? = some y) (hl:∀ (s:Shared) (H:Hp) (C:Addr) (fp:List Addr),(bA X scope N s H C fp bV).env.scope.names.lookup x=some .local) (hl2:∀ (s:Shared) (H:Hp) (C:Addr) (fp:List Addr),(bA X scope N s H C fp bV).env.scope.names.lookup y=some .local) (s:Shared) (H:Hp) :
  jS X scope N (qW x y xp yp kt tp) ifs elt s H (lG X.K 2 (gZ (cR 0) (gZ (cR 1) lF))) (LT (X.frm H) tcs) (LE (X.frm H) te):=
 ⟨fun C fp=>C6 (X:=bA X scope N s H C fp bV) hc (sM (lE hN h0 (.inl (hl s H C fp)) (.inr (hl s H C fp))) (sM (lE hN h1 (.inl (hl2 s H C fp)) (.inr (hl2 s H C fp))) C5)),fun C fp=>hi s H C fp,fun C fp=>he s H C fp⟩
theorem ag0 (hi:QI X (qW x y xp yp kt tp) iter ti) (he:∀ (s:Shared) (H:Hp) (C:Addr) (fp:List Addr),QE (bA X scope N s H C fp bV) elt te)
  (hc:X.calm=true:=by rfl) (S:cN X scope N fr:=by exact cN.of rfl rfl) (hN:N.Nodup:=by decide +kernel) (h0:N[0]? = some x:=by rfl) (h1:N[1]? = some y:=by rfl) (hl:∀ (s:Shared) (H:Hp) (C:Addr) (fp:List Addr),(bA X scope N s H C fp bV).env.scope.names.lookup x=some .local:=by intro _ _ _ _; rfl) (hl2:∀ (s:Shared) (H:Hp) (C:Addr) (fp:List Addr),(bA X scope N s H C fp bV).env.scope.names.lookup y=some .local:=by intro _ _ _ _; rfl) (hf:fr[0]? = some none:=by rfl) (hf2:fr[1]? = some none:=by rfl)
  (hs:∀ x,foldedSetIterable iter X.env x=pure x:=by intro _; rfl):QE X (.ListComp elt [⟨qW x y xp yp kt tp,iter,[],0⟩] scope pos) (e8 ti fr (pT 0 1) eI te):=
 bO (p6 (gh:=fun _=>lG X.K 2 (gZ (cR 0) (gZ (cR 1) lF))) (tch:=fun H=>LT (X.frm H) eI) (teh:=fun H=>LE (X.frm H) te) hc S hi (af9 hc he (fun _ _ _ _=>qD) hN h0 h1 hl hl2) hs) fun _ _ _=>jZ (V4 _ 0 1) (fun i e=>by rcases e with e | e <;> (subst e; assumption))
end
section
variable {X : Cx} {a b e o f : Expr} {ta tb te td tk tx : aB} {pos p2 apos cpos : Pos} {σ : L2.St} {H : Hp} {Q' : VK}
def x9:PV->Tg->PV->Tg->PK->Prop:=fun x _ y _ Q=>∃ xs n,x = .lst xs/\y = .int n/\flats xs=true/\-1000000<=n/\n<=1000000/\xs.length<=10/\Q (.lst (List.replicate n.toNat xs).flatten) .fr
abbrev xA (ta tb:aB):aB:=q2 x9 ta tb
theorem ag1:cF X x9 tV:=by
 rintro W Hs H u v x y g g' Q Q' s n r1 r2 ⟨xs,m,rfl,rfl,f,h1,h2,hl,q⟩ k
 cases r2
 obtain ⟨a,us,rfl,mm,h,r⟩:=r1.sqL
 have lr:=r.length
 refine⟨a,m,us,rfl,rfl,h,by omega,by omega,lim ?_,fun p hp=>k _ _ _ .fr (bR hp _) (.lst (s.free hp) cD (((r.flat f).rep m.toNat).same (bR hp _) fun _ z=>z)) q⟩
 have h3:us.length<=10:=by omega
 have h4:m.toNat<=1000000:=by omega
 calc us.length * m.toNat<=10 * 1000000:=Nat.mul_le_mul h3 h4
  _<=16000000:=by decide
theorem ag2 (ha:QE X a ta) (hb:QE X b tb):QE X (.BinOp a .Mult b pos) (xA ta tb):=eW N5 ag1 ha hb
theorem kP {x:Str}{n:Int}{t:Nat} (hg:Gl X x) (hm:X.mg x=some (.int n t)) (hd:(x == ("__debug__" : Str))=false:=by decide):QE X (.Name x pos) (qC (.int n)):=
 bO (sB (v:=.int n) hg hm ⟨t,rfl⟩ hd) fun _ _ _=>jU fun _=>.int n
end
end PP
namespace Core
open PySem L2 PP
section
variable {ws : List Int} {ls : List (Int × Int)} {os ns : List Int}
def ag3 (ws:List Int) (ls:List (Int × Int)) (T:List Int):Prop:=∀ h ∈ rng ws.length,kin ws ls T h=false
end
theorem xB {i:Nat}{h:Int}{g:Bool}{ρ:aW}{Q:aW->Prop} (q:Q (ρ.set i (some (.sh true (.int h))))):cK i (.int h) g ρ Q:=by
 show Q (ρ.set i (some (.sh (g || true) (.int h))))
 rw [Bool.or_true]; exact q
def ag4 (ns S:List Int):Int:=(ns.length:Int) - (((ns.filter fun x=>decide (x ∈ S)).length:Nat):Int)
def ag5 (ws:List Int) (ls:List (Int × Int)) (S:List Int) (h:Int):Bool:=decide (ag4 (uE ls h) S < ws.getD h.toNat 0)
def stay (ws:List Int) (ls:List (Int × Int)) (S:List Int):List Int:=S.filter (ag5 ws ls S)
end Core
namespace PP
open PySem L2 PyProof.Rows
def fJ (xs ys:List PV):List PV:=List.zipWith (fun x y=>PV.tup [x,y]) xs ys
theorem qX (xs ys:List PV):(fJ xs ys).length=min xs.length ys.length:=by unfold fJ; rw [List.length_zipWith]
theorem xC {xs ys:List PV}{i:Nat}{x y:PV} (h:xs[i]? = some x) (h':ys[i]? = some y):(fJ xs ys)[i]? = some (.tup [x,y]):=by
 unfold fJ; rw [List.getElem?_zipWith,h,h']
theorem ag6 {xs ys:List PV}{i:Nat}{z:PV} (h:(fJ xs ys)[i]? = some z):∃ x y,xs[i]? = some x/\ys[i]? = some y/\z = .tup [x,y]:=by
 unfold fJ at h
 rw [List.getElem?_zipWith] at h
 cases e:xs[i]? with
 | none=>rw [e] at h; cases h
 | some x=>
  cases e':ys[i]? with
  | none=>rw [e,e'] at h; cases h
  | some y=>rw [e,e'] at h; exact⟨x,y,rfl,rfl,(av0 h).symm⟩
theorem ag7 {K:PySem.W.Frag}{H0:Hp}{W:Addr->Prop}{g:Bool}{H1:Hp}{a b:Addr}{us vs:List V}{xs ys:List PV} (tw:∀ a,W a->∃ o,H1 a=some o/\eQ o=true) (ha:∀ W' H',Ev W H1 W' H'->aG K H' a us) (hb:∀ W' H',Ev W H1 W' H'->aG K H' b vs)
  (r:Reps K (Ms H0 W g) H1 us xs) (r':Reps K (Ms H0 W g) H1 vs ys):iN K H0 W g H1 (pB K a b) (fJ xs ys):=by
 have lr:=r.length
 have lr':=r'.length
 have ll:=qX xs ys
 refine⟨fun W' H' i e hi=>⟨us,vs,us[i]'(by omega),vs[i]'(by omega),ha W' H' e,hb W' H' e,by simp,by simp⟩,fun W' H' i v H2 e y hi=>?_,fun W' H' e=>⟨us,vs,ha W' H' e,hb W' H' e,by omega⟩⟩
 obtain ⟨T,x,y',hT,rfl,rfl,y⟩:=y
 obtain ⟨h1,h2⟩:=y us vs (ha W' _ e) (hb W' _ e)
 obtain ⟨z,hz,rz⟩:=r.get h1
 obtain ⟨z',hz',rz'⟩:=r'.get h2
 have sm:=bR hT (HO.tup [x,y'])
 exact⟨sm,_,xC hz hz',.tup cD (.cons ((rz.keep (e.keep tw)).same sm fun _ q=>q) (.cons ((rz'.keep (e.keep tw)).same sm fun _ q=>q) .nil))⟩
end PP
namespace Core
open PySem L2 PP
theorem lT {ls:List (Int × Int)}{wts:List Int} (e:wts.length=ls.length):(ls.zip wts).map (·.2)=wts:=by
 rw [List.map_snd_zip]; omega
section
variable {ws : List Int} {ls : List (Int × Int)} {ns wts : List Int} {m : Nat}
def loose (ls:List (Int × Int)) (wts ns:List Int):List ((Int × Int) × Int):=(ls.zip wts).filter fun z=>!(decide (z.1.1 ∈ ns) && decide (z.1.2 ∈ ns))
end
end Core
namespace L2
open PySem PySem.Spec PyProof.Rows
section
variable {X : Cx} {pos : Pos}
def xD (K:PySem.W.Frag) (i j:Nat) (te:TE):TS:=fun D σ H=>te σ H fun v H1=>∃ a u w,v = .ref a/\aG K H1 a [u,w]/\D.nx ((σ.set j (some w)).set i (some u)) H1
theorem ag8 {i j:Nat}{x y:Str}{e:Expr}{te:TE}{kt:Nat}{xp yp tp:Pos} (hN:X.N.Nodup) (hi:X.N[i]? = some x) (hj:X.N[j]? = some y) (hx:eM X.env.scope x) (hy:eM X.env.scope y) (hc:X.calm=true) (he:PE X e te)
  (hs:swapsWithSole [.Tuple [.Name x xp,.Name y yp] kt tp] e pos.line X.env=pure false) (hw:swappedStores [.Tuple [.Name x xp,.Name y yp] kt tp] e X.env=pure (some [x,y]))
  (hfx:X.fn x=true ∨ X.env.scope.names.lookup x=some .local) (hfy:X.fn y=true ∨ X.env.scope.names.lookup y=some .local):PS X (.Assign [.Tuple [.Name x xp,.Name y yp] kt tp] e pos) (xD X.K i j te):=by
 intro pins s σ H D I h
 refine Assign_Tuple_swapped (names:=[x,y]) ?_ hs hw
 refine aK (he pins s σ H _ I h) fun v s1 hq=>?_
 obtain ⟨z,H1,I1,r1,a,u,w,rfl,hq,q⟩:=hq
 cases r1
 obtain ⟨its,rv,ht,hz⟩:=I1.tuple hq
 obtain ⟨u',w',rfl,ru,rw'⟩:=rv.two
 have key:∀ (G:List Value->Shared->Prop),(∀ h',Heap.ExtBut s1.heap.objs.size s1.heap h'->G [u',w'] { s1 with heap:=h' })->wpAny (model X.prog X.w) X.A (unpackItems (.ref a) 2 none) G X.xe s1:=fun G hG=>unpackItems_tuple (items:=[u',w'].toArray) (I1.ok.hd hc) ht hG
 refine key _ fun h' hx'=>?_
 have I2:a5 X pins σ H1 { s1 with heap:=h' }:=I1.kept (t':=s1.toks) fun b o e=>hx' b o (av4 (as8 e)) e
 have st2:∀ (R:Unit->Shared->Prop),(∀ s4,a5 X pins ((σ.set j (some w)).set i (some u)) H1 s4->R () s4)->wpAny (model X.prog X.w) X.A (assignInOrder [bindName X.env y,bindName X.env x] [w',u']) R X.xe { s1 with heap:=h' }:=fun R hR=>
  assignInOrder_cons (bindName_ (jH I2 hN hj hy rw' (fun s3 I3=>assignInOrder_cons (bindName_ (jH I3 hN hi hx ru (fun s4 I4=>assignInOrder_nil (hR s4 I4)) hfx))) hfy))
 refine st2 _ fun s4 I4=>?_
 exact⟨_,H1,I4,q⟩
end
end L2
namespace PP
open PySem L2 PyProof.Rows
section
variable {X : Cx} {a b e : Expr} {ta tb te : aB} {D : cL} {σ : L2.St} {H : Hp} {pos p2 : Pos}
def qY (i j:Nat) (te:aB):aM:=fun D ρ=>te ρ fun x g=>pI g x/\∃ y z,x = .tup [y,z]/\D.nx ((ρ.set j (some (.sh (m3 g x || flat z) z))).set i (some (.sh (m3 g x || flat y) y)))
theorem ag9 {i j:Nat} (h:LS X (qY i j te) D σ H):xD X.K i j (LE X te) D σ H:=by
 obtain ⟨W,ρ,D',px,q,k⟩:=h
 refine⟨W,ρ,_,px,q,?_⟩
 rintro v H1 x gt s r ⟨st,y,z,rfl,q⟩
 have r1:=uP px st r
 obtain ⟨a,us,rfl,h,r2⟩:=r1.sqT
 obtain ⟨u1,u2,rfl,ra,rb⟩:=r2.two
 exact⟨a,u1,u2,rfl,aG.of h,k.nx W _ H1 _ (Ev.same s) (((px.mono s).setSh (iO rb)).setSh (iO ra)) q⟩
theorem ah0 (i j:Nat) {x y:Str}{tp xp yp:Pos}{kt:Nat} (hN:X.N.Nodup) (he:QE X e te) (hx:X.N[i]? = some x:=by rfl) (hy:X.N[j]? = some y:=by rfl) (hlx:eM X.env.scope x:=by first | exact Or.inl rfl | exact Or.inr rfl) (hly:eM X.env.scope y:=by first | exact Or.inl rfl | exact Or.inr rfl)
  (hfx:X.fn x=true ∨ X.env.scope.names.lookup x=some .local:=by first | exact .inl rfl | exact .inr rfl) (hfy:X.fn y=true ∨ X.env.scope.names.lookup y=some .local:=by first | exact .inl rfl | exact .inr rfl) (hc:X.calm=true:=by rfl)
  (hs:swapsWithSole [.Tuple [.Name x xp,.Name y yp] kt tp] e pos.line X.env=pure false:=by rfl) (hw:swappedStores [.Tuple [.Name x xp,.Name y yp] kt tp] e X.env=pure (some [x,y]):=by rfl):QS X (.Assign [.Tuple [.Name x xp,.Name y yp] kt tp] e pos) (qY i j te):=
 dB (ag8 hN hx hy hlx hly hc he hs hw hfx hfy) fun _ _ _=>ag9
end
end PP
set_option maxHeartbeats 1000000
set_option maxHeartbeats 1000000
set_option maxHeartbeats 1000000
set_option maxHeartbeats 1000000
namespace PP
open PySem L2 PyProof.Rows
abbrev dF:=(Str->Prop)->bL
def EX (K:PySem.W.Frag) (H0:Hp) (Ep:Str->Prop):XK:=fun c d H'=>d=none/\aA H0 H'/\∃ n C,c = .ref C/\PySem.W.nsIn K mainGlobals n=some (some (.ref C))/\Ep n
def xE (K:PySem.W.Frag) (p:dF):Sp:=fun vs H Q E=>∃ xs Qp Ep,Reps K (fun _=>True) H vs xs/\p Ep xs Qp/\(∀ v H' x,aA H H'->aE K (fun a=>H a=none) H' v x->Qp x->Q v H')/\
 ∀ n C H',aA H H'->PySem.W.nsIn K mainGlobals n=some (some (.ref C))->Ep n->E (.ref C) none H'
structure cA (P:Program) (w:World) (K:PySem.W.Frag) (mg:Str->Option Value) (base:Heap) (k:Nat) (x:Str) (ps:List Str) (p:dF):Prop where
 ex:∃ f fd,cI P w K mg base (cP P w) k f fd ps (xE K p)/\fP K fd ps []/\PySem.W.keepIn K (.ref f)=true/\mg x=some (.ref f)
section
variable {X : Cx} {σ : L2.St} {H : Hp} {D : cL} {tr : bS} {Q' : VK} {a b c e : Expr} {es : List Expr} {pos p2 cp np hp : Pos} {t : aM} {te : aB} {tc : bZ}
def kQ (Ep:Str->Prop) (p:dF) (t:bS):aB:=aH (p Ep) t
theorem xF {p:dF}{Ep:Str->Prop} (h:LE X (kQ Ep p tr) σ H Q'):oI (xE X.K p) [] (EX X.K X.H₀ Ep) (LA X tr) σ H Q':=by
 obtain ⟨W,ρ,Q,px,q,k⟩:=h
 refine⟨W,ρ,_,px,q,fun vs H1 xs s1 r1 q1=>⟨_,_,Ep,by rw [ax3]; exact r1.any,q1,fun v H' x s2 r2 q2=>k v H' x .fr (s1.trans s2) (r2.same (aA.refl _) fun _ z=>s1.free z) q2,fun n C H' s2 z1 z2=>⟨rfl,(px.same.trans s1).trans s2,n,C,rfl,z1,z2⟩⟩⟩
theorem qZ {Ep:Str->Prop}{k j:Nat}{x:Str}{ps:List Str}{p:dF} (hX:j7 X (EX X.K X.H₀ Ep)) (d:cA X.prog X.w X.K X.mg X.base k x ps p) (hr:bE j X.A) (ha:QA X (e :: es) tr) (hkj:k<=j:=by decide) (hg:Gl X x:=by rfl) (hdb:(x == ("__debug__" : Str))=false:=by decide)
  (he:starEach (e :: es) X.env=(false,eval e X.env) :: starEach es X.env:=by rfl) (hpl:(backTo pos (starEach es X.env)).any (·.1)=false:=by rfl):QE X (.Call (.Name x p2) (e :: es) [] pos) (kQ Ep p tr):=by
 obtain ⟨f,fd,F,b,kp,m⟩:=d.ex
 exact bO (oJ F (hr.mono hkj) hg m kp b .nil hX.pass ha hdb he hpl) fun _ _ _=>xF
theorem r6 {k j:Nat}{x:Str}{ps:List Str}{p:dF} (d:cA X.prog X.w X.K X.mg X.base k x ps p) (hr:bE j X.A) (ha:QA X (e :: es) tr) (hkj:k<=j:=by decide) (hg:Gl X x:=by rfl) (hdb:(x == ("__debug__" : Str))=false:=by decide)
  (he:starEach (e :: es) X.env=(false,eval e X.env) :: starEach es X.env:=by rfl) (hpl:(backTo pos (starEach es X.env)).any (·.1)=false:=by rfl):QE X (.Call (.Name x p2) (e :: es) [] pos) (aH (p fun _=>False) tr):=by
 obtain ⟨f,fd,F,b,kp,m⟩:=d.ex
 refine bO (oJ F (E:=EX X.K X.H₀ fun _=>False) (hr.mono hkj) hg m kp b .nil (fun _ _ _ _ _ _ _ h=>?_) ha hdb he hpl) fun _ _ _ h=>xF (Ep:=fun _=>False) h
 obtain ⟨_,_,_,_,_,_,_,_,_,_,_,_,z⟩:=h
 exact z.elim
def kR (Ep:Str->Prop) (n:Str) (t:bS):aM:=fun _ ρ=>t ρ fun xs=>xs.length<=1000/\Ep n
theorem ah1 {Ep:Str->Prop}{n:Str}{C:Addr} (hn:PySem.W.nsIn X.K mainGlobals n=some (some (.ref C))) (h:LS X (kR Ep n tr) D σ H):wO (EX X.K X.H₀ Ep) C (LA X tr) D σ H:=by
 obtain ⟨W,ρ,D',px,q,k⟩:=h
 exact⟨W,ρ,_,px,q,fun vs H1 xs s1 r z=>⟨by rw [r.length]; exact lZ z.1,rfl,px.same.trans s1,n,C,rfl,hn,z.2⟩⟩
structure Xc (K:PySem.W.Frag) (mg:Str->Option Value) (base:Heap) (n:Str):Prop where
 ex:∃ C B newId initId bm,OwnCls n C bm newId mg base/\ExcBaseFacts B newId initId bm/\PySem.W.nsIn K mainGlobals n=some (some (.ref C))
theorem r9 {Ep:Str->Prop}{n:Str} (hX:j7 X (EX X.K X.H₀ Ep)) (x:Xc X.K X.mg X.base n) (ha:QA X (e :: es) tr) (hc:X.calm=true:=by rfl) (hg:Gl X n:=by rfl) (hd:(n == ("__debug__" : Str))=false:=by decide)
  (he:starEach (e :: es) X.env=(false,eval e X.env) :: starEach es X.env:=by rfl) (hpl:(backTo cp (starEach es X.env)).any (·.1)=false:=by rfl):QS X (.Raise (some (.Call (.Name n np) (e :: es) [] cp)) none pos) (kR Ep n tr):=by
 obtain ⟨C,B,newId,initId,bm,O,FB,hn⟩:=x.ex
 exact dB (ac3 hX hc O FB ha hg hd he hpl) fun _ _ _=>ah1 hn
abbrev gE:=gK->(Str->Prop)->aW->Prop
def LB (X:Cx) (t:gE):TB:=fun D Ex σ H=>∃ (W:Addr->Prop) (ρ:aW) (D':gK) (Ep:Str->Prop),PX X.K X.H₀ W σ ρ H/\t D' Ep ρ/\jV X W H D' D/\∀ n C H',aA H H'->PySem.W.nsIn X.K mainGlobals n=some (some (.ref C))->Ep n->Ex (.ref C) none H'
def QB (X:Cx) (sts:List Stmt) (t:gE):Prop:=PB X sts (LB X t)
theorem xG {sts:List Stmt}{t t':TB} (h:PB X sts t) (m:∀ D Ex σ H,t' D Ex σ H->t D Ex σ H):PB X sts t':=fun pins s σ H D Ex I q=>h pins s σ H D Ex I (m D Ex σ H q)
def rA (p:dF) (t:bS):gE:=fun D Ep ρ=>t ρ fun xs=>p Ep (xs.map (·.1)) fun _=>D.nx ρ
def xH (c:bZ) (t u:gE):gE:=fun D Ep ρ=>c ρ fun b=>if b=true then t D Ep ρ else u D Ep ρ
theorem xI {k j:Nat}{x:Str}{ps:List Str}{p:dF} (d:cA X.prog X.w X.K X.mg X.base k x ps p) (hr:bE j X.A) (ha:∀ E,QA (X.wish E) (e :: es) tr) (hkj:k<=j:=by decide) (hg:Gl X x:=by rfl) (hdb:(x == ("__debug__" : Str))=false:=by decide)
  (he:starEach (e :: es) X.env=(false,eval e X.env) :: starEach es X.env:=by rfl) (hpl:(backTo cp (starEach es X.env)).any (·.1)=false:=by rfl) (hsw:swapsWith (.Call (.Name x p2) (e :: es) [] cp) none pos.line X.env=pure false:=by rfl):QB X [.Expr (.Call (.Name x p2) (e :: es) [] cp) pos] (rA p tr):=by
 obtain ⟨f,fd,F,b,kp,m⟩:=d.ex
 refine xG (ac8 (t:=LA X tr) F (hr.mono hkj) hg m kp b (fun E=>ha E) hdb he hpl hsw) fun D Ex σ H h=>?_
 obtain ⟨W,ρ,D',Ep,px,q,k,ke⟩:=h
 exact⟨W,ρ,_,px,q,fun vs H1 xs s1 r q1=>⟨_,_,Ep,r.any,q1,fun v H' x s2 r2 q2=>k.nx W σ H' ρ (Ev.same (s1.trans s2)) (px.mono (s1.trans s2)) q2,fun n C H' s2 z1 z2=>ke n C H' (s1.trans s2) z1 z2⟩⟩
theorem ah2 {sa sb:List Stmt}{tb ub:gE} (hc:∀ E,QT (X.wish E) c tc) (ha:QB X sa tb) (hb:QB X sb ub):QB X [.If c sa sb pos] (xH tc tb ub):=by
 refine xG (ac9 (tc:=LT X tc) (fun E=>hc E) ha hb) fun D Ex σ H h=>?_
 obtain ⟨W,ρ,D',Ep,px,q,k,ke⟩:=h
 refine⟨W,ρ,_,px,q,fun b H1 s1 q1=>?_⟩
 have ke':∀ n C H',aA H1 H'->PySem.W.nsIn X.K mainGlobals n=some (some (.ref C))->Ep n->Ex (.ref C) none H':=fun n C H' s2 z1 z2=>ke n C H' (s1.trans s2) z1 z2
 cases b with
 | true=>exact bK ⟨W,ρ,D',Ep,px.mono s1,by simpa using q1,k.step (Ev.same s1),ke'⟩
 | false=>exact aQ ⟨W,ρ,D',Ep,px.mono s1,by simpa using q1,k.step (Ev.same s1),ke'⟩
def xJ (D:gK) (i:Nat):gK:={ nx:=fun ρ=>D.nx (ρ.set i none),rt:=D.rt,bk:=fun ρ=>D.bk (ρ.set i none),ct:=fun ρ=>D.ct (ρ.set i none) }
def jB:List Str:=["BadWeb","BadSet","BadOrder","BadPrices","BadBoard","BadDeed","NotWood","NoPaper","NoSuch","TooMany","NoText","OddRound"]
def iF (n m:Str):Option Bool:=if jB.contains n then some (n == m || m == "HearthError" || m == "ValueError") else none
def rB (m:Str) (i:Nat) (tb:gE) (ts:aM):aM:=fun D ρ=>tb D (fun n=>iF n m=some true/\ts (xJ D i) (ρ.set i (some (.sh true (.exc n))))) ρ
theorem ah3 {m:Str}{Ch:Addr}{i:Nat}{tb:gE}{ts:aM} (hs:∀ n C,iF n m=some true->PySem.W.nsIn X.K mainGlobals n=some (some (.ref C))->PySem.W.subIn X.K (.ref C) (.ref Ch)=some true) (h:LS X (rB m i tb ts) D σ H):wQ X.K Ch i (LB X tb) (LS X ts) D σ H:=by
 obtain ⟨W,ρ,D',px,q,k⟩:=h
 refine⟨W,ρ,D',_,px,q,k,fun n C H' s z1 z2 a C' oe hc na hcl=>?_⟩
 cases hc
 refine⟨hs n C z2.1 z1,W,_,xJ D' i,(px.mono (s.trans (bR na _))).setSh (g:=true) (.exc cD z1 hcl),z2.2,?_⟩
 have k':=k.step (Ev.same (W:=W) (s.trans (bR na (.frz oe (.own a)))))
 exact⟨fun W' σ' H2 ρ' ev px' q'=>k'.nx W' _ H2 _ ev px'.setNone q',k'.rt,fun W' σ' H2 ρ' ev px' q'=>k'.bk W' _ H2 _ ev px'.setNone q',fun W' σ' H2 ρ' ev px' q'=>k'.ct W' _ H2 _ ev px'.setNone q'⟩
structure rC (K:PySem.W.Frag) (mg:Str->Option Value) (m:Str):Prop where
 ex:∃ Ch,mg m=some (.ref Ch)/\qQ K Ch/\∀ n C,iF n m=some true->PySem.W.nsIn K mainGlobals n=some (some (.ref C))->PySem.W.subIn K (.ref C) (.ref Ch)=some true
theorem ah4 (i:Nat) {m n:Str}{b₀:Stmt}{suite body:List Stmt}{tb:gE}{ts:aM} (ct:rC X.K X.mg m) (hN:X.N.Nodup) (hb:QB X body tb) (hs:∀ a,dJ (X.suite a) (b₀ :: suite) ts) (hstk:X.stack=X.env :: X.outer/\X.env.frame=some X.env.locals:=by exact⟨rfl,rfl⟩) (hi:X.N[i]? = some n:=by rfl) (hl:X.env.scope.names.lookup n=some .local:=by rfl) (hg:Gl X m:=by rfl)
  (hd:(m == ("__debug__" : Str))=false:=by decide):QS X (.Try body [.ExceptHandler (some (.Name m np)) (some n) (b₀ :: suite) hp] [] [] pos) (rB m i tb ts):=by
 obtain ⟨Ch,hm,c,sub⟩:=ct.ex
 exact dB (ad0 (ts:=LS X ts) hstk hb hg hm c hN hi hl (fun a=>pX (hs a) fun _ _ _ ⟨W,ρ,D',px,q,k⟩=>⟨W,ρ,D',px,q,⟨k.nx,k.rt,k.bk,k.ct⟩⟩) hd) fun _ _ _=>ah3 sub
def eO:V->Value
 | .ref a=>.ref a
 | .ty n=>.type n
 | _=>.none
def ah5 (K:PySem.W.Frag):List V->Hp->VK->Prop:=fun xs H Q=>∃ v v2 b,xs = [v,v2]/\eO v2 ≠ .none/\((∃ a o C,v = .ref a/\H a=some (.frz o (.own a))/\o.cls = .ref C/\fI K C/\PySem.W.kitOne K (.ref C) (eO v2)=some b) ∨ (v = .non/\PySem.W.kitOne K (.type "NoneType") (eO v2)=some b))/\Q (.bl b) H
theorem ah6:cB X (.builtin "isinstance") (ah5 X.K):=by
 intro pins s σ H xs us Q I r h
 obtain ⟨v,v2,b,rfl,hv,hk,q⟩:=h
 obtain ⟨u,u',rfl,ru,ru'⟩:=jP r
 obtain rfl:u'=eO v2:=by
  cases v2 <;> first | exact ru' | exact absurd rfl hv
 rcases hk with ⟨a,o,C,rfl,hH,hc,F,e⟩ | ⟨rfl,e⟩
 ·obtain ⟨h1,_⟩:=I.hok a _ hH
  cases (show u=Value.ref a from ru)
  exact aw4 (ad7 F) I.kIn ⟨o,h1,hc⟩ e (fun z=>nomatch z) fun tk=>⟨.bl b,H,I.tok tk,rfl,q⟩
 ·cases (show u=Value.none from ru)
  exact aw4 PySem.W.kitx_none I.kIn trivial e (fun z=>nomatch z) fun tk=>⟨.bl b,H,I.tok tk,rfl,q⟩
def ah7 (m:Str):PV->Option Bool
 | .exc n=>iF n m
 | .non=>some false
 | _=>none
def jC (m:Str) (te:aB):aB:=fun ρ Q=>te ρ fun x _=>∃ b,ah7 m x=some b/\Q (.bl b) .fr
structure rD (K:PySem.W.Frag) (m:Str) (v2:V):Prop where
 nn:eO v2 ≠ .none
 ex:∀ n C b,PySem.W.nsIn K mainGlobals n=some (some (.ref C))->iF n m=some b->fI K C/\PySem.W.kitOne K (.ref C) (eO v2)=some b
 no:PySem.W.kitOne K (.type "NoneType") (eO v2)=some false
theorem xK {x:Str}{v2:V}{px:Pos} (B:Bt X.mg) (A:rD X.K x v2) (hx:PE X (.Name x px) (tC v2)) (ha:QE X a te) (hg:Gl X "isinstance":=by rfl)
  (he:starEach [a,.Name x px] X.env=(false,eval a X.env) :: starEach [.Name x px] X.env:=by rfl) (he2:starEach [.Name x px] X.env=(false,eval (.Name x px) X.env) :: starEach [] X.env:=by rfl) (hpl:(backTo pos (starEach [.Name x px] X.env)).any (·.1)=false:=by rfl):QE X (.Call (.Name "isinstance" p2) [a,.Name x px] [] pos) (jC x te):=
 bO (oM ah6 hg B.isinst PyProof.Rows.boot_isinstance (dP ha (dP hx fO he2) he) (he:=he) (hpl:=hpl)) fun σ H Q' h=>by
  obtain ⟨W,ρ,Q,px,q,k⟩:=h
  refine⟨W,ρ,_,px,q,?_⟩
  rintro v H1 y g s r ⟨b,e,q⟩
  refine⟨v,v2,b,rfl,A.nn,?_,k _ _ _ .fr s (.bl _) q⟩
  cases r with
  | exc h z c=>
   obtain ⟨F,kt⟩:=A.ex _ _ _ z e
   exact .inl ⟨_,_,_,rfl,h,c,F,kt⟩
  | non=>cases e; exact .inr ⟨rfl,A.no⟩
  | _=>cases e
end
section
variable {X : Cx} {a : Expr} {pos p2 px : Pos} {te : aB}
structure kS (K:PySem.W.Frag) (mg:Str->Option Value) (m:Str):Prop where
 ex:∃ C,mg m=some (.ref C)/\rD K m (.ref C)
structure rE (K:PySem.W.Frag) (mg:Str->Option Value):Prop where
 mg:mg "ValueError" = none
 is:rD K "ValueError" (.ty "ValueError")
theorem xL {x:Str} (B:Bt X.mg) (A:kS X.K X.mg x) (ha:QE X a te) (hgx:Gl X x:=by rfl) (hdx:(x == ("__debug__" : Str))=false:=by decide) (hg:Gl X "isinstance":=by rfl)
  (he:starEach [a,.Name x px] X.env=(false,eval a X.env) :: starEach [.Name x px] X.env:=by rfl) (he2:starEach [.Name x px] X.env=(false,eval (.Name x px) X.env) :: starEach [] X.env:=by rfl) (hpl:(backTo pos (starEach [.Name x px] X.env)).any (·.1)=false:=by rfl):QE X (.Call (.Name "isinstance" p2) [a,.Name x px] [] pos) (jC x te):=by
 obtain ⟨C,m,i⟩:=A.ex
 exact xK B i (sB hgx m rfl hdx) ha hg he he2 hpl
theorem ah8 (B:Bt X.mg) (A:rE X.K X.mg) (ha:QE X a te) (hgx:Gl X "ValueError":=by rfl) (hg:Gl X "isinstance":=by rfl)
  (he:starEach [a,.Name "ValueError" px] X.env=(false,eval a X.env) :: starEach [.Name "ValueError" px] X.env:=by rfl) (he2:starEach [.Name "ValueError" px] X.env=(false,eval (.Name "ValueError" px) X.env) :: starEach [] X.env:=by rfl) (hpl:(backTo pos (starEach [.Name "ValueError" px] X.env)).any (·.1)=false:=by rfl):QE X (.Call (.Name "isinstance" p2) [a,.Name "ValueError" px] [] pos) (jC "ValueError" te):=
 xK B A.is (sC (v:=.ty "ValueError") hgx A.mg PyProof.Rows.Boot.«ValueError» rfl (by decide) (by decide)) ha hg he he2 hpl
end
structure gT (K:PySem.W.Frag) (C:Addr):Prop where
 cls:PySem.W.isClsIn K C=true
 ty:PySem.W.typeIn K (.ref C)=some (.type "type")
 ga:PySem.W.findIn K (.ref C) "__getattribute__" = some (some (.builtin "BaseException.__getattribute__"))
 gt:PySem.W.findIn K (.ref C) "__getattr__" = some none
 fc:PySem.W.findIn K (.ref C) "__class__" = some (some (.builtin "object.__class__"))
 fg:PySem.W.specialIn K (.builtin "object.__class__") "__get__" = some (some (.builtin "getset_descriptor.__get__"))
 ft:PySem.W.takesIn K (.builtin "object.__class__")=some true
 ob:PySem.W.mroIn K C (.type "object")=some true
 be:PySem.W.mroIn K C (.type "BaseException")=some true
theorem gT.exc {K:PySem.W.Frag}{C:Addr} (h:gT K C):fI K C:=⟨h.cls,h.ga,h.gt,h.fc,h.fg,h.ft,h.ob,h.be⟩
theorem xM {K:PySem.W.Frag}{h₀:Heap}{mg:Str->Option Value}{x:Str}{C:Addr}{bmB:List Value}{newId:String} (X:K.In h₀) (m:mg x=some (.ref C)) (q:PySem.W.excIn K C bmB newId=true):OwnCls x C bmB newId mg h₀:=by
 refine⟨m,?_⟩
 unfold PySem.W.excIn at q
 split at q
 case h_2=>cases q
 rename_i dd cd sl ho
 split at q
 case h_2=>cases q
 rename_i C' bm k0 k1 k2 k3 n k5 hm hs
 simp only [az7,beq_iff_eq,Bool.not_eq_true'] at q
 obtain ⟨⟨⟨⟨⟨rfl,rfl⟩,dl⟩,ht⟩,hok⟩,hni⟩:=q
 obtain ⟨nm,bs,mro,ns,qn,hd,sn,sub,ab,col,del⟩:=cd
 dsimp only at hm dl hok hni
 subst hm dl
 obtain rfl:sl = #[k0,k1,k2,k3,some (.builtin n),k5]:=by
  obtain ⟨l⟩:=sl
  exact congrArg Array.mk hs
 exact⟨bm,ns,nm,qn,bs,hd,sn,sub,ab,col,dd,k0,k1,k2,k3,k5,_,X _ _ ho,.of_isNs (PySem.W.isNs_of_in X hok),PySem.W.nsMap_none_of_in X hok hni,PySem.W.tail_of_in X ht⟩
theorem nH {n m:Str}{b:Bool} (h:iF n m=some b):n ∈ jB/\b=(n == m || m == "HearthError" || m == "ValueError"):=by
 unfold iF at h
 split at h
 ·rename_i z
  exact⟨by simpa using z,by cases h; rfl⟩
 ·cases h
theorem nI {K:PySem.W.Frag}{C D:Addr}{b:Bool} (hd:gT K D) (ne:(C == D)=false) (s:PySem.W.subIn K (.ref C) (.ref D)=some b):PySem.W.kitOne K (.ref C) (.ref D)=some b:=by
 have ne':(Value.ref C == Value.ref D)=false:=by
  rw [beq_eq_false_iff_ne] at ne ⊢
  exact fun z=>ne (Value.ref.inj z)
 have c:=hd.cls
 unfold PySem.W.isClsIn at c
 unfold PySem.W.kitOne PySem.W.kitCls
 rw [if_neg (by rw [ne']; decide)]
 dsimp only
 rw [if_pos (by rw [c,hd.ty]; decide)]
 exact s
theorem xN {K:PySem.W.Frag}{C:Addr}:PySem.W.kitOne K (.ref C) (.ref C)=some true:=by
 unfold PySem.W.kitOne
 rw [if_pos (ax5 _)]
theorem rF {K:PySem.W.Frag}{C:Addr} (s:PySem.W.subIn K (.ref C) (.type "ValueError")=some true):PySem.W.kitOne K (.ref C) (.type "ValueError")=some true:=by
 unfold PySem.W.kitOne PySem.W.kitCls
 rw [if_neg (fun z=>by cases beq_iff_eq.mp z)]
 dsimp only
 rw [if_pos (by decide +kernel)]
 exact s
theorem xO {K:PySem.W.Frag}{D:Addr} (hd:gT K D) (s:PySem.W.subIn K (.type "NoneType") (.ref D)=some false):PySem.W.kitOne K (.type "NoneType") (.ref D)=some false:=by
 have c:=hd.cls
 unfold PySem.W.isClsIn at c
 unfold PySem.W.kitOne PySem.W.kitCls
 rw [if_neg (fun z=>by cases beq_iff_eq.mp z)]
 dsimp only
 rw [if_pos (by rw [c,hd.ty]; decide)]
 exact s
theorem ah9 {K:PySem.W.Frag}:PySem.W.kitOne K (.type "NoneType") (.type "ValueError")=some false:=by
 have e:(if PySem.W.kitMeta "ValueError" = true then (fastBuiltinMro "NoneType").map (·.contains (Value.type "ValueError")) else none)=some false:=by decide +kernel
 unfold PySem.W.kitOne
 rw [if_neg (by decide)]
 exact e
theorem cA.of {P:Program}{w:World}{K:PySem.W.Frag}{mg:Str->Option Value}{base:Heap}{k:Nat}{x:Str}{ps N:List Str}{p:dF}{st:Stmt}{f:Addr}{fd:FuncData} (F:dQ K x x st f fd) (m:mg x=some (.ref f)) (S:FnScope N ps (aP st))
  (hb:∀ (kV doc pm:Value) (an:Option Addr) (cdv ct:Value) (us:List Value),us.length=ps.length->bindArgs (PySem.W.fnOf x x (fR st) (cW st) (aP st) .none kV doc pm an cdv ct) ⟨us,[]⟩=pure (ps.zip us))
  (t:(Str->Prop)->aM) (len:∀ Ep xs Q,p Ep xs Q->xs.length=ps.length) (rd:∀ Ep xs Q,p Ep xs Q->t Ep { nx:=fun _=>Q .non,rt:=Q } (cZ N xs))
  (body:∀ (cdv:Value) (A:Around) (outer:List Env) (s:Shared) (H:Hp) (E:XK) (Ep:Str->Prop),bE k (A.deeper (envOfC x (aP st) s.heap.objs.size f cdv))->j7 (cE (cP P w) P w K mg base N x (aP st) f cdv A outer s H E) (EX K H Ep)->
   dJ (cE (cP P w) P w K mg base N x (aP st) f cdv A outer s H E) (cW st) (t Ep)):cA P w K mg base (k+1) x ps p:=by
 refine⟨f,fd,F.okX S (fun vs H Q E h=>?_) (fun cdv A outer s H vs Q E hr h=>?_),F.binds hb,F.kp,m⟩
 ·obtain ⟨xs,Qp,Ep,r,q,_⟩:=h
  rw [r.length]; exact len Ep xs Qp q
 ·obtain ⟨xs,Qp,Ep,r,q,k,ke⟩:=h
  have ht:=body cdv A outer s H E Ep hr (ac2 fun c d H' z=>?_)
  ·refine⟨_,ht,fun _=>False,cZ N xs,_,qB r,rd Ep xs Qp q,?_,?_,?_,?_⟩
   ·exact fun W' σ' H' ρ' e px q=>k _ _ _ px.same .non q
   ·exact fun v H' x s r q=>k _ _ _ s r q
   ·exact fun W' σ' H' ρ' e px q=>q
   ·exact fun W' σ' H' ρ' e px q=>q
  ·obtain ⟨rfl,s1,n,C,rfl,z1,z2⟩:=z
   exact ke n C H' s1 z1 z2
end PP
namespace Core
open PySem L2 PP
abbrev nJ (t:(Str->Prop)->aM) (N:List Str) (p:dF):Prop:=∀ Ep xs Q,p Ep xs Q->t Ep { nx:=fun _=>Q .non,rt:=Q } (cZ N xs)
end Core
namespace PP
open PySem L2
theorem rG {us:List Value} (h:us.length=1):∃ a,us = [a]:=List.length_eq_one_iff.mp h
theorem rH {us:List Value} (h:us.length=2):∃ a b,us = [a,b]:=by
 cases us with
 | nil=>cases h
 | cons a r=>
  obtain ⟨b,rfl⟩:=rG (us:=r) (by simpa using h)
  exact⟨a,b,rfl⟩
theorem rJ {us:List Value} (h:us.length=3):∃ a b c,us = [a,b,c]:=by
 cases us with
 | nil=>cases h
 | cons a r=>
  obtain ⟨b,c,rfl⟩:=rH (us:=r) (by simpa using h)
  exact⟨a,b,c,rfl⟩
theorem xP {us:List Value} (h:us.length=4):∃ a b c d,us = [a,b,c,d]:=by
 cases us with
 | nil=>cases h
 | cons a r=>
  obtain ⟨b,c,d,rfl⟩:=rJ (us:=r) (by simpa using h)
  exact⟨a,b,c,d,rfl⟩
section
variable {X : Cx} {e : Expr} {tr : bS} {pos p2 : Pos}
def rK:List PV->(PV->Prop)->Prop:=fun xs Q=>∃ ys:List (List Int),xs = [.lst (ys.map fun r=>PV.tup (intz r))]/\ys.length<=4096/\(∀ y ∈ ys,y.length=2)/\∀ zs:List (List Int),zs.Perm ys->zs.Pairwise (fun u v=>HT.bI v u=false)->Q (.lst (zs.map fun r=>PV.tup (intz r)))
theorem ai0:dX X rK (wN X.K):=by
 rintro H vs xs Q Q' r ⟨ys,rfl,hl,hne,q⟩ k
 obtain ⟨v,rfl,r1⟩:=r.one
 obtain ⟨a,us,rfl,_,h,r2⟩:=r1.sqL
 obtain ⟨h1,h2⟩:=wX r2
 have lr:=r2.length
 rw [at4] at lr
 refine⟨a,us,iE H,rfl,aJ.of h,by omega,fun y hy=>?_,fun l zs hl' pm so=>?_⟩
 ·obtain ⟨b,rfl,hb⟩:=h2 y hy
  refine⟨b,rfl,aG.of hb,hne _ ?_⟩
  rw [<- h1]; exact az5.mpr ⟨_,hy,rfl⟩
 ·have hz:∀ u ∈ zs,∃ b,u = .ref b/\H b=some (.tup ((iE H u).map V.int)):=fun u hu=>h2 u (pm.mem_iff.mp hu)
  refine k _ _ _ (bR hl' _) (.lst hl' cD ((wY hz).same (bR hl' _) fun _ z=>z)) (q _ ?_ ?_)
  ·rw [<- h1]; exact pm.map _
  ·rw [ay9]; exact so
theorem ai1 (B:Bt X.mg) (ha:QA X [e] tr) (hg:Gl X "sorted":=by rfl) (he:starEach [e] X.env=(false,eval e X.env) :: starEach [] X.env:=by rfl) (hpl:(backTo pos (starEach [] X.env)).any (·.1)=false:=by rfl):QE X (.Call (.Name "sorted" p2) [e] [] pos) (aH rK tr):=
 gO ab9 ai0 hg B.sorted PyProof.Rows.boot_sorted ha (he:=he) (hpl:=hpl)
end
end PP
namespace Core
open PySem L2 PP
structure WL (n:Int) (ws:List Int) (ls:List (Int × Int)):Prop where
 many:(ws.length:Int)=n
 inn:∀ l ∈ ls,0<=l.1/\l.1 < l.2/\l.2 < n
 most:ls.length<=1700
 ord:ls.Pairwise bW
 pos:∀ w ∈ ws,0<=w
theorem WL.perm {n:Int}{ws:List Int}{ls ls':List (Int × Int)} (h1:(ws.length:Int)=n) (h2:∀ l ∈ ls,0<=l.1/\l.1 < l.2/\l.2 < n) (h3:ls.length<=1700) (nd:ls.Nodup) (h4:∀ w ∈ ws,0<=w) (p:ls'.Perm ls) (so:(ls'.map two).Pairwise fun u v=>HT.bI v u=false):WL n ws ls':=
 ⟨h1,fun l hl=>h2 l (p.mem_iff.mp hl),by rw [p.length_eq]; exact h3,af2 so (p.nodup_iff.mpr nd),h4⟩
abbrev xQ (bs:List Bool):List PV:=bs.map PV.bl
theorem xR (n:Nat) (a:Int):(List.replicate n [PV.int a]).flatten=intz (List.replicate n a):=by
 induction n with
 | zero=>rfl
 | succ n ih=>rw [ax1,ax1,aB1,ih]; rfl
section
variable {ws : List Int} {ls : List (Int × Int)}
def cne (ws:List Int) (ls:List (Int × Int)) (S:List Int):Bool:=!decide (S = []) && decide (stay ws ls S=S)
end
def far (ns S:List Int):Bool:=decide (((S.filter fun x=>decide (x ∈ ns)).length:Int)=0)
def xS (ws:List Int) (ls:List (Int × Int)):List Int->List Int->Bool
 | _,[]=>true
 | B,h :: R=>inB ws.length h && (kin ws ls B h && xS ws ls (B ++ [h]) R)
end Core
namespace Raw
open PySem PySem.W PySem.Calls PyProof.Rows
theorem rL {xs:List Nat} (a:xs.Pairwise (· < ·)) {i k:Nat} (hk:k < xs.length) (h:i<=k):xs.getD i 0<=xs.getD k 0:=by
 rcases av6 i k with z | z
 ·have:=ay4.mp a i k (by omega) hk z
  rw [at2,at2,ar9 (by omega),ar9 hk]
  exact aA4 this
 ·rw [Nat.le_antisymm h z]; exact as3 _
theorem ai2 {xs:Array Nat}{i j:Nat} (h:i < xs.size):xs.getD i j=xs.toList.getD i 0:=by
 rw [at2,az0,Array.getD_eq_getD_getElem?,Array.getElem?_eq_getElem h]; rfl
theorem rM {xs:Array Nat}{j:Nat} (a:xs.toList.Pairwise (· < ·)):∀ (fuel lo hi:Nat),lo<=hi->hi<=xs.size->hi - lo<=fuel->(∀ i,i < lo->xs.toList.getD i 0 < j)->(∀ i,hi<=i->i < xs.size->j<=xs.toList.getD i 0)->
  SetTable.below.go xs j fuel lo hi<=xs.size/\(∀ i,i < SetTable.below.go xs j fuel lo hi->xs.toList.getD i 0 < j)/\∀ i,SetTable.below.go xs j fuel lo hi<=i->i < xs.size->j<=xs.toList.getD i 0
 | 0,lo,hi,h1,h2,h3,h4,h5=>by
  have e:lo=hi:=by omega
  subst e
  exact⟨h2,h4,h5⟩
 | fuel+1,lo,hi,h1,h2,h3,h4,h5=>by
  have sz:xs.toList.length=xs.size:=ax0
  unfold SetTable.below.go
  by_cases lt:lo < hi
  ·rw [if_pos lt]
   dsimp only
   have m1:lo<=(lo+hi) / 2:=by omega
   have m2:(lo+hi) / 2 < hi:=by omega
   rw [ai2 (by omega)]
   by_cases c:xs.toList.getD ((lo+hi) / 2) 0 < j
   ·rw [if_pos c]
    exact rM a fuel _ _ (by omega) h2 (by omega) (fun i hi'=>Nat.lt_of_le_of_lt (rL a (by omega) (by omega)) c) h5
   ·rw [if_neg c]
    exact rM a fuel _ _ (by omega) (by omega) (by omega) h4 fun i h6 h7=>aw6 (Nat.le_of_not_lt c) (rL a (by omega) h6)
  ·rw [if_neg lt]
   have e:lo=hi:=by omega
   subst e
   exact⟨h2,h4,h5⟩
theorem ai3 {xs:Array Nat}{j:Nat} (a:xs.toList.Pairwise (· < ·)):SetTable.below xs j<=xs.size/\(∀ i,i < SetTable.below xs j->xs.toList.getD i 0 < j)/\∀ i,SetTable.below xs j<=i->i < xs.size->j<=xs.toList.getD i 0:=
 rM a xs.size 0 xs.size (ay8 _) (as3 _) (by omega) (fun i h=>absurd h (Nat.not_lt_zero _)) fun i h1 h2=>absurd h2 (by omega)
theorem ai4 {α:Type} (xs:Array α) (p:Nat) (x:α):(SetTable.insertAt xs p x).toList=xs.toList.take p ++ x :: xs.toList.drop p:=by
 unfold SetTable.insertAt
 simp
 exact av2 (by simp)
theorem ai5 {xs:Array Nat}{j:Nat} (a:xs.toList.Pairwise (· < ·)) (ne:xs[SetTable.below xs j]? ≠ some j):(SetTable.insertAt xs (SetTable.below xs j) j).toList.Pairwise (· < ·):=by
 obtain ⟨b1,b2,b3⟩:=ai3 (j:=j) a
 have sz:xs.toList.length=xs.size:=ax0
 rw [ai4]
 refine av3.mpr ⟨a.sublist (List.take_sublist _ _),List.pairwise_cons.mpr ⟨fun x hx=>?_,a.sublist (List.drop_sublist _ _)⟩,fun x hx y hy=>?_⟩
 ·obtain ⟨i,hi,e⟩:=ay5 hx
  rw [aC0] at hi
  rw [List.getElem_drop] at e
  have h1:=b3 (SetTable.below xs j) (as3 _) (by omega)
  have h2:=rL a (i:=SetTable.below xs j) (k:=SetTable.below xs j+i) (by omega) (by omega)
  have h3:xs.toList.getD (SetTable.below xs j+i) 0=x:=by rw [at2,ar9 (by omega),e]; rfl
  rcases av6 j x with z | z
  ·exact z
  ·exfalso
   have h4:xs.toList.getD (SetTable.below xs j) 0=j:=by omega
   rw [at2,ar9 (by omega)] at h4
   refine ne ?_
   rw [<- az0,ar9 (by omega)]
   exact congrArg some h4
 ·have hx':x < j:=by
   obtain ⟨i,hi,e⟩:=ay5 hx
   rw [List.length_take] at hi
   rw [List.getElem_take] at e
   have:=b2 i (by omega)
   rw [at2,ar9 (by omega),e] at this
   exact this
  rcases as4.mp hy with e | hy
  ·rw [e]; exact hx'
  ·obtain ⟨i,hi,e⟩:=ay5 hy
   rw [aC0] at hi
   rw [List.getElem_drop] at e
   have:=b3 (SetTable.below xs j+i) (by omega) (by omega)
   rw [at2,ar9 (by omega),e] at this
   exact as5 hx' this
structure eZ (b:Bool) (t:SetTable):Prop where
 asc:t.place.toList.Pairwise (· < ·)
 dm:t.dummies = #[]
 led:t.led=b
theorem xT (j:Nat):SetTable.has #[] j=false:=by
 unfold SetTable.has
 simp
theorem xU {t:SetTable} (dm:t.dummies = #[]) {h:Int}{j:Nat}{d:Option Nat}:∀ (fuel:Nat) (p:SetTable.Probe),p.dummy=none->SetTable.probe.go t (fun _=>h+1) h fuel p=some (.empty j d)->d=none/\t.slot j = .empty
 | 0,p,_,e=>by cases e
 | fuel+1,p,hp,e=>by
  unfold SetTable.probe.go at e
  have adv:∀ p:SetTable.Probe,p.dummy=none->(t.advance p).dummy=none:=fun p hp=>by
   unfold SetTable.advance
   split <;> exact hp
  cases hs:t.slot p.j with
  | empty=>
   rw [hs] at e
   cases e
   exact⟨hp,hs⟩
  | dummy=>
   exfalso
   unfold SetTable.slot at hs
   dsimp only at hs
   rw [dm,xT] at hs
   split at hs <;> cases hs
  | live i=>
   rw [hs] at e
   dsimp only at e
   rw [if_neg (by simp; omega)] at e
   exact xU dm fuel _ (adv p hp) e
theorem ai6 {t:SetTable} (dm:t.dummies = #[]) {h:Int}{sl:Nat}{d:Bool} (e:t.freeSlot h=some (sl,d)):t.slot sl = .empty:=by
 unfold SetTable.freeSlot at e
 split at e
 ·rename_i j dummy hm
  obtain ⟨e1,e2⟩:=xU dm _ _ rfl hm
  subst e1
  cases e
  exact e2
 ·cases e
theorem nK {b:Bool}{t:SetTable} (h:eZ b t) (n:Nat):eZ b (t.standIn n):=⟨by
 show (Array.range n).toList.Pairwise (· < ·)
 rw [Array.toList_range]; exact List.pairwise_lt_range,rfl,h.led⟩
theorem ai7 {b:Bool}{t:SetTable} (h:eZ b t) {j:Nat} (hs:t.slot j = .empty):eZ b (t.put j).1:=by
 refine⟨?_,?_,h.led⟩
 ·refine ai5 h.asc fun e=>?_
  unfold SetTable.slot at hs
  dsimp only at hs
  rw [if_pos (by rw [e]; exact ax5 _)] at hs
  cases hs
 ·show (if SetTable.has t.dummies j then SetTable.eraseAt t.dummies (SetTable.below t.dummies j) else t.dummies) = #[]
  rw [h.dm,xT]; rfl
theorem ai8 {b:Bool}{t:SetTable} (h:eZ b t) (es:Array (Int × Value)) (k:Int) (x:Value):eZ b (layNew t es k x).2.1:=by
 unfold layNew
 split
 ·rename_i sl wd e
  have p:=ai7 h (ai6 h.dm e)
  show eZ b (SetTable.orStandIn _ _)
  unfold SetTable.orStandIn
  split
  ·exact p
  ·exact nK p _
 ·exact nK h _
theorem ai9 {b:Bool}{t:SetTable} (h:eZ b t) (es:Array (Int × Value)) (n:Nat):eZ b (relayAll t es n).2.1:=by
 unfold relayAll
 split
 ·rename_i t' order e
  dsimp only
  split
  ·show eZ b t'
   unfold SetTable.relaid SetTable.laid at e
   cases hc:SetTable.layClean (SetTable.sizeAbove n - 1) (es.map (·.1)) with
   | none=>rw [hc] at e; cases e
   | some owner=>
    rw [hc] at e
    cases e
    refine⟨?_,rfl,h.led⟩
    show (List.map _ _).Pairwise (· < ·)
    refine ay9.mpr (List.Pairwise.filterMap _ (R:=(· < ·)) ?_ List.pairwise_lt_range)
    intro i i' hlt x hx y hy
    cases ho:owner.getD i none with
    | none=>rw [ho] at hx; cases hx
    | some v=>
     rw [ho] at hx
     cases ho2:owner.getD i' none with
     | none=>rw [ho2] at hy; cases hy
     | some v2=>
      rw [ho2] at hy
      cases hx; cases hy
      exact hlt
  ·exact nK h _
 ·exact nK h _
theorem xV {us vs:List Value} (p:us.Perm vs):∀ {ns:List Int},IntsAre vs ns->∃ ms,IntsAre us ms/\ms.Perm ns:=by
 induction p with
 | nil=>intro ns h; exact⟨ns,h,List.Perm.refl _⟩
 | cons x _ ih=>
  intro ns h
  cases h with
  | cons n t r=>
   obtain ⟨ms,h1,h2⟩:=ih r
   exact⟨n :: ms,.cons n t h1,h2.cons n⟩
 | swap x y l=>
  intro ns h
  cases h with
  | cons n t r=>
   cases r with
   | cons n' t' r=>
    exact⟨n' :: n :: _,.cons n' t' (.cons n t r),List.Perm.swap _ _ _⟩
 | trans _ _ ih1 ih2=>
  intro ns h
  obtain ⟨ms,h1,h2⟩:=ih2 h
  obtain ⟨ms',h3,h4⟩:=ih1 h1
  exact⟨ms',h3,h4.trans h2⟩
theorem xW:∀ {us:List Value}{ns:List Int},IntsAre us ns->∀ (k:Int) (t:Nat),IntsAre (us ++ [.int k t]) (ns ++ [k])
 | _,_,.nil,k,t=>.cons k t .nil
 | _,_,.cons n u r,k,t=>.cons n u (xW r k t)
theorem nL:∀ {us:List Value}{ns:List Int},IntsAre us ns->∀ k:Int,k ∈ ns ↔ ∃ t,Value.int k t ∈ us
 | _,_,.nil,k=>⟨(fun h=>nomatch h),(fun ⟨_,h⟩=>nomatch h)⟩
 | _,_,.cons n u r,k=>by
  constructor
  ·intro h
   rcases as4.mp h with e | h
   ·exact⟨u,by rw [e]; exact au6⟩
   ·obtain ⟨t,ht⟩:=(nL r k).mp h
    exact⟨t,au4 _ ht⟩
  ·rintro ⟨t,h⟩
   rcases as4.mp h with e | h
   ·cases e; exact au6
   ·exact au4 _ ((nL r k).mpr ⟨t,h⟩)
abbrev kT (es:Array (Int × Value)) (ep:Nat) (t:SetTable):Obj:={ cls:=.type "set",dict:=none,data:=.set es ep t,slots:=#[] }
section
variable {prog : Program} {w : World} {A : Around} {E : Value → Shared → Prop} {s : Shared}
def aj0 (prog:Program) (w:World) (es:Array (Int × Value)) (t:SetTable) (ms:List Int):Prop:=ElemsOf (intKind prog w) es.toList/\IntsAre (es.toList.map (·.2)) ms/\es.size < scanBound/\t.fits es.size=true/\eZ (!w.params.followText "set-order") t
def xX (prog:Program) (w:World) (h:Heap) (a:Addr) (ms:List Int):Prop:=∃ es ep t,h.get? a=some (kT es ep t)/\aj0 prog w es t ms
theorem xY {h:Heap}{a:Addr}{es es':Array (Int × Value)}{ep:Nat}{t t':SetTable} (ho:h.get? a=some (kT es ep t)):(h.update a (Obj.putSet es' t')).get? a=some (kT es' (ep+1) t'):=by
 have:=Heap.get?_update_self (Obj.putSet es' t') ho (by rw [putSet_of es' t' (rfl:(kT es ep t).data=_)]; rfl)
 rw [putSet_of es' t' (rfl:(kT es ep t).data=_)] at this
 exact this
theorem add_int {a:Addr}{ms:List Int}{k:Int}{u:Nat}{Q:Bool->Shared->Prop} (hS:xX prog w s.heap a ms) (room:ms.length+1 < scanBound)
  (h:∀ b h' ms',Heap.SameBut a s.heap h'->xX prog w h' a ms'->(k ∈ ms->ms'.Perm ms)->(k ∉ ms->ms'.Perm (ms ++ [k]))->Q b { s with heap:=h' }) :
  wpAny (model prog w) A (setAddHashed a (.int k u) ((intKind prog w).hash k)) Q E s:=by
 obtain ⟨es,ep,t,ho,hel,hi,hb,hf,tk⟩:=hS
 have key:(intKind prog w).is k (.int k u)=true:=intKind_is _ _ _ _
 have ln:ms.length=es.size:=by
  have:=IntsAre.length hi
  rw [at4,ax0] at this
  exact this.symm
 have isk:∀ v,(intKind prog w).is k v=true->∃ u,v = .int k u:=fun v hv=>Value.isInt_shape hv
 unfold setAddHashed setAddHashedIn
 refine aB8 (ar6 (wpAny_setState_of ho rfl hf ?_))
 dsimp only
 rw [byScan_of (knd:=intKind prog w) (x:=.int k u) rfl hb hel,if_pos rfl]
 unfold setAddByScan
 refine ar6 (ar6 (aC7 ?_))
 refine ar6 (wpAny_setScan_of key ho rfl hf hel ?_)
 cases hr:List.findIdx? (fun e=>(intKind prog w).is k e.2) es.toList with
 | some j=>
  dsimp only
  obtain ⟨hj,hp,_⟩:=List.findIdx?_eq_some_iff_getElem.mp hr
  have km:k ∈ ms:=by
   obtain ⟨u',e⟩:=isk _ hp
   exact (nL hi k).mpr ⟨u',by rw [<- e]; exact az5.mpr ⟨_,aA3 hj,rfl⟩⟩
  have e:s={ s with heap:=s.heap }:=by cases s; rfl
  rw [e]
  exact as2 (as2 (h _ s.heap ms (Heap.SameBut.refl a s.heap) ⟨es,ep,t,ho,hel,hi,hb,hf,tk⟩ (fun _=>List.Perm.refl _) fun n=>absurd km n))
 | none=>
  dsimp only
  have km:k ∉ ms:=fun z=>by
   obtain ⟨u',hm⟩:=(nL hi k).mp z
   obtain ⟨e,he,e2⟩:=az5.mp hm
   have:=List.findIdx?_eq_none_iff.mp hr e he
   rw [e2,intKind_is _ _ _ _] at this; cases this
  have lp:=layNew_perm t es ((intKind prog w).hash k) (.int k u)
  have lf:=layNew_fits t es ((intKind prog w).hash k) (.int k u)
  have lk:=ai8 tk es ((intKind prog w).hash k) (.int k u)
  generalize hL:layNew t es ((intKind prog w).hash k) (.int k u)=L at lp lf lk ⊢
  obtain ⟨es1,t1,wd,gave⟩:=L
  dsimp only at lp lf lk ⊢
  rw [Array.toList_push] at lp
  have el1:ElemsOf (intKind prog w) es1.toList:=(hel.push key rfl).perm lp
  have sz1:es1.size=es.size+1:=by rw [<- ax0,lp.length_eq,aw7,ax0]; rfl
  obtain ⟨ms1,i1,p1⟩:∃ ms1,IntsAre (es1.toList.map (·.2)) ms1/\ms1.Perm (ms ++ [k]):=xV (lp.map (·.2)) (by rw [av1]; exact xW hi k u)
  have hb1:es1.size < scanBound:=by omega
  have gw:∀ (b:Bool) (s₁:Shared) (Q':Unit->Shared->Prop),Q' () s₁->wpAny (model prog w) A (match b with | true=>rule "set.scan.the-table-gave-way" | false=>pure ()) Q' E s₁:=fun b s₁ Q' hq=>by
   cases b
   ·exact as2 hq
   ·exact aC7 hq
  refine ar6 (gw _ _ _ ?_)
  split <;> (
   show wpAny _ _ (storeSet a es1 t1 >>= _) _ _ _
   simp only [↓reduceIte]
   refine ar6 (wpAny_storeSet_of ho rfl ?_ (fits_of_scanBound hb1))
   have ho1:=xY (es':=es1) (t':=t1) ho
   have sb1:=Heap.SameBut.update s.heap a (Obj.putSet es1 t1)
   split
   ·have rp:=relayAll_perm t1 es1 (SetTable.grown es1.size)
    have rf:=relayAll_fits t1 es1 (SetTable.grown es1.size)
    have rk:=ai9 lk es1 (SetTable.grown es1.size)
    generalize relayAll t1 es1 (SetTable.grown es1.size)=L at rp rf rk ⊢
    obtain ⟨es2,t2,gave2⟩:=L
    dsimp only at rp rf rk ⊢
    have sz2:es2.size=es1.size:=by rw [<- ax0,rp.length_eq,ax0]
    obtain ⟨ms2,i2,p2⟩:=xV (rp.map (·.2)) i1
    refine ar6 (gw _ _ _ ?_)
    refine ar6 (wpAny_storeSet_of ho1 rfl ?_ (fits_of_scanBound (by omega)))
    exact as2 (as2 (h _ _ ms2 (sb1.trans (Heap.SameBut.update _ a _)) ⟨es2,_,t2,xY ho1,el1.perm rp,i2,by omega,rf,rk⟩ (fun z=>absurd z km) fun _=>p2.trans p1))
   ·exact as2 (as2 (h _ _ ms1 sb1 ⟨es1,_,t1,ho1,el1,i1,hb1,lf,lk⟩ (fun z=>absurd z km) fun _=>p1)))
end
end Raw
namespace PP
open PySem L2
section
variable {X : Cx} {a b e o : Expr} {ta tb te to : aB} {tr : bS} {pos p2 apos cpos : Pos} {σ : St} {H : Hp} {Q' : VK}
def nM:List PV->(PV->Prop)->Prop:=fun xs Q=>(∃ i,xs = [.int i]/\Q (.int i)) ∨ ∃ k,xs = [.bl k]/\Q (.int (if k then 1 else 0))
theorem aj1:dX X nM (fun xs H Q=>(∃ i,xs = [.int i]/\Q (.int i) H) ∨ ∃ k,xs = [.bl k]/\Q (.int (if k then 1 else 0)) H):=by
 rintro H vs xs Q Q' r (⟨i,rfl,q⟩ | ⟨i,rfl,q⟩) k
 ·obtain ⟨v,rfl,r1⟩:=r.one
  cases r1
  exact .inl ⟨i,rfl,k _ _ _ (aA.refl _) (.int _) q⟩
 ·obtain ⟨v,rfl,r1⟩:=r.one
  cases r1
  exact .inr ⟨i,rfl,k _ _ _ (aA.refl _) (.int _) q⟩
theorem xZ (B:Bt X.mg) (ha:QA X [e] tr) (hg:Gl X "int":=by rfl) (he:starEach [e] X.env=(false,eval e X.env) :: starEach [] X.env:=by rfl) (hpl:(backTo pos (starEach [] X.env)).any (·.1)=false:=by rfl):QE X (.Call (.Name "int" p2) [e] [] pos) (aH nM tr):=
 vI G3 aj1 hg B.int PyProof.Rows.boot_int ha (he:=he) (hpl:=hpl)
end
section
variable {X : Cx} {a b e : Expr} {ta tb te : aB} {tr : bS} {pos : Pos} {σ : St} {H : Hp} {Q' : VK} {es : List Expr}
def y9:PV->Tg->PV->Tg->PK->Prop:=fun x _ y _ Q=>∃ i j:Str,x = .str i/\y = .str j/\i.length+j.length<=1000/\Q (.str (i ++ j)) .fr
abbrev yA (ta tb:aB):aB:=q2 y9 ta tb
theorem aj2:cF X y9 (fun x y H Q=>∃ i j:Str,x = .str i/\y = .str j/\i.length+j.length<=sizeLine/\Q (.str (i ++ j)) H):=by
 rintro W Hs H u v x y g g' Q Q' s n r1 r2 ⟨i,j,rfl,rfl,h,q⟩ k
 cases r1; cases r2
 exact⟨i,j,rfl,rfl,lZ h,k _ _ _ _ (aA.refl _) (.str _) q⟩
theorem aj3 (ha:QE X a ta) (hb:QE X b tb):QE X (.BinOp a .Add b pos) (yA ta tb):=eW G0 aj2 ha hb
def yB:R2:=fun x y H Q=>∃ (i:Str) (k:Bool),x = .str i/\y = .int (if k then 1 else 0)/\Q (.str (if k then i else Str.empty)) H
theorem aj4:b8 X (binaryOp .Mult) yB:=by
 intro pins s σ H x y v u Q I rx ry h
 obtain ⟨i,k,rfl,rfl,q⟩:=h
 obtain ⟨t,rfl⟩:=rx
 obtain ⟨t',rfl⟩:=ry
 cases k with
 | true=>exact SB.mul (n:=1) ⟨by decide,fun _ z=>by simp at z,fun _ z=>by simp at z⟩ fun t' tk=>⟨.str i,H,I.tok _,⟨t',by simp [Txt.mul]⟩,q⟩
 | false=>exact SB.mul (n:=0) ⟨by decide,fun z=>absurd (by decide) z,fun z=>absurd (by decide) z⟩ fun t' tk=>⟨.str Str.empty,H,I.tok _,⟨t',by simp [Txt.mul]⟩,q⟩
def yC:PV->Tg->PV->Tg->PK->Prop:=fun x _ y _ Q=>∃ (i:Str) (k:Bool),x = .str i/\y = .int (if k then 1 else 0)/\Q (.str (if k then i else Str.empty)) .fr
abbrev rN (ta tb:aB):aB:=q2 yC ta tb
theorem aj5:cF X yC yB:=by
 rintro W Hs H u v x y g g' Q Q' s n r1 r2 ⟨i,j,rfl,rfl,q⟩ k
 cases r1; cases r2
 exact⟨i,j,rfl,rfl,k _ _ _ _ (aA.refl _) (.str _) q⟩
theorem yD (ha:QE X a ta) (hb:QE X b tb):QE X (.BinOp a .Mult b pos) (rN ta tb):=eW aj4 aj5 ha hb
def gU (neg:Bool):PV->Tg->PV->Tg->PK->Prop:=fun x _ y _ Q=>∃ i j:Str,x = .str i/\y = .str j/\Q (.bl (if neg=true then !decide (i=j) else decide (i=j))) .fr
theorem yE (i j:Str):decide (V.str i=V.str j)=decide (i=j):=by
 rw [aB4,au7,au7]; exact⟨fun z=>V.str.inj z,fun z=>congrArg V.str z⟩
theorem aj6:cF X (gU true) oE:=by
 rintro W Hs H u v x y g g' Q Q' s n r1 r2 ⟨i,j,rfl,rfl,q⟩ k
 cases r1; cases r2
 exact⟨rfl,by rw [yE]; exact k _ _ _ _ (aA.refl _) (.bl _) q⟩
theorem aj7:cF X (gU false) oD:=by
 rintro W Hs H u v x y g g' Q Q' s n r1 r2 ⟨i,j,rfl,rfl,q⟩ k
 cases r1; cases r2
 exact⟨rfl,by rw [yE]; exact k _ _ _ _ (aA.refl _) (.bl _) q⟩
theorem rO (ha:QE X a ta) (hb:QE X b tb):QT X (.Compare a [.NotEq] [b] pos) (aR (q2 (gU true) ta tb)):=gN t5 aj6 ha hb (dO _)
theorem aj8 (ha:QE X a ta) (hb:QE X b tb):QE X (.Compare a [.Eq] [b] pos) (q2 (gU false) ta tb):=k7 t0 aj7 ha hb (dO _)
end
end PP
namespace Core
open PySem L2 PP
def uB (ws:List Int) (ls:List (Int × Int)) (ns R:List Int):Prop:=xS ws ls ns R=true/\ag3 ws ls (ns ++ R)
end Core
namespace PP
open PySem L2
section
variable {X : Cx} {a b : Expr} {ta tb : aB} {pos : Pos}
def yF:PV->Tg->PV->Tg->PK->Prop:=fun x _ y _ Q=>∃ ns ms:List Int,x = .tup (intz ns)/\y = .tup (intz ms)/\Q (.bl (HT.bI ns ms)) .fr
theorem aj9:cF X yF (oO X.K):=by
 rintro W Hs H u v x y g g' Q Q' s n r1 r2 ⟨ns,ms,rfl,rfl,q⟩ k
 obtain ⟨p1,us,rfl,h1,r1⟩:=r1.sqT
 obtain ⟨p2,vs,rfl,h2,r2⟩:=r2.sqT
 obtain rfl:=r1.ofInts
 obtain rfl:=r2.ofInts
 exact⟨p1,p2,ns,ms,rfl,rfl,aG.of h1,aG.of h2,k _ _ _ _ (aA.refl _) (.bl _) q⟩
end
end PP
namespace L2
open PySem PySem.Spec PyProof.Rows PP
section
variable {prog : Program} {w : World} {A : Around} {R : Result → Shared → Prop} {I S : Addr} {n : Nat} {l : Addr} {its : Array Value} {s0 : Shared} {bt : Nat → Nat → Bool}
abbrev at_ (s:Shared) (h:Heap) (k:Nat):Shared:={ s with heap:=h,toks:=k }
abbrev ak0 (g h:Heap):Prop:=∀ b o,g.get? b=some o->h.get? b=some o
def bJ (prog:Program) (w:World) (A:Around) (s0:Shared) (its:Array Value) (bt:Nat->Nat->Bool):Prop:=
 ∀ (i j:Nat) (v u:Value) (h:Heap) (k:Nat) (Q E:Value->Shared->Prop),its[i]? = some v->its[j]? = some u->ak0 s0.heap h->Q (.bool (bt i j)) (at_ s0 h k)->wpAny (model prog w) A (richCompare .Lt v u) Q E (at_ s0 h k)
end
end L2
namespace Core
open PySem L2 PP
def FB (L:List (List Int)) (f:List Int->Int) (r:List Int):Prop:=∃ i,L[i]? = some r/\(∀ (j:Nat) (s:List Int),j < i->L[j]? = some s->f s < f r)/\∀ s ∈ L,f s<=f r
end Core
namespace L2
open PySem PySem.Spec PyProof.Rows
section
variable {prog : Program} {w : World} {A : Around} {E : Value → Shared → Prop} {s : Shared} {l : Addr} {xs : Array (Int × Tok)}
theorem yG {Q:Value->Shared->Prop} (hl:s.heap.IsTuple l (intItems xs))
  (h:∀ h2:Heap,(h2.IsTupleIter s.heap.objs.size l 0/\h2.IsTuple l (intItems xs))->(∀ b ∈ [s.heap.objs.size,l],b < h2.objs.size)->l ≠ s.heap.objs.size->(∀ b o,s.heap.get? b=some o->b ∉ [s.heap.objs.size]/\h2.get? b=some o)->Q (.ref s.heap.objs.size) { s with heap:=h2 }):wpAny (model prog w) A (pyIter (.ref l)) Q E s:=by
 have lb:l < s.heap.objs.size:=by obtain ⟨_,e,_⟩:=hl; exact as8 e
 refine wpAny_pyIter_tuple hl (h _ ⟨⟨_,au5 _ rfl,rfl,rfl⟩,hl.push _⟩ (fun b hb=>?_) (av4 lb) fun b o e=>⟨fun hm=>?_,ar7 _ e⟩)
 ·rw [aC5]
  rcases as4.mp hb with rfl | hb
  ·exact Nat.lt_succ_self _
  ·rw [au2.mp hb]; exact Nat.lt_succ_of_lt lb
 ·rw [au2.mp hm] at e
  exact absurd (as8 e) (ax6 _)
theorem ak1 {Q:Value->Shared->Prop} (hh:A.handled=none) (hl:s.heap.IsTuple l (intItems xs)) (hne:0 < xs.size)
  (h:∀ v h' tk,(intItems xs)[argBest (fun i j=>decide (numAt xs i > numAt xs j)) (xs.size - 1)]? = some v->(∀ b o,s.heap.get? b=some o->h'.get? b=some o)->Q v { s with heap:=h',toks:=tk }):wpAny (model prog w) A (call (.builtin "max") [.ref l]) Q E s:=by
 refine call_max_walk (yG hl fun h2 st hfp ne old=>?_)
 exact⟨_,_,_,_,_,_,_,rfl,Walks.tuple (A:=A.in1) hh _ l ne (intItems xs),st,hfp,by simpa [intItems] using hne,CmpOf.ints_gt (numAt xs) (fun _ _=>intItems_at),fun v h' tk hP hk=>h v h' tk (by simpa [intItems] using hP) fun b o e=>hk b o (old b o e).1 (old b o e).2⟩
theorem ak2 {Q:Value->Shared->Prop} (hh:A.handled=none) (hl:s.heap.IsTuple l (intItems xs)) (hne:0 < xs.size)
  (h:∀ v h' tk,(intItems xs)[argBest (fun i j=>decide (numAt xs i < numAt xs j)) (xs.size - 1)]? = some v->(∀ b o,s.heap.get? b=some o->h'.get? b=some o)->Q v { s with heap:=h',toks:=tk }):wpAny (model prog w) A (call (.builtin "min") [.ref l]) Q E s:=by
 refine call_min_walk (yG hl fun h2 st hfp ne old=>?_)
 exact⟨_,_,_,_,_,_,_,rfl,Walks.tuple (A:=A.in1) hh _ l ne (intItems xs),st,hfp,by simpa [intItems] using hne,CmpOf.ints_lt (numAt xs) (fun _ _=>intItems_at),fun v h' tk hP hk=>h v h' tk (by simpa [intItems] using hP) fun b o e=>hk b o (old b o e).1 (old b o e).2⟩
end
section
variable {X : Cx}
theorem ak3 (hc:X.calm=true):cB X (.builtin "max") (fun xs H Q=>∃ (a:Addr) (ns:List Int),xs = [.ref a]/\aG X.K H a (ns.map V.int)/\ns ≠ []/\∀ M:Int,M ∈ ns->(∀ x ∈ ns,x<=M)->Q (.int M) H):=by
 intro pins s σ H xs us Q I r h
 obtain ⟨a,ns,rfl,hq,ne,q⟩:=h
 obtain ⟨u,rfl,ru⟩:=fC r
 cases ru
 obtain ⟨its,rv,p,hz⟩:=I.tuple hq
 have ia:=jR rv
 obtain ⟨ys,ey⟩:=ia.allInts.items
 have en:ns=ys.toList.map (·.1):=by
  have e1:=nums_intItems ys
  rw [<- ey] at e1
  exact ia.numsOf.symm.trans e1
 have pos:0 < ys.size:=Nat.pos_of_ne_zero fun z=>ne (by rw [en,Array.eq_empty_of_size_eq_zero z]; rfl)
 have hl:s.heap.IsTuple a (intItems ys):=by rw [<- ey]; exact p
 refine ak1 (I.ok.hd hc) hl pos fun v h' tk ev old=>?_
 obtain ⟨t,rfl⟩:=intItems_at ev
 have best:=argBest_gt (numAt ys) (ys.size - 1)
 have mem:∀ x:Int,x ∈ ns ↔ ∃ j,j < ys.size/\numAt ys j=x:=fun x=>by
  rw [en]
  constructor
  ·intro z
   obtain ⟨j,hj,e⟩:=mem_getD z
   exact⟨j,by simpa using hj,by rw [numAt_eq]; exact e⟩
  ·rintro ⟨j,hj,rfl⟩
   rw [numAt_eq]
   exact getD_mem (by simpa using hj)
 refine⟨.int _,H,I.kept (t':=tk) (h':=h') old,⟨t,rfl⟩,q _ ?_ fun x hx=>?_⟩
 ·exact (mem _).mpr ⟨_,by have:=best.1; omega,rfl⟩
 ·obtain ⟨j,hj,rfl⟩:=(mem x).mp hx
  exact best.2 j (by omega)
theorem ak4 (hc:X.calm=true):cB X (.builtin "min") (fun xs H Q=>∃ (a:Addr) (ns:List Int),xs = [.ref a]/\aG X.K H a (ns.map V.int)/\ns ≠ []/\∀ M:Int,M ∈ ns->(∀ x ∈ ns,M<=x)->Q (.int M) H):=by
 intro pins s σ H xs us Q I r h
 obtain ⟨a,ns,rfl,hq,ne,q⟩:=h
 obtain ⟨u,rfl,ru⟩:=fC r
 cases ru
 obtain ⟨its,rv,p,hz⟩:=I.tuple hq
 have ia:=jR rv
 obtain ⟨ys,ey⟩:=ia.allInts.items
 have en:ns=ys.toList.map (·.1):=by
  have e1:=nums_intItems ys
  rw [<- ey] at e1
  exact ia.numsOf.symm.trans e1
 have pos:0 < ys.size:=Nat.pos_of_ne_zero fun z=>ne (by rw [en,Array.eq_empty_of_size_eq_zero z]; rfl)
 have hl:s.heap.IsTuple a (intItems ys):=by rw [<- ey]; exact p
 refine ak2 (I.ok.hd hc) hl pos fun v h' tk ev old=>?_
 obtain ⟨t,rfl⟩:=intItems_at ev
 have best:=argBest_lt (numAt ys) (ys.size - 1)
 have mem:∀ x:Int,x ∈ ns ↔ ∃ j,j < ys.size/\numAt ys j=x:=fun x=>by
  rw [en]
  constructor
  ·intro z
   obtain ⟨j,hj,e⟩:=mem_getD z
   exact⟨j,by simpa using hj,by rw [numAt_eq]; exact e⟩
  ·rintro ⟨j,hj,rfl⟩
   rw [numAt_eq]
   exact getD_mem (by simpa using hj)
 refine⟨.int _,H,I.kept (t':=tk) (h':=h') old,⟨t,rfl⟩,q _ ?_ fun x hx=>?_⟩
 ·exact (mem _).mpr ⟨_,by have:=best.1; omega,rfl⟩
 ·obtain ⟨j,hj,rfl⟩:=(mem x).mp hx
  exact best.2 j (by omega)
end
end L2
namespace PP
open PySem L2
section
variable {X : Cx} {a b e : Expr} {ta tb : aB} {tr : bS} {pos p2 : Pos}
def rP:List PV->(PV->Prop)->Prop:=fun xs Q=>∃ ns:List Int,xs = [.tup (intz ns)]/\ns ≠ []/\∀ M:Int,M ∈ ns->(∀ x ∈ ns,x<=M)->Q (.int M)
def rQ:List PV->(PV->Prop)->Prop:=fun xs Q=>∃ ns:List Int,xs = [.tup (intz ns)]/\ns ≠ []/\∀ M:Int,M ∈ ns->(∀ x ∈ ns,M<=x)->Q (.int M)
theorem ak5:dX X rP (fun xs H Q=>∃ (a:Addr) (ns:List Int),xs = [.ref a]/\aG X.K H a (ns.map V.int)/\ns ≠ []/\∀ M:Int,M ∈ ns->(∀ x ∈ ns,x<=M)->Q (.int M) H):=by
 rintro H vs xs Q Q' r ⟨ns,rfl,ne,q⟩ k
 obtain ⟨v,rfl,r1⟩:=r.one
 obtain ⟨a,us,rfl,h,r2⟩:=r1.sqT
 rw [r2.ofInts] at h
 exact⟨a,ns,rfl,aG.of h,ne,fun M m1 m2=>k _ _ _ (aA.refl _) (.int M) (q M m1 m2)⟩
theorem ak6:dX X rQ (fun xs H Q=>∃ (a:Addr) (ns:List Int),xs = [.ref a]/\aG X.K H a (ns.map V.int)/\ns ≠ []/\∀ M:Int,M ∈ ns->(∀ x ∈ ns,M<=x)->Q (.int M) H):=by
 rintro H vs xs Q Q' r ⟨ns,rfl,ne,q⟩ k
 obtain ⟨v,rfl,r1⟩:=r.one
 obtain ⟨a,us,rfl,h,r2⟩:=r1.sqT
 rw [r2.ofInts] at h
 exact⟨a,ns,rfl,aG.of h,ne,fun M m1 m2=>k _ _ _ (aA.refl _) (.int M) (q M m1 m2)⟩
theorem ak7 (B:Bt X.mg) (hc:X.calm=true) (ha:QA X [e] tr) (hg:Gl X "max":=by rfl) (he:starEach [e] X.env=(false,eval e X.env) :: starEach [] X.env:=by rfl) (hpl:(backTo pos (starEach [] X.env)).any (·.1)=false:=by rfl):QE X (.Call (.Name "max" p2) [e] [] pos) (aH rP tr):=
 gO (ak3 hc) ak5 hg B.max PyProof.Rows.boot_max ha (he:=he) (hpl:=hpl)
theorem ak8 (B:Bt X.mg) (hc:X.calm=true) (ha:QA X [e] tr) (hg:Gl X "min":=by rfl) (he:starEach [e] X.env=(false,eval e X.env) :: starEach [] X.env:=by rfl) (hpl:(backTo pos (starEach [] X.env)).any (·.1)=false:=by rfl):QE X (.Call (.Name "min" p2) [e] [] pos) (aH rQ tr):=
 gO (ak4 hc) ak6 hg B.min PyProof.Rows.boot_min ha (he:=he) (hpl:=hpl)
def yH (K:PySem.W.Frag):R2:=fun x y H Q=>fB (fun i j=>.bl (decide (i < j))) x y H Q ∨ oO K x y H Q
theorem ak9 (hu:X.A.units < cLine):b8 X (compareOp .Lt) (yH X.K):=by
 intro pins s σ H x y v u Q I rx ry h
 rcases h with h | h
 ·exact oF pins s σ H x y v u Q I rx ry h
 ·exact L6 hu pins s σ H x y v u Q I rx ry h
def nN:PV->Tg->PV->Tg->PK->Prop:=fun x g y g' Q=>cX (fun i j=>.bl (decide (i < j))) x g y g' Q ∨ yF x g y g' Q
theorem al0:cF X nN (yH X.K):=by
 intro W Hs H u v x y g g' Q Q' s n r1 r2 h k
 rcases h with h | h
 ·exact .inl (hV W Hs H u v x y g g' Q Q' s n r1 r2 h k)
 ·exact .inr (aj9 W Hs H u v x y g g' Q Q' s n r1 r2 h k)
theorem al1 (hu:X.A.units+1 < cLine) (ha:QE X a ta) (hb:QE X b tb):QE X (.Compare a [.Lt] [b] pos) (q2 nN ta tb):=k7 (ak9 (by omega)) al0 ha hb (dO _)
end
end PP
namespace L2
open PySem PySem.Spec PyProof.Rows
section
variable {X : Cx}
def yI (K:PySem.W.Frag) (ta:TA):TI:=fun σ H R=>ta σ H fun vs H1=>∃ a b,vs = [.ref a,.ref b]/\((∃ xs ys,aG K H1 a xs/\aG K H1 b ys/\R (pB K a b) H1) ∨ ∃ xs ys,aJ K H1 a xs/\aJ K H1 b ys/\R (pD K a b) H1)
theorem al2 {elts:List Expr}{kt:Nat}{pt:Pos}{a b:Expr}{ta:TA}{p pos:Pos} (hg:Gl X "zip") (hm:X.mg "zip" = none) (ha:PA X [a,b] ta) (hs:starEach [a,b] X.env = [(false,eval a X.env),(false,eval b X.env)]:=by rfl) (hs2:starEach [b] X.env = [(false,eval b X.env)]:=by rfl) :
  PI X (.Tuple elts kt pt) (.Call (.Name "zip" p) [a,b] [] pos) (yI X.K ta):=by
 intro pins s σ H R I h
 refine Call_ (iI I hg hm PyProof.Rows.boot_zip (aB6 (aK (ha pos pins s σ H _ I h) fun us s1 ⟨vs,H1,I1,r1,q1⟩=>?_) (by rw [hs,hs2]) (by rw [hs2]; rfl)))
 obtain ⟨a',b',e,q1⟩:=q1
 subst e
 obtain ⟨u1,u2,rfl,r,r'⟩:=aF.two r1
 cases r
 cases r'
 have fresh:∀ k,H1 (s1.heap.objs.size+k)=none:=fun k=>I1.hok.fresh (Nat.le_add_right _ _)
 have fp:∀ c ∈ [s1.heap.objs.size+4,s1.heap.objs.size+2,s1.heap.objs.size+3,s1.heap.objs.size,s1.heap.objs.size+1],dN X pins H1 c:=fun c hc=>by
  simp only [as4,at9,az3] at hc
  rcases hc with rfl | rfl | rfl | rfl | rfl
  ·exact I1.fpOk (Nat.le_add_right _ _) (fresh 4)
  ·exact I1.fpOk (Nat.le_add_right _ _) (fresh 2)
  ·exact I1.fpOk (Nat.le_add_right _ _) (fresh 3)
  ·exact I1.fpOk (as3 _) (fresh 0)
  ·exact I1.fpOk (Nat.le_add_right _ _) (fresh 1)
 rcases q1 with ⟨xs,ys,h1,h2,q⟩ | ⟨xs,ys,h1,h2,q⟩
 ·obtain ⟨us,_,p1,_⟩:=I1.tuple h1
  obtain ⟨ws,_,p2,_⟩:=I1.tuple h2
  refine Zp.Q5 p1 p2 fun h' z ti to s1' s2' kp=>wpAny_pyIter_zip z ?_
  exact⟨s1.heap.objs.size+4,[s1.heap.objs.size+4,s1.heap.objs.size+2,s1.heap.objs.size+3,s1.heap.objs.size,s1.heap.objs.size+1],_,_,H1,rfl,I1.kept (t':=s1.toks) kp,Q8 a' b' _ _ _ _ _ (by simp),⟨z,ti,⟨_,_,to⟩,s1',s2'⟩,fp,q⟩
 ·obtain ⟨us,_,p1,_⟩:=I1.list h1
  obtain ⟨ws,_,p2,_⟩:=I1.list h2
  refine call_zip_2 p1.isList p2.isList fun h' z ti to s1' s2' _ kp=>wpAny_pyIter_zip z ?_
  exact⟨s1.heap.objs.size+4,[s1.heap.objs.size+4,s1.heap.objs.size+2,s1.heap.objs.size+3,s1.heap.objs.size,s1.heap.objs.size+1],_,_,H1,rfl,I1.kept (t':=s1.toks) kp,R5 a' b' _ _ _ _ _ (by simp),⟨z,ti,⟨_,_,to⟩,s1',s2'⟩,fp,q⟩
end
end L2
namespace PP
open PySem L2
theorem al3 {K:PySem.W.Frag}{H0:Hp}{W:Addr->Prop}{g:Bool}{H1:Hp}{a b:Addr}{us vs:List V}{xs ys:List PV} (tw:∀ a,W a->∃ o,H1 a=some o/\eQ o=true) (ha:∀ W' H',Ev W H1 W' H'->aJ K H' a us) (hb:∀ W' H',Ev W H1 W' H'->aJ K H' b vs)
  (r:Reps K (Ms H0 W g) H1 us xs) (r':Reps K (Ms H0 W g) H1 vs ys):iN K H0 W g H1 (pD K a b) (fJ xs ys):=by
 have lr:=r.length
 have lr':=r'.length
 have ll:=qX xs ys
 refine⟨fun W' H' i e hi=>⟨us,vs,us[i]'(by omega),vs[i]'(by omega),ha W' H' e,hb W' H' e,by simp,by simp⟩,fun W' H' i v H2 e y hi=>?_,fun W' H' e=>⟨us,vs,ha W' H' e,hb W' H' e,by omega⟩⟩
 obtain ⟨T,x,y',hT,rfl,rfl,y⟩:=y
 obtain ⟨h1,h2⟩:=y us vs (ha W' _ e) (hb W' _ e)
 obtain ⟨z,hz,rz⟩:=r.get h1
 obtain ⟨z',hz',rz'⟩:=r'.get h2
 have sm:=bR hT (HO.tup [x,y'])
 exact⟨sm,_,xC hz hz',.tup cD (.cons ((rz.keep (e.keep tw)).same sm fun _ q=>q) (.cons ((rz'.keep (e.keep tw)).same sm fun _ q=>q) .nil))⟩
section
variable {X : Cx} {σ : L2.St} {H : Hp} {ta tb : aB} {R : It → Hp → Prop}
def rR (ta tb:aB):dH:=fun ρ Q=>ta ρ fun x g0=>tb ρ fun y g=>∃ xs ys,((x = .tup xs/\y = .tup ys) ∨ (x = .lst xs/\y = .lst ys/\g0 ≠ .rd/\g ≠ .rd))/\flats xs=true/\flats ys=true/\Q (fJ xs ys) true
theorem yJ {K:PySem.W.Frag}{H0 Hs:Hp}{W:Addr->Prop}{σ:L2.St}{ρ:aW}{g:Tg}{b:Addr} (px:PX K H0 W σ ρ Hs) (ng:g ≠ .rd) (m:Mg H0 W Hs g b) : ¬ W b:=by
 cases g with
 | fr=>exact (px.new m).1
 | nw=>exact m.1
 | sh=>exact m
 | rd=>exact absurd rfl ng
theorem al4 (h:LI X (rR ta tb) σ H R):yI X.K (fD (LE X ta) (fD (LE X tb) gH)) σ H R:=by
 obtain ⟨W,ρ,Q,px,q,k⟩:=h
 refine⟨W,ρ,_,px,q,fun v0 H0 x0 g0 s0 r0 q0=>⟨W,ρ,_,px.mono s0,q0,?_⟩⟩
 rintro v H1 x g s r ⟨xs,ys,c,fx,fy,q⟩
 have S:=s0.trans s
 have px1:=px.mono S
 have tw:∀ a,W a->∃ o,H1 a=some o/\eQ o=true:=fun a z=>(px1.wm a z).2
 rcases c with ⟨rfl,rfl⟩ | ⟨rfl,rfl,n0,n1⟩
 ·obtain ⟨a,us,rfl,h1,ra⟩:=(r0.same (M':=fun _=>True) s fun _ _=>trivial).sqT
  obtain ⟨b,vs,rfl,h2,rb⟩:=r.sqT
  have sta:∀ {c us},H1 c=some (.tup us)->∀ W' H',Ev W H1 W' H'->aG X.K H' c us:=fun {c us} hc W' H' e=>aG.of (e _ _ hc fun z=>by obtain ⟨o,h',mu⟩:=tw _ z; rw [hc] at h'; cases h'; cases mu).1
  exact⟨a,b,rfl,.inl ⟨us,vs,aG.of h1,aG.of h2,k _ _ _ _ S (ag7 tw (sta h1) (sta h2) (ra.flat fx) (rb.flat fy)) q⟩⟩
 ·obtain ⟨a,us,rfl,m0,h1,ra⟩:=(r0.same s fun _ z=>z).sqL
  obtain ⟨b,vs,rfl,m1,h2,rb⟩:=r.sqL
  have w0:=yJ px n0 m0
  have w1:=yJ (px.mono s0) n1 m1
  exact⟨a,b,rfl,.inr ⟨us,vs,aJ.of h1,aJ.of h2,k _ _ _ _ S (al3 tw (fun W' H' e=>aJ.of (e _ _ h1 w0).1) (fun W' H' e=>aJ.of (e _ _ h2 w1).1) (ra.flat fx) (rb.flat fy)) q⟩⟩
theorem al5 {elts:List Expr}{kt:Nat}{pt p2 pos:Pos}{a b:Expr} (B:Bt X.mg) (ha:QE X a ta) (hb:QE X b tb) (hg:Gl X "zip":=by rfl) (hs:starEach [a,b] X.env = [(false,eval a X.env),(false,eval b X.env)]:=by rfl) (hs2:starEach [b] X.env = [(false,eval b X.env)]:=by rfl):QI X (.Tuple elts kt pt) (.Call (.Name "zip" p2) [a,b] [] pos) (rR ta tb):=
 mE (al2 hg B.zip (dP ha (dP hb fO hs2) (by rw [hs,hs2])) hs hs2) fun _ _ _=>al4
end
end PP
namespace Core
open PySem L2 PP
theorem al6 (xs:List PV):iS xs (some 1) none=xs.drop 1:=by
 unfold iS
 have e1:HT.aL xs.length 0 (some 1)=min 1 xs.length:=by
  show (if (1:Int) < 0 then ((1:Int)+(xs.length:Int)).toNat else min (1:Int).toNat xs.length)=_
  rw [if_neg (by decide)]; rfl
 rw [e1]
 show (xs.drop (min 1 xs.length)).take (xs.length - min 1 xs.length)=_
 rw [av2 (by rw [aC0]; exact as3 _)]
 cases xs with
 | nil=>rfl
 | cons x xs=>rw [show min 1 (x :: xs).length=1 by simp]
def nO {α:Type} (lt:α->α->Bool) (A:List α):Bool:=((A.zip (A.drop 1)).map fun p=>lt p.1 p.2).all id
def rS:bL:=fun xs Q=>∃ x,xs = [x]/\((∃ ns,e9 x ns/\ns.length<=1000/\Q (.bl (nD ns))) ∨ ∃ ls:List (Int × Int),x = .lst (aI ls)/\ls.length<=4096/\∀ b:Bool,(b=true ↔ ls.Pairwise bW)->Q (.bl b))
def yK:aM:=(bH (aH m8 (a7 (e8 (rR (a6 0) (vB (a6 0) (vA (qC (.int 1))) v9)) [none,none] (pT 0 1) eI (q2 nN (a6 0) (a6 1))) aC)))
theorem yL {α:Type} (f:α->PV) (lt:α->α->Bool) (fl:∀ a,flat (f a)=true) (hlt:∀ (a b:α) (g g':Tg) (K:PK),K (.bl (lt a b)) .fr->nN (f a) g (f b) g' K) (A:List α) (la:A.length<=10000) (x:PV) (hx:x = .tup (A.map f) ∨ x = .lst (A.map f)) {Q:PV->Prop} (q:Q (.bl (nO lt A))) :
  yK { nx:=fun _=>Q .non,rt:=Q } [some (.sh (flat x) x)]:=by
 have fls:∀ B:List α,flats (B.map f)=true:=fun B=>by
  induction B with
  | nil=>rfl
  | cons b B ih=>show (flat (f b) && flats (B.map f))=true; rw [fl,ih]; rfl
 have sx:seqT x=some (A.map f):=by rcases hx with rfl | rfl <;> rfl
 have cut:iS (A.map f) (some 1) none=(A.drop 1).map f:=by rw [al6,List.map_drop]
 refine⟨_,rfl,_,rfl,_,rfl,_,sx,fls A,?_⟩
 rw [cut]
 refine⟨A.map f,(A.drop 1).map f,?_,fls A,fls _,?_⟩
 ·rcases hx with rfl | rfl
  ·exact .inl ⟨rfl,rfl⟩
  ·refine .inr ⟨rfl,rfl,?_,fun z=>by cases z⟩
   cases flat (.lst (A.map f)) <;> intro z <;> cases z
 have zl:(fJ (A.map f) ((A.drop 1).map f)).length=A.length - 1:=by rw [qX,at4,at4,aC0]; omega
 refine⟨by rw [zl]; omega,fun i acc=>acc=xQ (((A.zip (A.drop 1)).take i).map fun p=>lt p.1 p.2),rfl,?_,?_⟩
 ·rintro i y acc hy rfl
  obtain ⟨u,v,h1,h2,rfl⟩:=ag6 hy
  rw [au9] at h1 h2
  cases ha:A[i]? with
  | none=>rw [ha] at h1; cases h1
  | some a=>
   cases hb:(A.drop 1)[i]? with
   | none=>rw [hb] at h2; cases h2
   | some b=>
    rw [ha] at h1
    rw [hb] at h2
    cases h1
    cases h2
    have hz:(A.zip (A.drop 1))[i]? = some (a,b):=List.getElem?_zip_eq_some.mpr ⟨ha,hb⟩
    refine⟨_,_,rfl,_,rfl,_,rfl,hlt a b _ _ _ ⟨trivial,?_⟩⟩
    dsimp only
    rw [aD6,hz,av1]
    unfold xQ
    rw [av1]; rfl
 ·rintro acc rfl
  rw [av2 (by rw [zl,List.length_zip,aC0]; omega)]
  exact⟨_,rfl,trivial,q⟩
theorem al7 (ls:List (Int × Int)):nO (fun a b=>HT.bI [a.1,a.2] [b.1,b.2]) ls=true ↔ ls.Pairwise bW:=by
 have lt2:∀ a b:Int × Int,HT.bI [a.1,a.2] [b.1,b.2]=true ↔ bW a b:=fun a b=>by
  unfold bW
  rw [HT.gI,HT.gI,HT.oN]
  by_cases h1:a.1=b.1
  ·rw [if_pos h1]
   by_cases h2:a.2=b.2
   ·rw [if_pos h2]
    exact⟨fun z=>(by cases z),fun z=>(by omega)⟩
   ·rw [if_neg h2,au7]; omega
  ·rw [if_neg h1,au7]; omega
 induction ls with
 | nil=>exact⟨fun _=>.nil,fun _=>rfl⟩
 | cons a r ih=>
  cases r with
  | nil=>exact⟨fun _=>List.pairwise_singleton _ _,fun _=>rfl⟩
  | cons b r=>
   have e:nO (fun a b:Int × Int=>HT.bI [a.1,a.2] [b.1,b.2]) (a :: b :: r)=(HT.bI [a.1,a.2] [b.1,b.2] && nO (fun a b:Int × Int=>HT.bI [a.1,a.2] [b.1,b.2]) (b :: r)):=rfl
   rw [e,az7,lt2,List.pairwise_cons]
   refine⟨fun ⟨h1,h2⟩=>⟨fun c hc=>?_,ih.mp h2⟩,fun ⟨h1,h2⟩=>⟨h1 b au6,ih.mpr h2⟩⟩
   rcases as4.mp hc with rfl | hc
   ·exact h1
   ·have:=(List.pairwise_cons.mp (ih.mp h2)).1 c hc
    unfold bW at *; omega
def eC (l:Int × Int):Int × Int:=(min l.1 l.2,max l.1 l.2)
def nP:bL:=fun xs Q=>∃ (n:Nat) (l:Int × Int),xs = [.int n,.tup [.int l.1,.int l.2]]/\0<=l.1/\l.1 < (n:Int)/\0<=l.2/\l.2 < (n:Int)/\l.1 ≠ l.2/\Q (.tup [.int (eC l).1,.int (eC l).2])
def yM:aM:=(aN (bB 2 (aH rQ (a7 (a6 1) aC)))
 (aN (bB 3 (aH rP (a7 (a6 1) aC)))
 (aN (c8 (eH (aR (iT (a6 2) (qC (.int 0)))) (aR (pV (a6 3) (a6 0)))) iV c7)
 (aN (c8 (aR (k4 (a6 2) (a6 3))) iV c7)
 (bH (b7 (a7 (a6 2) (a7 (a6 3) aC))))))))
theorem al8:eB yM ["many","link","one","other"] nP:=by
 rintro xs Q ⟨n,l,rfl,a0,a1,b0,b1,ne,q⟩
 refine⟨_,rfl,[l.1,l.2],rfl,(fun z=>by cases z),fun m m1 m2=>⟨trivial,?_⟩⟩
 refine⟨_,rfl,[l.1,l.2],rfl,(fun z=>by cases z),fun M M1 M2=>⟨trivial,?_⟩⟩
 have hm:m=(eC l).1:=by
  have h1:=m2 l.1 (by simp)
  have h2:=m2 l.2 (by simp)
  show m=min l.1 l.2
  rcases as4.mp m1 with z | z
  ·omega
  ·have:=au2.mp z; omega
 have hM:M=(eC l).2:=by
  have h1:=M2 l.1 (by simp)
  have h2:=M2 l.2 (by simp)
  show M=max l.1 l.2
  rcases as4.mp M1 with z | z
  ·omega
  ·have:=au2.mp z; omega
 have e1:(eC l).1=min l.1 l.2:=rfl
 have e2:(eC l).2=max l.1 l.2:=rfl
 subst hm hM
 refine⟨_,rfl,_,_,rfl,rfl,_,rfl,?_⟩
 dsimp only
 rw [as0 (by omega)]
 refine aQ ⟨_,rfl,_,rfl,_,_,rfl,rfl,_,rfl,?_⟩
 dsimp only
 rw [as0 (by omega)]
 refine aQ ⟨_,rfl,_,rfl,.inl ⟨_,_,rfl,rfl,_,rfl,?_⟩⟩
 show if decide ((eC l).1=(eC l).2)=true then _ else _
 rw [as0 (by omega)]
 exact aQ ⟨_,rfl,_,rfl,by show 2<=1000; decide,rfl,trivial,q⟩
def kU:bL:=fun xs Q=>∃ x y ws ls,xs = [x,y]/\e9 x ws/\ws.length<=40/\(∀ w ∈ ws,0<=w/\w<=60)/\(y = .tup (aI ls) ∨ y = .lst (aI ls))/\ls.length<=1700/\(∀ l ∈ ls,0<=l.1/\l.1 < (ws.length:Int)/\0<=l.2/\l.2 < (ws.length:Int)/\l.1 ≠ l.2)/\(ls.map eC).Nodup/\∀ ls',ls'.Perm (ls.map eC)->WL (ws.length:Int) ws ls'->Q (qT ws ls')
def yN:aM:=(aN (c8 (aR (iU (aH fX (a7 (a6 0) aC)) (qC (.int 40)))) iV c7)
 (aN (fY (i4 (a6 0)) (cK 2)
  (c8 (eH (aR (iT (a6 2) (qC (.int 0)))) (aR (iU (a6 2) (qC (.int 60))))) iV c7))
 (aN (bB 3 (aH rK (a7 (e8 (i4 (a6 1)) [none,some 0] (cK 0) eI (aH nP (a7 (aH fX (a7 (a6 1) aC)) (a7 (a6 0) aC)))) aC)))
 (aN (c8 (dW (aR (aH rS (a7 (a6 3) aC)))) iV c7)
 (bH (b7 (a7 (aH k6 (a7 (a6 0) aC)) (a7 (aH k6 (a7 (a6 3) aC)) aC))))))))
theorem al9:eB yN ["wants","links","want","pairs"] kU:=by
 rintro xs Q ⟨x,y,ws,ls,rfl,hx,few,hw,hy,l17,inn,nd,q⟩
 have sy:fW y=some (aI ls):=by rcases hy with rfl | rfl <;> rfl
 have fy:flats (aI ls)=true:=gD ls
 have pl:(aI ls).length=ls.length:=at4 _
 refine⟨_,rfl,_,_,rfl,hx.len,_,_,rfl,rfl,_,rfl,?_⟩
 dsimp only
 rw [as0 (by omega)]
 refine aQ ?_
 refine⟨_,rfl,_,hx.seq,ae1 hx,fun i ρ=>∃ y2,ρ = [some (.sh (flat x) x),some (.sh (flat y) y),y2,none],⟨none,rfl⟩,?_,?_⟩
 ·rintro i z ρ hz ⟨y2,rfl⟩
  obtain ⟨n,rfl,hn⟩:=j8 hz
  have:=hw n (List.mem_of_getElem? hn)
  refine xB ?_
  refine⟨_,rfl,_,_,rfl,rfl,_,rfl,?_⟩
  dsimp only
  rw [as0 (by omega)]
  refine aQ ⟨_,rfl,_,_,rfl,rfl,_,rfl,?_⟩
  dsimp only
  rw [as0 (by omega)]
  exact aQ ⟨_,rfl⟩
 rintro ρ ⟨y2,rfl⟩
 refine⟨_,rfl,_,sy,(fun z=>?_),by rw [pl]; omega,fun i acc=>acc=aI ((ls.take i).map eC),rfl,?_,?_⟩
 ·cases h:flat y with
  | true=>exact h
  | false=>rw [h] at z; cases z
 ·rintro i z acc hz rfl
  obtain ⟨l,rfl,hl⟩:=qU hz
  obtain ⟨a0,a1,b0,b1,ne⟩:=inn l (List.mem_of_getElem? hl)
  refine⟨_,rfl,_,_,rfl,hx.len,_,rfl,ws.length,l,rfl,a0,a1,b0,b1,ne,trivial,?_⟩
  dsimp only
  rw [aD6,hl,av1]
  unfold aI
  rw [av1]; rfl
 rintro acc rfl
 rw [pl,List.take_length]
 refine⟨(ls.map eC).map two,by rw [x4]; rfl,by rw [at4,at4]; omega,fun r hr=>by obtain ⟨l,_,rfl⟩:=az5.mp hr; rfl,fun Z pz so=>⟨trivial,?_⟩⟩
 obtain ⟨ls',rfl,pp⟩:=af1 pz
 have wl:WL (ws.length:Int) ws ls':=WL.perm rfl (fun l hl=>by
  obtain ⟨m,hm,rfl⟩:=az5.mp hl
  obtain ⟨a0,a1,b0,b1,ne⟩:=inn m hm
  show 0<=min m.1 m.2/\min m.1 m.2 < max m.1 m.2/\max m.1 m.2 < (ws.length:Int)
  omega) (by rw [at4]; exact l17) nd (fun w h=>(hw w h).1) pp so
 have ll:=pp.length_eq
 rw [at4] at ll
 rw [show ((ls'.map two).map fun r=>PV.tup (intz r))=aI ls' from (x4 ls').symm]
 refine⟨_,rfl,_,rfl,.inr ⟨ls',rfl,by omega,fun b hb=>?_⟩⟩
 refine⟨_,rfl,?_⟩
 rw [hb.mpr wl.ord]
 refine aQ ?_
 refine⟨_,rfl,⟨_,_,rfl,hx.seqT,jT _,?_⟩,hx.noscr⟩
 refine⟨_,rfl,⟨_,_,rfl,rfl,gD _,?_⟩,fun _ z=>by cases z⟩
 exact⟨by show 2<=1000; decide,ad8 ws ls',trivial,q ls' pp wl⟩
end Core
namespace PP
open PySem L2
theorem Df.weak {P:Program}{w:World}{K:PySem.W.Frag}{mg:Str->Option Value}{base:Heap}{k:Nat}{x:Str}{ps:List Str}{p p':bL} (d:Df P w K mg base k x ps p) (h:∀ xs Q,p' xs Q->p xs Q):Df P w K mg base k x ps p':=by
 obtain ⟨f,fd,F,r⟩:=d.ex
 exact⟨f,fd,F.imp fun vs H Q E ⟨xs,Qp,a,b,c⟩=>⟨xs,Qp,a,h _ _ b,c⟩,r⟩
end PP
namespace Core
open PySem L2 PP
theorem nQ {ls:List (Int × Int)} (h:ls.Pairwise bW):ls.Nodup:=h.imp fun {a b} z e=>by subst e; unfold bW at z; omega
theorem yO {a b:List (Int × Int)} (p:a.Perm b) (ha:a.Pairwise bW) (hb:b.Pairwise bW):a=b:=
 p.eq_of_pairwise (fun x y _ _ h1 h2=>by unfold bW at h1 h2; omega) ha hb
end Core
namespace PySem
theorem am0 (l:Addr) (items:Array Value) (n:Nat) (dd:Option Addr) (sl:Array (Option Value)) (x:Int) (u:Tok) (hx:x=1) :
  Meets (Builtin.«tuple.__mul__» ⟨[.ref l,.int x u],[]⟩) (fun _ R s=>s.heap.get? l=some { cls:=.type "tuple",dict:=dd,data:=.seq items n,slots:=sl }/\R (.ok (.ret (Value.ref l))) s):=
 .of_wp fun prog w A R s h=>by
  obtain ⟨hp,g,d,tk,os⟩:=s; obtain ⟨hl,h⟩:=h
  have c1:(decide (x < -(2 ^ 63)) || decide (x >= 2 ^ 63))=false:=by
   rw [Bool.or_eq_false_iff]; exact⟨as0 (by omega),as0 (by omega)⟩
  have c2:(items.isEmpty || x == 1)=true:=by rw [hx,show ((1:Int) == 1)=true from rfl,Bool.or_true]
  wp_walk
  exact⟨_,rfl,h⟩
end PySem
namespace PP
open PySem L2 PyProof.Rows
def yP (K:PySem.W.Frag):R2:=fun x y H Q=>∃ l k xs,x = .ref l/\y = .int k/\aG K H l xs/\xs ≠ []/\1<=k/\k<=1000000/\xs.length * k.toNat<=sizeLine/\(k=1->Q (.ref l) H)/\∀ p,H p=none->Q (.ref p) (upd H p (.tup (List.replicate k.toNat xs).flatten))
theorem am1 {X:Cx}:b8 X (binaryOp .Mult) (yP X.K):=by
 intro pins s σ H x y v u Q I rx ry h
 obtain ⟨l,k,xs,rfl,rfl,hH,hne,h1,h2,hz,q1,q⟩:=h
 by_cases hk:k=1
 ·subst hk
  cases rx
  obtain ⟨t,rfl⟩:=ry
  obtain ⟨its,r,p,_⟩:=I.tuple hH
  obtain ⟨⟨cls,dd,data,sl⟩,ho,hc,n,hd⟩:=id p
  simp only at hc hd
  subst hc hd
  exact wpAny_binaryOp_repeat_ref (T:="tuple") (U:="int") (by decide) ⟨_,ho,rfl⟩ (fun s'=>typeIs_int s' 1 t) wU F.fills_int_mul F.slot_int_rmul wV F.slot_int_index.lookup
   (call_meets F.slot_int_rmul (typeIs_int s 1 t) F.entry_int_rmul (F.args_int_rmul_2 _ _) (wW 1 t l its.toArray n dd sl)
    ⟨ho,rfl,⟨_,ho,rfl⟩,call_meets F.slot_tuple_mul ⟨_,ho,rfl⟩ F.entry_tuple_mul (F.args_tuple_mul_2 _ _) (am0 l its.toArray n dd sl 1 t rfl) ⟨ho,.ref l,H,I,rfl,q1 rfl⟩⟩)
 ·exact ae8 pins s σ H _ _ v u Q I rx ry ⟨l,k,xs,rfl,rfl,hH,hne,by omega,h2,hz,q⟩
section
variable {X : Cx} {a b e : Expr} {ta tb te : aB} {tr : bS} {pos p2 : Pos}
def rT:PV->Tg->PV->Tg->PK->Prop:=fun x _ y _ Q=>∃ xs n,x = .tup xs/\y = .int n/\flats xs=true/\xs ≠ []/\1<=n/\n<=1000000/\xs.length<=10/\Q (.tup (List.replicate n.toNat xs).flatten) .fr
theorem am2:cF X rT (yP X.K):=by
 rintro W Hs H u v x y g g' Q Q' s n r1 r2 ⟨xs,m,rfl,rfl,f,ne,h1,h2,hl,q⟩ k
 cases r2
 have r1':=r1
 obtain ⟨a,us,rfl,h,r⟩:=r1.sqT
 have lr:=r.length
 refine⟨a,m,us,rfl,rfl,aG.of h,fun z=>ne (by cases xs with | nil=>rfl | cons _ _=>rw [z] at lr; cases lr),h1,h2,lim ?_,fun e=>?_,fun p hp=>k _ _ _ .fr (bR hp _) (.tup cD (((r.flat f).rep m.toNat).same (bR hp _) fun _ z=>z)) q⟩
 ·have h3:us.length<=10:=by omega
  have h4:m.toNat<=1000000:=by omega
  calc us.length * m.toNat<=10 * 1000000:=Nat.mul_le_mul h3 h4
   _<=16000000:=by decide
 ·subst e
  rw [show (List.replicate (1:Int).toNat xs).flatten=xs by simp] at q
  exact k _ _ _ .fr (aA.refl _) (.tup h (r.flat f)) q
theorem am3 (ha:QE X a ta) (hb:QE X b tb):QE X (.BinOp a .Mult b pos) (q2 rT ta tb):=eW am1 am2 ha hb
theorem am4:cB X (.builtin "abs") (fun xs H Q=>∃ i,xs = [.int i]/\Q (.int (if i < 0 then -i else i)) H):=by
 intro pins s σ H xs us Q I r h
 obtain ⟨i,rfl,q⟩:=h
 obtain ⟨u,rfl,t,rfl⟩:=fC r
 exact call_abs_int fun u tk=>⟨.int _,H,I.tok _,⟨u,rfl⟩,q⟩
def cJ (i:Int):Int:=if i < 0 then -i else i
def kW:List PV->(PV->Prop)->Prop:=fun xs Q=>∃ i,xs = [.int i]/\Q (.int (cJ i))
theorem am5:dX X kW (fun xs H Q=>∃ i,xs = [.int i]/\Q (.int (if i < 0 then -i else i)) H):=by
 rintro H vs xs Q Q' r ⟨i,rfl,q⟩ k
 obtain ⟨v,rfl,r1⟩:=r.one
 cases r1
 exact⟨i,rfl,k _ _ _ (aA.refl _) (.int _) q⟩
theorem rV (hm:X.mg "abs" = none) (ha:QA X [e] tr) (hg:Gl X "abs":=by rfl) (he:starEach [e] X.env=(false,eval e X.env) :: starEach [] X.env:=by rfl) (hpl:(backTo pos (starEach [] X.env)).any (·.1)=false:=by rfl):QE X (.Call (.Name "abs" p2) [e] [] pos) (aH kW tr):=
 gO am4 am5 hg hm PyProof.Rows.Boot.«abs» ha (he:=he) (hpl:=hpl)
end
end PP
namespace Core
open PySem L2 PP
def kX:bL:=fun xs Q=>∃ x,xs = [x]/\((∃ ns,e9 x ns/\ns.length<=1000/\Q (.bl (nD ns))) ∨ ∃ ls:List (Int × Int),(x = .tup (aI ls) ∨ x = .lst (aI ls))/\ls.length<=4096/\∀ b:Bool,(b=true ↔ ls.Pairwise bW)->Q (.bl b))
abbrev yQ:aM:=yK
theorem am6:eB yQ ["things"] kX:=by
 rintro xs Q ⟨x,rfl,⟨ns,hx,hl,q⟩ | ⟨ls,hx,hl,q⟩⟩
 ·exact yL PV.int (fun a b=>decide (a < b)) (fun _=>rfl) (fun a b g g' K h=>.inl ⟨_,_,rfl,rfl,h⟩) ns (by omega) x hx q
 ·exact yL (fun l:Int × Int=>PV.tup [.int l.1,.int l.2]) (fun a b=>HT.bI [a.1,a.2] [b.1,b.2]) (fun _=>rfl) (fun a b g g' K h=>.inr ⟨_,_,rfl,rfl,h⟩) ls (by omega) x hx (q _ (al7 ls))
theorem am7:∀ xs Q,rS xs Q->kX xs Q:=fun xs Q ⟨x,e,h⟩=>⟨x,e,h.imp id fun ⟨ls,e,hl,q⟩=>⟨ls,.inr e,hl,q⟩⟩
def b6 (r c:Int):Prop:=1<=r/\r<=40/\1<=c/\c<=40
def jD:dF:=fun Ep xs Q=>∃ r c:Int,xs = [.int r,.int c]/\(b6 r c->Q .non)/\(¬ b6 r c->Ep "BadBoard")
def yR (Ep:Str->Prop):aM:=(c8 (eH (aR (iT (aH pP (a7 (a6 0) (a7 (a6 1) aC))) (qC (.int 1)))) (aR (iU (aH m9 (a7 (a6 0) (a7 (a6 1) aC))) (qC (.int 40))))) (kR Ep "BadBoard" (a7 (qC (.str "a board has from 1 to 40 rows and columns")) aC)) c7)
theorem am8:nJ yR ["rows","columns"] jD:=by
 rintro Ep xs Q ⟨r,c,rfl,q,ex⟩
 refine⟨_,rfl,_,rfl,_,_,rfl,_,_,rfl,rfl,_,rfl,?_⟩
 show if decide ((if c < r then c else r) < 1)=true then _ else _
 by_cases h1:(if c < r then c else r) < 1
 ·rw [at0 h1]
  exact bK (bK ⟨by decide,ex fun z=>by unfold b6 at z; split at h1 <;> omega⟩)
 rw [as0 h1]
 refine aQ ⟨_,rfl,_,rfl,_,_,rfl,_,_,rfl,rfl,_,rfl,?_⟩
 show if decide ((if c > r then c else r) > 40)=true then _ else _
 by_cases h2:(if c > r then c else r) > 40
 ·rw [at0 h2]
  exact bK ⟨by decide,ex fun z=>by unfold b6 at z; split at h2 <;> omega⟩
 rw [as0 h2]
 refine aQ (q ?_)
 unfold b6
 split at h1 <;> split at h2 <;> omega
def bX (r c:Int) (l:Int × Int):Bool:=decide (0<=l.1) && (decide (l.1 < r) && (decide (0<=l.2) && decide (l.2 < c)))
theorem kY {r c:Int}{l:Int × Int}:bX r c l=true ↔ 0<=l.1/\l.1 < r/\0<=l.2/\l.2 < c:=by
 unfold bX
 simp only [az7,au7]
def jE:bL:=fun xs Q=>∃ (r c:Int) (l:Int × Int),xs = [.int r,.int c,.tup [.int l.1,.int l.2]]/\Q (.bl (bX r c l))
def yS:aM:=(bH (hZ (pV (bN (a6 2) (qC (.int 0))) (qC (.int 0))) (hZ (iT (bN (a6 2) (qC (.int 0))) (a6 0)) (hZ (pV (bN (a6 2) (qC (.int 1))) (qC (.int 0))) (iT (bN (a6 2) (qC (.int 1))) (a6 1))))))
theorem am9:eB yS ["rows","columns","cell"] jE:=by
 rintro xs Q ⟨r,c,l,rfl,q⟩
 unfold bX at q
 refine⟨_,rfl,_,_,_,rfl,rfl,rfl,_,_,rfl,rfl,_,rfl,?_⟩
 show if decide (l.1 >= 0)=true then _ else _
 by_cases h1:0<=l.1
 ·rw [at0 h1] at q
  rw [at0 (show l.1 >= 0 from h1)]
  refine bK ⟨_,rfl,_,_,_,rfl,rfl,rfl,_,rfl,_,_,rfl,rfl,_,rfl,?_⟩
  show if decide (l.1 < r)=true then _ else _
  by_cases h2:l.1 < r
  ·rw [at0 h2] at q ⊢
   refine bK ⟨_,rfl,_,_,_,rfl,rfl,rfl,_,_,rfl,rfl,_,rfl,?_⟩
   show if decide (l.2 >= 0)=true then _ else _
   by_cases h3:0<=l.2
   ·rw [at0 h3] at q
    rw [at0 (show l.2 >= 0 from h3)]
    exact bK ⟨_,rfl,_,_,_,rfl,rfl,rfl,_,rfl,_,_,rfl,rfl,trivial,q⟩
   ·rw [as0 h3] at q
    rw [as0 (show ¬ l.2 >= 0 from h3)]
    exact aQ ⟨trivial,q⟩
  ·rw [as0 h2] at q ⊢
   exact aQ ⟨trivial,q⟩
 ·rw [as0 h1] at q
  rw [as0 (show ¬ l.1 >= 0 from h1)]
  exact aQ ⟨trivial,q⟩
def rW (r c:Int) (ls:List (Int × Int)):Prop:=ls.Pairwise bW/\∀ l ∈ ls,bX r c l=true
def nR:dF:=fun Ep xs Q=>∃ (r c:Int) (x:PV) (ls:List (Int × Int)),xs = [.int r,.int c,x]/\(x = .tup (aI ls) ∨ x = .lst (aI ls))/\ls.length<=4096/\(¬ b6 r c->Ep "BadBoard")/\(b6 r c->¬ rW r c ls->Ep "BadSet")/\(b6 r c->rW r c ls->Q (.tup (aI ls)))
def yT (Ep:Str->Prop):aM:=(aN (m6 (kQ Ep jD (a7 (a6 0) (a7 (a6 1) aC))))
 (aN (c8 (eH (dW (aR (aH kX (a7 (a6 2) aC)))) (dW (aR (aH m8 (a7 (e8 (i4 (a6 2)) [none,some 0,some 1] (cK 0) eI (aH jE (a7 (a6 1) (a7 (a6 2) (a7 (a6 0) aC))))) aC))))) (kR Ep "BadSet" (a7 (qC (.str "a set is of rising cells of the board")) aC)) c7)
 (bH (aH k6 (a7 (a6 2) aC)))))
theorem an0:nJ yT ["rows","columns","cells"] nR:=by
 rintro Ep xs Q ⟨r,c,x,ls,rfl,hx,hl,e1,e2,q⟩
 have sx:fW x=some (aI ls):=by rcases hx with rfl | rfl <;> rfl
 have pl:(aI ls).length=ls.length:=at4 _
 have tg:(Slot.sh (flat x) x).tag = .rd->flat x=true:=by cases flat x <;> intro z <;> cases z
 refine⟨_,rfl,_,rfl,r,c,rfl,fun ok=>?_,e1⟩
 refine⟨_,rfl,_,rfl,.inr ⟨ls,hx,hl,fun b hb=>⟨_,rfl,?_⟩⟩⟩
 cases b with
 | false=>exact bK (bK ⟨by decide,e2 ok fun z=>by have:=hb.mpr z.1; cases this⟩)
 | true=>
  have ord:=hb.mp rfl
  refine aQ ⟨_,rfl,aI ls,sx,tg,by rw [pl]; omega,fun i acc=>acc=(((ls.take i).map (bX r c)).map PV.bl),rfl,?_,?_⟩
  ·rintro i z acc hz rfl
   obtain ⟨l,rfl,hlm⟩:=qU hz
   refine⟨_,rfl,_,rfl,_,rfl,r,c,l,rfl,trivial,?_⟩
   dsimp only
   rw [aD6,hlm,av1,av1]; rfl
  rintro acc rfl
  rw [pl,List.take_length]
  refine⟨ls.map (bX r c),rfl,_,rfl,?_⟩
  cases ha:(ls.map (bX r c)).all id with
  | false=>
   refine bK ⟨by decide,e2 ok fun z=>?_⟩
   have:(ls.map (bX r c)).all id=true:=by
    rw [List.all_map,az8]
    exact fun l hlm=>z.2 l hlm
   rw [ha] at this; cases this
  | true=>
   refine aQ ?_
   have st:rW r c ls:=⟨ord,fun l hlm=>by
    rw [List.all_map,az8] at ha
    exact ha l hlm⟩
   have sT:seqT x=some (aI ls):=by rcases hx with rfl | rfl <;> rfl
   refine⟨_,rfl,⟨_,_,rfl,sT,gD _,trivial,q ok st⟩,fun ns z=>?_⟩
   rcases hx with rfl | rfl <;> cases z
def kZ (l:Int × Int):List (Int × Int):=[(l.1 - 1,l.2),(l.1,l.2 - 1),(l.1,l.2+1),(l.1+1,l.2)]
def gF (r c:Int) (l:Int × Int):List (Int × Int):=(kZ l).filter (bX r c)
def nS:bL:=fun xs Q=>∃ (r c:Int) (l:Int × Int),xs = [.int r,.int c,.tup [.int l.1,.int l.2]]/\Q (.lst (aI (gF r c l)))
def yU:aM:=(aN (bB 3 (bN (a6 2) (qC (.int 0))))
 (aN (bB 4 (bN (a6 2) (qC (.int 1))))
 (aN (bB 5 (fV (a7 (b7 (a7 (fZ (a6 3) (qC (.int 1))) (a7 (a6 4) aC))) (a7 (b7 (a7 (a6 3) (a7 (fZ (a6 4) (qC (.int 1))) aC))) (a7 (b7 (a7 (a6 3) (a7 (dA (a6 4) (qC (.int 1))) aC))) (a7 (b7 (a7 (dA (a6 3) (qC (.int 1))) (a7 (a6 4) aC))) aC))))))
 (bH (e8 (i4 (a6 5)) [none,some 0,some 1] (cK 0) (aR (aH jE (a7 (a6 1) (a7 (a6 2) (a7 (a6 0) aC))))) (a6 0))))))
theorem an1:eB yU ["rows","columns","cell","row","column","sides"] nS:=by
 rintro xs Q ⟨r,c,l,rfl,q⟩
 refine⟨_,rfl,_,_,_,rfl,rfl,rfl,trivial,?_⟩
 refine⟨_,rfl,_,_,_,rfl,rfl,rfl,trivial,?_⟩
 refine⟨_,rfl,_,_,rfl,rfl,_,rfl,by show 2<=1000; decide,rfl,_,rfl,_,rfl,_,_,rfl,rfl,by show 2<=1000; decide,rfl,_,rfl,_,rfl,_,_,rfl,rfl,by show 2<=1000; decide,rfl,_,rfl,_,_,rfl,rfl,_,rfl,by show 2<=1000; decide,rfl,by show 4<=1000; decide,rfl,trivial,?_⟩
 refine⟨_,rfl,aI (kZ l),rfl,(fun z=>by cases z),by show 4<=16000000; decide,fun i acc=>acc=aI (((kZ l).take i).filter (bX r c)),rfl,?_,?_⟩
 ·rintro i z acc hz rfl
  obtain ⟨m,rfl,hm⟩:=qU hz
  have tk:=qS (p:=bX r c) hm
  refine⟨_,rfl,_,rfl,_,rfl,r,c,m,rfl,_,rfl,?_⟩
  cases hb:bX r c m with
  | true=>
   rw [hb,if_pos rfl] at tk
   refine bK ⟨_,rfl,trivial,?_⟩
   dsimp only
   rw [tk]
   unfold aI
   rw [av1]; rfl
  | false=>
   rw [hb,if_neg (by decide),ax3] at tk
   refine aQ ?_
   dsimp only
   rw [tk]
 ·rintro acc rfl
  exact⟨trivial,q⟩
def iG:dF:=fun Ep xs Q=>∃ (r c:Int) (l:Int × Int),xs = [.int r,.int c,.tup [.int l.1,.int l.2]]/\(¬ b6 r c->Ep "BadBoard")/\(b6 r c->bX r c l=false->Ep "BadSet")/\(b6 r c->bX r c l=true->Q (.lst (aI (gF r c l))))
def yV (Ep:Str->Prop):aM:=(bH (aH nS (a7 (a6 0) (a7 (a6 1) (a7 (bN (kQ Ep nR (a7 (a6 0) (a7 (a6 1) (a7 (fV (a7 (a6 2) aC)) aC)))) (qC (.int 0))) aC)))))
theorem an2:nJ yV ["rows","columns","cell"] iG:=by
 rintro Ep xs Q ⟨r,c,l,rfl,e1,e2,q⟩
 refine⟨_,rfl,_,rfl,_,rfl,_,rfl,_,rfl,by show 1<=1000; decide,rfl,r,c,_,[l],rfl,.inr rfl,by show 1<=4096; decide,e1,fun ok ns=>?_,fun ok st=>?_⟩
 ·refine e2 ok ?_
  cases h:bX r c l with
  | false=>rfl
  | true=>exact absurd ⟨List.pairwise_singleton _ _,fun m hm=>by rw [au2.mp hm]; exact h⟩ ns
 ·exact⟨_,_,_,rfl,rfl,rfl,r,c,l,rfl,trivial,q ok (st.2 l au6)⟩
def cQ (many:Nat) (c:Int):List (Int × Int):=((rng many).filter fun h=>decide ((h+1) % c > 0)).map fun h=>(h,h+1)
def cV (many:Int) (c:Int):List (Int × Int):=(rng (many - c).toNat).map fun h=>(h,h+c)
def jF:dF:=fun Ep xs Q=>∃ r c:Int,xs = [.int r,.int c]/\((¬ b6 r c ∨ 40 < r * c)->Ep "BadBoard")/\(b6 r c->r * c<=40->∀ ls,ls.Perm (cQ (r * c).toNat c ++ cV (r * c) c)->WL (r * c) (List.replicate (r * c).toNat 2) ls->Q (qT (List.replicate (r * c).toNat 2) ls))
def yW (Ep:Str->Prop):aM:=(aN (m6 (kQ Ep jD (a7 (a6 0) (a7 (a6 1) aC))))
 (aN (bB 2 (mD (a6 0) (a6 1)))
 (aN (c8 (aR (iU (a6 2) (qC (.int 40)))) (kR Ep "BadBoard" (a7 (qC (.str "a board of more than 40 cells is no web")) aC)) c7)
 (aN (bB 3 (e8 (gL (a6 2)) [none,some 1] (cK 0) (aR (iU (cT (dA (a6 0) (qC (.int 1))) (a6 1)) (qC (.int 0)))) (b7 (a7 (a6 0) (a7 (dA (a6 0) (qC (.int 1))) aC)))))
 (aN (bB 4 (e8 (gL (fZ (a6 2) (a6 1))) [none,some 1] (cK 0) eI (b7 (a7 (a6 0) (a7 (dA (a6 0) (a6 1)) aC)))))
 (bH (aH kU (a7 (xA (fV (a7 (qC (.int 2)) aC)) (a6 2)) (a7 (x8 (a6 3) (a6 4)) aC)))))))))
theorem nT {many:Nat}{c:Int}{l:Int × Int}:l ∈ cQ many c ↔ 0<=l.1/\l.1 < (many:Int)/\(l.1+1) % c > 0/\l.2=l.1+1:=by
 unfold cQ
 rw [az5]
 constructor
 ·rintro ⟨h,hm,rfl⟩
  obtain ⟨h1,h2⟩:=aB3.mp hm
  have:=j9.mp h1
  exact⟨this.1,this.2,of_decide_eq_true h2,rfl⟩
 ·rintro ⟨h0,h1,h2,h3⟩
  exact⟨l.1,aB3.mpr ⟨j9.mpr ⟨h0,h1⟩,at0 h2⟩,Prod.ext rfl h3.symm⟩
theorem nU {many c:Int}{l:Int × Int}:l ∈ cV many c ↔ 0<=l.1/\l.1 < many - c/\l.2=l.1+c:=by
 unfold cV
 rw [az5]
 constructor
 ·rintro ⟨h,hm,rfl⟩
  have:=j9.mp hm
  exact⟨this.1,by show h < many - c; omega,rfl⟩
 ·rintro ⟨h0,h1,h2⟩
  exact⟨l.1,j9.mpr ⟨h0,by omega⟩,Prod.ext rfl h2.symm⟩
theorem yX {r c:Int} (c1:1<=c) (r1:1<=r) {l:Int × Int} (h:l ∈ cQ (r * c).toNat c):0<=l.1/\l.1 < l.2/\l.2 < r * c:=by
 obtain ⟨h0,h1,h2,h3⟩:=nT.mp h
 have hp:0<=r * c:=Int.mul_nonneg (by omega) (by omega)
 have:l.1+1 ≠ r * c:=fun e=>by
  rw [e,Int.mul_emod_left] at h2
  omega
 omega
theorem an3:nJ yW ["rows","columns","many","beside","below"] jF:=by
  rintro Ep xs Q ⟨r,c,rfl,e1,q⟩
  refine⟨_,rfl,_,rfl,r,c,rfl,fun ok=>?_,fun no=>e1 (.inl no)⟩
  obtain ⟨r1,r2,c1,c2⟩:=id ok
  refine⟨_,rfl,_,rfl,_,_,rfl,rfl,.inl ⟨by omega,by omega⟩,trivial,?_⟩
  dsimp only
  refine⟨_,rfl,_,_,rfl,rfl,_,rfl,?_⟩
  show if decide (r * c > 40)=true then _ else _
  by_cases h40:r * c > 40
  · rw [at0 h40]
    exact bK ⟨by decide,e1 (.inr h40)⟩
  rw [as0 h40]
  have hp:0<=r * c:=Int.mul_nonneg (by omega) (by omega)
  have hin:=fun l h=>yX (r:=r) (c:=c) c1 r1 (l:=l) h
  generalize hm:r * c=m at *
  refine aQ ⟨_,rfl,m,rfl,by omega,by omega,by rw [dZ]; omega,fun i acc=>acc=aI ((((rng m.toNat).take i).filter fun h=>decide ((h+1) % c > 0)).map fun h=>(h,h+1)),rfl,?_,?_⟩
  · rintro i z acc hz rfl
    rw [nF] at hz
    obtain ⟨h,rfl,hh⟩:=j8 hz
    have tk:=qS (p:=fun h=>decide ((h+1) % c > 0)) hh
    refine⟨_,rfl,_,_,rfl,rfl,_,rfl,_,_,rfl,rfl,by omega,_,_,rfl,rfl,_,rfl,?_⟩
    dsimp only
    cases hc:decide ((h+1) % c > 0) with
    | true=>
      rw [hc,if_pos rfl] at tk
      refine bK ⟨_,rfl,_,rfl,_,_,rfl,rfl,by show 2<=1000; decide,rfl,trivial,?_⟩
      dsimp only
      rw [tk,av1]
      unfold aI
      rw [av1]; rfl
    | false=>
      rw [hc,if_neg (by decide),ax3] at tk
      refine aQ ?_
      rw [tk]
  rintro acc rfl
  rw [dZ,av2 (by rw [gR]; exact as3 _)]
  refine⟨trivial,?_⟩
  refine⟨_,rfl,_,rfl,_,_,rfl,rfl,m - c,rfl,by omega,by omega,by rw [dZ]; omega,fun i acc=>acc=aI (((rng (m - c).toNat).take i).map fun h=>(h,h+c)),rfl,?_,?_⟩
  · rintro i z acc hz rfl
    rw [nF] at hz
    obtain ⟨h,rfl,hh⟩:=j8 hz
    refine⟨_,rfl,_,rfl,_,rfl,_,_,rfl,rfl,by show 2<=1000; decide,rfl,trivial,?_⟩
    dsimp only
    rw [aD6,hh,av1]
    unfold aI
    rw [av1]; rfl
  rintro acc rfl
  rw [dZ,av2 (by rw [gR]; exact as3 _)]
  refine⟨trivial,?_⟩
  refine⟨by show 1<=1000; decide,rfl,_,rfl,_,_,rfl,rfl,rfl,by omega,by omega,by show 1<=10; decide,?_⟩
  rw [show (List.replicate m.toNat (List.map (fun (x:PV × Tg)=>x.fst) [(PV.int 2,Tg.fr)])).flatten=intz (List.replicate m.toNat 2) from xR m.toNat 2]
  have bl1:(cQ m.toNat c).length<=40:=by
    unfold cQ
    rw [at4]
    have:=List.length_filter_le (fun h=>decide ((h+1) % c > 0)) (rng m.toNat)
    rw [gR] at this
    omega
  have bl2:(cV m c).length<=40:=by
    unfold cV
    rw [at4,gR]; omega
  refine⟨_,rfl,_,rfl,_,_,rfl,rfl,gD _,gD _,?_,?_⟩
  · show (aI (cQ m.toNat c)).length+(aI (cV m c)).length<=_
    rw [jA,jA]; omega
  have e2:aI (cQ m.toNat c) ++ aI (cV m c)=aI (cQ m.toNat c ++ cV m c):=by unfold aI; rw [av1]
  have inn:∀ l ∈ cQ m.toNat c ++ cV m c,0<=l.1/\l.1 < l.2/\l.2 < m:=fun l hl=>by
    rcases ay0.mp hl with h | h
    · exact hin l h
    · have:=nU.mp h; omega
  have nrmid:(cQ m.toNat c ++ cV m c).map eC=cQ m.toNat c ++ cV m c:=by
    conv=>rhs; rw [<- List.map_id (cQ m.toNat c ++ cV m c)]
    refine List.map_congr_left fun l hl=>?_
    have:=inn l hl
    exact Prod.ext (by show min l.1 l.2=l.1; omega) (by show max l.1 l.2=l.2; omega)
  have lr:(List.replicate m.toNat (2:Int)).length=m.toNat:=List.length_replicate
  have nd:(cQ m.toNat c ++ cV m c).Nodup:=by
    refine List.nodup_append.mpr ⟨?_,?_,fun x hx y hy e=>?_⟩
    · unfold cQ
      exact ay9.mpr (((x3 m.toNat).filter _).imp fun {a b} ne e=>ne (congrArg Prod.fst e))
    · unfold cV
      exact ay9.mpr ((x3 _).imp fun {a b} ne e=>ne (congrArg Prod.fst e))
    · subst e
      obtain ⟨h0,h1,h2,h3⟩:=nT.mp hx
      obtain ⟨k0,k1,k2⟩:=nU.mp hy
      have:c=1:=by omega
      subst this
      rw [Int.emod_one] at h2
      omega
  have key:kU [.lst (intz (List.replicate m.toNat 2)),.lst (aI (cQ m.toNat c ++ cV m c))] fun z=>Nw .fr z/\Q z:=by
   refine⟨_,_,List.replicate m.toNat 2,cQ m.toNat c ++ cV m c,rfl,.inr rfl,by rw [lr]; omega,fun w hw=>by rw [(List.mem_replicate.mp hw).2]; decide,.inr rfl,by rw [aw7]; omega,fun l hl=>?_,by rw [nrmid]; exact nd,fun ls' pp w'=>?_⟩
   · have:=inn l hl
     rw [lr]
     omega
   · rw [nrmid] at pp
     rw [lr] at w'
     exact⟨trivial,q ok (by omega) ls' pp (by rw [show ((m.toNat:Nat):Int)=m by omega] at w'; exact w')⟩
  rw [<- e2] at key
  exact key
def jG:bL:=fun xs Q=>∃ (ls:List (Int × Int)) (y:PV),xs = [.tup (aI ls),y]/\(y = .tup (aI ls) ∨ y = .lst (aI ls))/\ls.length<=4096/\Q (.bl true)
def yY (K:PySem.W.Frag):aM:=(aN (c8 (eH (dW (aR (eV K "tuple" (a6 0)))) (aR (vC (aH fX (a7 (a6 0) aC)) (aH fX (a7 (a6 1) aC))))) (bH (qC (.bl false))) c7)
 (aN (fY (gL (aH fX (a7 (a6 1) aC))) (cK 2)
  (aN (c8 (eH (dW (aR (eV K "tuple" (bN (a6 0) (a6 2))))) (aR (q2 (mC 2 true) (bN (a6 0) (a6 2)) (bN (a6 1) (a6 2))))) (bH (qC (.bl false))) c7)
  (fY (i4 (bN (a6 0) (a6 2))) (cK 3)
   (c8 (dW (aR (aH nE (a7 (a6 3) aC)))) (bH (qC (.bl false))) c7))))
 (bH (qC (.bl true)))))
theorem an4 {K:PySem.W.Frag} (kt:PySem.W.kitOne K (.type "tuple") (.type "tuple")=some true):eB (yY K) ["found","due","k","number"] jG:=by
 rintro xs Q ⟨ls,y,rfl,hy,hl,q⟩
 have sy:fW y=some (aI ls):=by rcases hy with rfl | rfl <;> rfl
 have ly:m7 y=some (aI ls).length:=by rcases hy with rfl | rfl <;> rfl
 have pl:(aI ls).length=ls.length:=at4 _
 have ft:flat (.tup (aI ls))=true:=by unfold flat; exact gD ls
 refine⟨_,rfl,_,_,rfl,kt,_,rfl,aQ ⟨_,rfl,_,_,rfl,rfl,_,rfl,_,_,rfl,ly,.inl ⟨_,_,rfl,rfl,_,rfl,?_⟩⟩⟩
 show if (!decide (((aI ls).length:Int)=((aI ls).length:Int)))=true then _ else _
 rw [at0 rfl]
 refine aQ ?_
 refine⟨_,rfl,_,_,rfl,ly,_,rfl,by omega,by omega,fun i ρ=>∃ z2 z3:Option Slot,ρ = [some (.sh true (.tup (aI ls))),some (.sh (flat y) y),z2,z3],⟨none,none,?_⟩,?_,?_⟩
 ·show cZ _ _=_
  unfold cZ
  show [some (Slot.sh (flat (.tup (aI ls))) (.tup (aI ls))),_,_,_]=_
  rw [ft]
 ·rintro i z ρ hz ⟨z2,z3,rfl⟩
  obtain ⟨rfl,hi⟩:=qR hz
  have i1:i < ls.length:=by omega
  have hli:ls[i]? = some ls[i]:=ar9 i1
  have a1:L2.atI (aI ls) ((0:Int)+(i:Int))=some (.tup (intz [ls[i].1,ls[i].2])):=by
   rw [show (0:Int)+(i:Int)=(i:Int) by omega]
   exact tN (by unfold aI; rw [au9,hli]; rfl)
  refine⟨_,rfl,_,rfl,_,_,_,rfl,rfl,a1,_,_,rfl,kt,_,rfl,aQ ⟨_,rfl,_,rfl,_,_,_,rfl,rfl,a1,_,rfl,_,rfl,_,_,_,sy,rfl,a1,.inl ⟨_,_,rfl,rfl⟩,v7 2 _ _,_,rfl,?_⟩⟩
  show if (!bM 3 (.tup (intz [ls[i].1,ls[i].2])) (.tup (intz [ls[i].1,ls[i].2])))=true then _ else _
  rw [v3,at0 rfl]
  refine aQ ?_
  refine⟨_,rfl,_,rfl,_,_,_,rfl,rfl,a1,intz [ls[i].1,ls[i].2],rfl,(fun z=>ad9 _),fun j ρ=>∃ z3:Option Slot,ρ = [some (.sh true (.tup (aI ls))),some (.sh (flat y) y),si ((0:Int)+(i:Int)),z3],⟨z3,rfl⟩,?_,?_⟩
  ·rintro j w ρ hw ⟨z3,rfl⟩
   obtain ⟨n,rfl,hn⟩:=j8 hw
   refine xB ?_
   refine⟨_,rfl,n,rfl,_,rfl,aQ ⟨si n,rfl⟩⟩
  ·rintro ρ ⟨z3,rfl⟩
   exact⟨_,z3,rfl⟩
 ·rintro ρ ⟨z2,z3,rfl⟩
  exact⟨trivial,q⟩
def l0 (c:Int) (l:Int × Int):Prop:=l.2 / c - l.1 / c+cJ (l.2 % c - l.1 % c)=1
theorem an5 {r c:Int} (c1:1<=c) (r1:1<=r) {l:Int × Int}:l ∈ cQ (r * c).toNat c ++ cV (r * c) c ↔ 0<=l.1/\l.1 < l.2/\l.2 < r * c/\l0 c l:=by
 obtain ⟨a,b⟩:=l
 have hp:0<=r * c:=Int.mul_nonneg (by omega) (by omega)
 have ea:=Int.mul_ediv_add_emod a c
 have eb:=Int.mul_ediv_add_emod b c
 have a0:=aw2 a (show c ≠ 0 by omega)
 have a1:=av8 a (show 0 < c by omega)
 have b0:=aw2 b (show c ≠ 0 by omega)
 have b1:=av8 b (show 0 < c by omega)
 rw [ay0]
 constructor
 ·rintro (h | h)
  ·have hin:=yX c1 r1 h
   obtain ⟨h0,h1,h2,h3⟩:=nT.mp h
   have h3:b=a+1:=h3
   have h2:(a+1) % c > 0:=h2
   refine⟨hin.1,hin.2.1,hin.2.2,?_⟩
   have lt:a % c+1 < c:=by
    rcases Int.lt_or_le (a % c+1) c with z | z
    ·exact z
    ·have e:a+1=c * (a / c+1):=by rw [Int.mul_add,Int.mul_one]; omega
     rw [e,Int.mul_emod_right] at h2
     omega
   have u:=(Int.ediv_emod_unique (a:=b) (r:=a % c+1) (q:=a / c) (show 0 < c by omega)).mpr ⟨by omega,by omega,lt⟩
   show b / c - a / c+cJ (b % c - a % c)=1
   rw [u.1,u.2]
   unfold cJ
   split <;> omega
  ·obtain ⟨h0,h1,h2⟩:=nU.mp h
   have h0:0<=a:=h0
   have h1:a < r * c - c:=h1
   have h2:b=a+c:=h2
   refine⟨h0,by show a < b; omega,by show b < r * c; omega,?_⟩
   have u:=(Int.ediv_emod_unique (a:=b) (r:=a % c) (q:=a / c+1) (show 0 < c by omega)).mpr ⟨by rw [Int.mul_add,Int.mul_one]; omega,a0,a1⟩
   show b / c - a / c+cJ (b % c - a % c)=1
   rw [u.1,u.2]
   unfold cJ
   split <;> omega
 ·rintro ⟨h0,h1,h2,h3⟩
  have h0:0<=a:=h0
  have h1:a < b:=h1
  have h2:b < r * c:=h2
  have h3:b / c - a / c+cJ (b % c - a % c)=1:=h3
  have dl:a / c<=b / c:=Int.ediv_le_ediv (by omega) (by omega)
  have ab:0<=cJ (b % c - a % c):=by unfold cJ; split <;> omega
  rcases (show b / c=a / c ∨ b / c=a / c+1 by omega) with e | e
  ·refine .inl (nT.mpr ?_)
   have h4:cJ (b % c - a % c)=1:=by omega
   rw [e] at eb
   have hb:b=a+1:=by unfold cJ at h4; split at h4 <;> omega
   refine⟨h0,by show a < _; omega,?_,hb⟩
   show (a+1) % c > 0
   rw [<- hb]
   omega
  ·refine .inr (nU.mpr ?_)
   have h4:cJ (b % c - a % c)=0:=by omega
   rw [e,Int.mul_add,Int.mul_one] at eb
   have hb:b=a+c:=by unfold cJ at h4; split at h4 <;> omega
   exact⟨h0,by show a < _; omega,hb⟩
def nV:bL:=fun xs Q=>∃ r c:Int,xs = [.int r,.int c]/\b6 r c/\r * c<=40/\∀ ls:List (Int × Int),ls.Pairwise bW->(∀ l,l ∈ ls ↔ 0<=l.1/\l.1 < l.2/\l.2 < r * c/\l0 c l)->Q (.lst (aI ls))
def yZ:aM:=(aN (m5 2 (fV aC))
 (aN (fY (gL (mD (a6 0) (a6 1))) (cK 3)
  (fY (pS (dA (a6 3) (qC (.int 1))) (mD (a6 0) (a6 1))) (cK 4)
   (aN (bB 5 (fZ (dI (a6 4) (a6 1)) (dI (a6 3) (a6 1))))
   (aN (bB 6 (aH kW (a7 (fZ (cT (a6 4) (a6 1)) (cT (a6 3) (a6 1))) aC)))
   (c8 (aR (k4 (dA (a6 5) (a6 6)) (qC (.int 1)))) (pL 2 (b7 (a7 (a6 3) (a7 (a6 4) aC)))) c7)))))
 (pK 2)))
theorem an6:eB yZ ["rows","columns","links","one","other","down","along"] nV:=by
 rintro xs Q ⟨r,c,rfl,ok,few,q⟩
 obtain ⟨r1,r2,c1,c2⟩:=id ok
 have hp:0<=r * c:=Int.mul_nonneg (by omega) (by omega)
 refine⟨by decide,rfl,rfl,rfl,?_⟩
 refine⟨_,rfl,_,rfl,_,_,rfl,rfl,.inl ⟨by omega,by omega⟩,r * c,rfl,by omega,by omega,fun i ρ=>∃ (y3 y4 y5 y6:Option Slot) (ls:List (Int × Int)),ρ = [si r,si c,some (.own (.lst (aI ls))),y3,y4,y5,y6]/\gS (r * c) ls i 0/\ls.length<=i * 40/\∀ l:Int × Int,l ∈ ls ↔ 0<=l.1/\l.1 < l.2/\l.2 < r * c/\l0 c l/\l.1 < (i:Int),
  ⟨none,none,none,none,[],rfl,⟨(fun _ h=>nomatch h),.nil,(fun _ h=>nomatch h)⟩,ay8 _,fun l=>⟨(fun h=>nomatch h),fun h=>absurd h.2.2.2.2 (by have:=h.1; omega)⟩⟩,?_,?_⟩
 ·rintro i y ρ hy ⟨y3,y4,y5,y6,ls,rfl,lk,ll,mem⟩
  obtain ⟨rfl,hi⟩:=qR hy
  have e0:(0:Int)+(i:Int)=(i:Int):=by omega
  rw [e0]
  refine⟨_,rfl,_,_,rfl,rfl,_,rfl,_,rfl,_,_,rfl,rfl,.inl ⟨by omega,by omega⟩,_,_,rfl,rfl,by omega,fun j ρ=>∃ (y4 y5 y6:Option Slot) (ls:List (Int × Int)),ρ = [si r,si c,some (.own (.lst (aI ls))),si i,y4,y5,y6]/\gS (r * c) ls i (i+1+j)/\ls.length<=i * 40+j/\∀ l:Int × Int,l ∈ ls ↔ 0<=l.1/\l.1 < l.2/\l.2 < r * c/\l0 c l/\(l.1 < (i:Int) ∨ (l.1=(i:Int)/\l.2 < (i:Int)+1+(j:Int))),
   ⟨y4,y5,y6,ls,rfl,lk.mono (.inr ⟨rfl,by omega⟩),by omega,fun l=>?_⟩,?_,?_⟩
  ·rw [mem l]
   exact⟨fun ⟨a,b,c,d,e⟩=>⟨a,b,c,d,.inl e⟩,fun ⟨a,b,c,d,e⟩=>⟨a,b,c,d,by omega⟩⟩
  ·rintro j y ρ hy ⟨z4,z5,z6,ls2,rfl,lk2,ll2,mem2⟩
   obtain ⟨rfl,hj⟩:=qR hy
   refine⟨_,rfl,_,rfl,_,_,rfl,rfl,⟨by omega,by omega⟩,_,rfl,_,rfl,_,_,rfl,rfl,⟨by omega,by omega⟩,_,_,rfl,rfl,trivial,?_⟩
   refine⟨_,rfl,_,rfl,_,_,rfl,rfl,by omega,_,rfl,_,rfl,_,_,rfl,rfl,by omega,_,_,rfl,rfl,_,rfl,trivial,?_⟩
   refine⟨_,rfl,_,rfl,_,_,rfl,rfl,.inl ⟨_,_,rfl,rfl,_,rfl,?_⟩⟩
   show if decide (((i:Int)+1+(j:Int)) / c - (i:Int) / c+cJ (((i:Int)+1+(j:Int)) % c - (i:Int) % c)=1)=true then _ else _
   by_cases h:((i:Int)+1+(j:Int)) / c - (i:Int) / c+cJ (((i:Int)+1+(j:Int)) % c - (i:Int) % c)=1
   ·rw [at0 h]
    refine bK ⟨_,rfl,_,rfl,_,rfl,by show 2<=1000; decide,rfl,trivial,by rw [jA]; omega,?_⟩
    have ad:=lk2.add (by omega)
    refine⟨some (.sh true (.int ((i:Int)+1+(j:Int)))),some (.sh true (.int (((i:Int)+1+(j:Int)) / c - (i:Int) / c))),some (.sh true (.int (cJ (((i:Int)+1+(j:Int)) % c - (i:Int) % c)))),ls2 ++ [((i:Int),(i:Int)+1+(j:Int))],?_,?_,by rw [aw7,List.length_singleton]; omega,fun l=>?_⟩
    ·unfold aI
     rw [av1]; rfl
    ·rw [show (i:Int)+1+((j+1:Nat):Int)=(i:Int)+1+(j:Int)+1 by omega]; exact ad
    ·rw [ay0,mem2 l,au2]
     constructor
     ·rintro (⟨a,b,d,e,f⟩ | rfl)
      ·exact⟨a,b,d,e,by omega⟩
      ·exact⟨by show 0<=(i:Int); omega,by show (i:Int) < (i:Int)+1+(j:Int); omega,by show (i:Int)+1+(j:Int) < r * c; omega,h,.inr ⟨rfl,by show (i:Int)+1+(j:Int) < _; omega⟩⟩
     ·rintro ⟨a,b,d,e,f⟩
      by_cases g:l.1=(i:Int)/\l.2=(i:Int)+1+(j:Int)
      ·exact .inr (Prod.ext g.1 g.2)
      ·exact .inl ⟨a,b,d,e,by omega⟩
   ·rw [as0 h]
    refine aQ ⟨some (.sh true (.int ((i:Int)+1+(j:Int)))),some (.sh true (.int (((i:Int)+1+(j:Int)) / c - (i:Int) / c))),some (.sh true (.int (cJ (((i:Int)+1+(j:Int)) % c - (i:Int) % c)))),ls2,rfl,lk2.mono (.inr ⟨rfl,by omega⟩),by omega,fun l=>?_⟩
    rw [mem2 l]
    constructor
    ·rintro ⟨a,b,d,e,f⟩
     exact⟨a,b,d,e,by omega⟩
    ·rintro ⟨a,b,d,e,f⟩
     refine⟨a,b,d,e,?_⟩
     by_cases g:l.1=(i:Int)/\l.2=(i:Int)+1+(j:Int)
     ·unfold l0 at e
      rw [g.1,g.2] at e
      exact absurd e h
     ·omega
  ·rintro ρ ⟨z4,z5,z6,ls2,rfl,lk2,ll2,mem2⟩
   rw [dZ] at mem2 ll2
   refine⟨_,z4,z5,z6,ls2,rfl,lk2.mono (.inl (by omega)),by omega,fun l=>?_⟩
   rw [mem2 l]
   constructor
   ·rintro ⟨a,b,d,e,f⟩
    exact⟨a,b,d,e,by omega⟩
   ·rintro ⟨a,b,d,e,f⟩
    exact⟨a,b,d,e,by omega⟩
 ·rintro ρ ⟨y3,y4,y5,y6,ls,rfl,lk,ll,mem⟩
  rw [dZ] at mem
  refine⟨_,rfl,trivial,q ls lk.ord fun l=>?_⟩
  rw [mem l]
  constructor
  ·rintro ⟨a,b,d,e,f⟩
   exact⟨a,b,d,e⟩
  ·rintro ⟨a,b,d,e⟩
   exact⟨a,b,d,e,by omega⟩
def iH:bL:=fun xs Q=>∃ (k r c:Int) (l:Int × Int),xs = [.int k,.int r,.int c,.tup [.int l.1,.int l.2]]/\
 ((k=0/\(¬ b6 r c ∨ 40 < r * c)/\Q (.str "board")) ∨ (k=1/\¬ b6 r c/\Q (.str "board")) ∨ (k=1/\b6 r c/\bX r c l=false/\Q (.str "set")))
def rX:aM:=(aN (c8 (eH (aR (W4 (a6 4) (qC .non))) (dW (aR (jC "ValueError" (a6 4))))) (bH (qC (.str ""))) c7)
 (bH (yA (rN (qC (.str "board")) (aH nM (a7 (jC "BadBoard" (a6 4)) aC))) (rN (qC (.str "set")) (aH nM (a7 (jC "BadSet" (a6 4)) aC))))))
def z0:aM:=(aN (bB 4 (qC .non))
 (aN (rB "HearthError" 5 (xH (aR (k4 (a6 0) (qC (.int 0)))) (rA jF (a7 (a6 1) (a7 (a6 2) aC))) (rA iG (a7 (a6 1) (a7 (a6 2) (a7 (a6 3) aC))))) (bB 4 (a6 5)))
 rX))
theorem z9 {Q:PV->Prop}{y0 y1 y2 y3:Option Slot} (q:Q (.str "board")):rX { nx:=fun _=>Q .non,rt:=Q } [y0,y1,y2,y3,some (.sh true (.exc "BadBoard")),none]:=by
 refine⟨_,rfl,rfl,_,rfl,aQ ⟨_,rfl,true,(by decide),_,rfl,aQ ?_⟩⟩
 refine⟨_,rfl,true,(by decide),.inr ⟨true,rfl,_,true,rfl,rfl,_,rfl,false,(by decide),.inr ⟨false,rfl,_,false,rfl,rfl,_,_,rfl,rfl,by decide,trivial,?_⟩⟩⟩
 exact q
theorem an7 {Q:PV->Prop}{y0 y1 y2 y3:Option Slot} (q:Q (.str "set")):rX { nx:=fun _=>Q .non,rt:=Q } [y0,y1,y2,y3,some (.sh true (.exc "BadSet")),none]:=by
 refine⟨_,rfl,rfl,_,rfl,aQ ⟨_,rfl,true,(by decide),_,rfl,aQ ?_⟩⟩
 refine⟨_,rfl,false,(by decide),.inr ⟨false,rfl,_,false,rfl,rfl,_,rfl,true,(by decide),.inr ⟨true,rfl,_,true,rfl,rfl,_,_,rfl,rfl,by decide,trivial,?_⟩⟩⟩
 exact q
theorem an8:eB z0 ["which","rows","columns","cell","caught","e"] iH:=by
 rintro xs Q ⟨k,r,c,l,rfl,⟨rfl,h,q⟩ | ⟨rfl,h,q⟩ | ⟨rfl,ok,h,q⟩⟩
 ·refine⟨trivial,_,rfl,.inl ⟨_,_,rfl,rfl,_,rfl,bK ⟨_,rfl,_,rfl,r,c,rfl,fun _=>⟨by decide,_,rfl,trivial,z9 q⟩,fun ok few=>absurd h (by rintro (z | z); exact z ok; omega)⟩⟩⟩
 ·refine⟨trivial,_,rfl,.inl ⟨_,_,rfl,rfl,_,rfl,aQ ⟨_,rfl,_,rfl,_,rfl,r,c,l,rfl,fun _=>⟨by decide,_,rfl,trivial,z9 q⟩,(fun ok _=>absurd ok h),fun ok _=>absurd ok h⟩⟩⟩
 ·refine⟨trivial,_,rfl,.inl ⟨_,_,rfl,rfl,_,rfl,aQ ⟨_,rfl,_,rfl,_,rfl,r,c,l,rfl,(fun no=>absurd ok no),fun _ _=>⟨by decide,_,rfl,trivial,an7 q⟩,fun _ z=>by rw [h] at z; cases z⟩⟩⟩
def nW:bL:=fun xs Q=>∃ c:Int,xs = [.int c]/\∀ a b:Int,¬ b6 a b->Q (.tup [.int a,.int b])
def zA:aM:=(aN (bB 1 (cT (dI (a6 0) (qC (.int 8))) (pU (qC (.int 10)) (qC (.int 30)))))
 (aN (bB 2 (fV (a7 (b7 (a7 (qC (.int 0)) (a7 (qC (.int 3)) aC))) (a7 (b7 (a7 (qC (.int 3)) (a7 (qC (.int 0)) aC))) (a7 (b7 (a7 (fZ (iQ (qC (.int 1))) (a6 1)) (a7 (qC (.int 2)) aC))) (a7 (b7 (a7 (dA (qC (.int 41)) (a6 1)) (a7 (qC (.int 1)) aC))) (a7 (b7 (a7 (qC (.int 1)) (a7 (dA (qC (.int 41)) (a6 1)) aC))) (a7 (b7 (a7 (qC (.int 0)) (a7 (qC (.int 0)) aC))) (a7 (b7 (a7 (qC (.int 41)) (a7 (qC (.int 41)) aC))) (a7 (b7 (a7 (qC (.int 2)) (a7 (iQ (a6 1)) aC))) aC))))))))))
 (bH (bN (a6 2) (cT (a6 0) (qC (.int 8)))))))
theorem an9:eB zA ["cell","far","some"] nW:=by
 rintro xs Q ⟨c,rfl,q⟩
 refine⟨_,rfl,_,_,rfl,rfl,⟨by decide,by decide⟩,_,_,rfl,rfl,⟨by decide,by decide,by decide⟩,_,_,rfl,rfl,(by show (0:Int) < 10 ^ (30:Int).toNat; decide),trivial,?_⟩
 dsimp only
 have f0:0<=c / 8 % 10 ^ (30:Int).toNat:=aw2 _ (by decide)
 generalize c / 8 % 10 ^ (30:Int).toNat=f at f0
 refine⟨by show 2<=1000; decide,rfl,by show 2<=1000; decide,rfl,_,rfl,_,rfl,_,_,rfl,rfl,by show 2<=1000; decide,rfl,_,rfl,_,_,rfl,rfl,by show 2<=1000; decide,rfl,_,rfl,_,_,rfl,rfl,by show 2<=1000; decide,rfl,by show 2<=1000; decide,rfl,by show 2<=1000; decide,rfl,_,rfl,_,rfl,by show 2<=1000; decide,rfl,by show 8<=1000; decide,rfl,trivial,?_⟩
 have j0:0<=c % 8:=aw2 _ (by decide)
 have j1:c % 8 < 8:=av8 _ (by decide)
 have at8:∃ a b:Int,¬ b6 a b/\L2.atI [PV.tup [.int 0,.int 3],.tup [.int 3,.int 0],.tup [.int (-1 - f),.int 2],.tup [.int (41+f),.int 1],.tup [.int 1,.int (41+f)],.tup [.int 0,.int 0],.tup [.int 41,.int 41],.tup [.int 2,.int (-f)]] (c % 8)=some (.tup [.int a,.int b]):=by
  generalize c % 8=j at j0 j1
  rcases (show j=0 ∨ j=1 ∨ j=2 ∨ j=3 ∨ j=4 ∨ j=5 ∨ j=6 ∨ j=7 by omega) with rfl | rfl | rfl | rfl | rfl | rfl | rfl | rfl
  ·exact⟨0,3,by unfold b6; omega,rfl⟩
  ·exact⟨3,0,by unfold b6; omega,rfl⟩
  ·exact⟨-1 - f,2,by unfold b6; omega,rfl⟩
  ·exact⟨41+f,1,by unfold b6; omega,rfl⟩
  ·exact⟨1,41+f,by unfold b6; omega,rfl⟩
  ·exact⟨0,0,by unfold b6; omega,rfl⟩
  ·exact⟨41,41,by unfold b6; omega,rfl⟩
  ·exact⟨2,-f,by unfold b6; omega,rfl⟩
 obtain ⟨a,b,no,hat⟩:=at8
 exact⟨_,rfl,_,rfl,_,_,rfl,rfl,(by show (0:Int) < 8; decide),_,_,_,rfl,rfl,hat,trivial,q a b no⟩
def gV (l m:Int × Int):Bool:=decide (cJ (m.1 - l.1)+cJ (m.2 - l.2)=1)
def gW (c:Nat) (l:Int × Int) (row:Int):List (Int × Int):=((rng c).filter fun col=>gV l (row,col)).map fun col=>(row,col)
def fL (c:Nat) (l:Int × Int) (rows:List Int):List (Int × Int):=rows.flatMap (gW c l)
theorem ao0 {c:Nat}{l:Int × Int}{rows:List Int}{m:Int × Int}:m ∈ fL c l rows ↔ m.1 ∈ rows/\m.2 ∈ rng c/\gV l m=true:=by
 unfold fL gW
 rw [List.mem_flatMap]
 constructor
 ·rintro ⟨row,hr,hm⟩
  obtain ⟨col,hc,rfl⟩:=az5.mp hm
  exact⟨hr,(aB3.mp hc).1,(aB3.mp hc).2⟩
 ·rintro ⟨h1,h2,h3⟩
  exact⟨m.1,h1,az5.mpr ⟨m.2,aB3.mpr ⟨h2,h3⟩,rfl⟩⟩
theorem zB (n:Nat):(rng n).Pairwise (· < ·):=by
 unfold rng
 rw [ay9]
 exact List.pairwise_lt_range.imp fun h=>by omega
theorem zC {c n:Nat}{l:Int × Int}:(fL c l (rng n)).Pairwise bW:=by
 unfold fL
 rw [List.pairwise_flatMap]
 refine⟨fun row _=>?_,(zB n).imp fun {a b} h x hx y hy=>?_⟩
 ·unfold gW
  exact ay9.mpr (((zB c).filter _).imp fun {a b} h=>.inr ⟨rfl,h⟩)
 ·unfold gW at hx hy
  obtain ⟨_,_,rfl⟩:=az5.mp hx
  obtain ⟨_,_,rfl⟩:=az5.mp hy
  exact .inl h
theorem zD (r c:Int) (l:Int × Int):(gF r c l).Pairwise bW:=by
 unfold gF kZ
 refine List.Pairwise.filter _ ?_
 simp only [List.pairwise_cons,as4,at9,az3,List.Pairwise.nil,and_true,bW]
 refine⟨fun x hx=>?_,fun x hx=>?_,fun x hx=>?_,fun x hx=>hx.elim⟩
 ·rcases hx with rfl | rfl | rfl <;> dsimp only <;> omega
 ·rcases hx with rfl | rfl <;> dsimp only <;> omega
 ·subst hx; dsimp only; omega
theorem ao1 {r c:Int} (ok:b6 r c) {l:Int × Int} (hl:bX r c l=true):fL c.toNat l (rng r.toNat)=gF r c l:=by
 obtain ⟨r1,r2,c1,c2⟩:=ok
 refine yO ((List.perm_ext_iff_of_nodup (nQ zC) (nQ (zD r c l))).mpr fun m=>?_) zC (zD r c l)
 obtain ⟨a,b⟩:=m
 obtain ⟨x,y⟩:=l
 have hl:=kY.mp hl
 dsimp only at hl
 rw [ao0]
 unfold gF kZ
 rw [aB3,kY,j9,j9]
 unfold gV cJ
 simp only [as4,at9,az3,Prod.mk.injEq,au7]
 constructor
 ·rintro ⟨h1,h2,h3⟩
  refine⟨?_,by omega⟩
  split at h3 <;> split at h3 <;> omega
 ·rintro ⟨h1,h2⟩
  refine⟨by omega,by omega,?_⟩
  split <;> split <;> omega
def l8:bL:=fun xs Q=>∃ (r c:Int) (l:Int × Int),xs = [.int r,.int c,.tup [.int l.1,.int l.2]]/\b6 r c/\bX r c l=true/\Q (.bl true)
def zE (K:PySem.W.Frag):aM:=(aN (m5 3 (fV aC))
 (aN (fY (gL (a6 0)) (cK 4)
  (pN 3 (e8 (gL (a6 1)) [none,some 4,some 2] (cK 0) (aR (k4 (dA (aH kW (a7 (fZ (a6 1) (bN (a6 2) (qC (.int 0)))) aC)) (aH kW (a7 (fZ (a6 0) (bN (a6 2) (qC (.int 1)))) aC))) (qC (.int 1)))) (b7 (a7 (a6 1) (a7 (a6 0) aC))))))
 (aN (pM (aH (iG fun _=>False) (a7 (a6 0) (a7 (a6 1) (a7 (a6 2) aC)))) (b7 (a7 (qC (.int 0)) (a7 (qC (.int 0)) aC))))
 (aN (bB 5 (aH (iG fun _=>False) (a7 (a6 0) (a7 (a6 1) (a7 (a6 2) aC)))))
 (bH (hZ (eV K "list" (a6 5)) (aH jG (a7 (aH k6 (a7 (a6 5) aC)) (a7 (a6 3) aC)))))))))
theorem ao2 {K:PySem.W.Frag} (kl:PySem.W.kitOne K (.type "list") (.type "list")=some true):eB (zE K) ["rows","columns","spot","due","row","beside"] l8:=by
 rintro xs Q ⟨r,c,l,rfl,ok,hl,q⟩
 obtain ⟨r1,r2,c1,c2⟩:=id ok
 refine⟨by decide,rfl,rfl,rfl,?_⟩
 refine⟨_,rfl,r,rfl,by omega,by omega,fun i ρ=>∃ y4:Option Slot,ρ = [si r,si c,some (.sh true (.tup [.int l.1,.int l.2])),some (.own (.lst (aI (fL c.toNat l ((rng r.toNat).take i))))),y4,none]/\(fL c.toNat l ((rng r.toNat).take i)).length<=i * 40,⟨none,rfl,ay8 _⟩,?_,?_⟩
 ·rintro i y ρ hy ⟨y4,rfl,dl⟩
  rw [nF] at hy
  obtain ⟨row,rfl,hr⟩:=j8 hy
  have il:=(au3.mp hr).1
  rw [gR] at il
  have rl:(gW c.toNat l row).length<=40:=by
   unfold gW
   rw [at4]
   have:=List.length_filter_le (fun col=>gV l (row,col)) (rng c.toNat)
   rw [gR] at this
   omega
  have tl:fL c.toNat l ((rng r.toNat).take (i+1))=fL c.toNat l ((rng r.toNat).take i) ++ gW c.toNat l row:=by
   rw [aD6,hr]
   unfold fL
   rw [List.flatMap_append]; simp
  refine⟨_,rfl,_,rfl,c,rfl,by omega,by omega,by rw [dZ]; omega,fun j acc=>acc=aI ((((rng c.toNat).take j).filter fun col=>gV l (row,col)).map fun col=>(row,col)),rfl,?_,?_⟩
  ·rintro j z acc hz rfl
   rw [nF] at hz
   obtain ⟨col,rfl,hc⟩:=j8 hz
   have tk:=qS (p:=fun col=>gV l (row,col)) hc
   refine⟨_,rfl,_,rfl,_,_,_,rfl,rfl,rfl,_,_,rfl,rfl,_,rfl,_,rfl,_,rfl,_,_,_,rfl,rfl,rfl,_,_,rfl,rfl,_,rfl,_,_,rfl,rfl,.inl ⟨_,_,rfl,rfl,_,rfl,?_⟩⟩
   show if gV l (row,col)=true then _ else _
   cases hb:gV l (row,col) with
   | true=>
    rw [hb,if_pos rfl] at tk
    refine bK ⟨_,rfl,_,rfl,by show 2<=1000; decide,rfl,trivial,?_⟩
    dsimp only
    rw [tk,av1]
    unfold aI
    rw [av1]; rfl
   | false=>
    rw [hb,if_neg (by decide),ax3] at tk
    refine aQ ?_
    dsimp only; rw [tk]
  rintro acc rfl
  rw [dZ,av2 (by rw [gR]; exact as3 _)]
  refine⟨_,.inr rfl,.inl trivial,?_,?_⟩
  ·show (aI _).length+(aI (gW c.toNat l row)).length<=_
   rw [jA,jA]; omega
  ·refine⟨si row,?_,by rw [tl,aw7]; omega⟩
   rw [tl]
   unfold aI
   rw [av1]; rfl
 rintro ρ ⟨y4,rfl,dl⟩
 rw [dZ,av2 (by rw [gR]; exact as3 _),ao1 ok hl]
 have sl:(gF r c l).length<=4:=by
  unfold gF
  exact List.length_filter_le _ _
 refine⟨_,rfl,_,rfl,_,rfl,r,c,l,rfl,(fun no=>absurd ok no),(fun _ z=>by rw [hl] at z; cases z),fun _ _=>?_⟩
 refine⟨_,rfl,rfl,by rw [jA]; omega,by show 2<=1000; decide,rfl,?_⟩
 refine⟨_,rfl,_,rfl,_,rfl,r,c,l,rfl,(fun no=>absurd ok no),(fun _ z=>by rw [hl] at z; cases z),fun _ _=>⟨trivial,?_⟩⟩
 refine⟨_,rfl,_,_,rfl,kl,_,rfl,bK ?_⟩
 refine⟨_,rfl,⟨_,_,rfl,rfl,gD _,_,rfl,gF r c l,_,rfl,.inr rfl,by omega,trivial,q⟩,fun _ z=>by cases z⟩
def rY:bL:=x5
def zF:aM:=(aN (bB 9 (aH nW (a7 (aH iD (a7 (a6 0) (a7 (qC (.int 2)) aC))) aC)))
 (aN (c8 (eH (aR (q2 (gU true) (aH iH (a7 (qC (.int 0)) (a7 (bN (a6 9) (qC (.int 0))) (a7 (bN (a6 9) (qC (.int 1))) (a7 (a6 5) aC))))) (qC (.str "board")))) (aR (q2 (gU true) (aH iH (a7 (qC (.int 1)) (a7 (bN (a6 9) (qC (.int 0))) (a7 (bN (a6 9) (qC (.int 1))) (a7 (b7 (a7 (qC (.int 0)) (a7 (qC (.int 0)) aC))) aC))))) (qC (.str "board"))))) (bH (qC (.bl false))) c7)
 (aN (bB 6 (dA (dI (qC (.int 41)) (a6 2)) (qC (.int 1))))
 (bH (pE (iU (a6 6) (qC (.int 40))) (q2 (gU false) (aH iH (a7 (qC (.int 0)) (a7 (a6 2) (a7 (aH m9 (a7 (qC (.int 1)) (a7 (a6 6) aC))) (a7 (a6 5) aC))))) (qC (.str "board"))))))))
def zG:aM:=(aN (bB 8 (fV (a7 (b7 (a7 (iQ (qC (.int 1))) (a7 (qC (.int 0)) aC))) (a7 (b7 (a7 (qC (.int 0)) (a7 (iQ (qC (.int 1))) aC))) (a7 (b7 (a7 (a6 2) (a7 (qC (.int 0)) aC))) (a7 (b7 (a7 (qC (.int 0)) (a7 (a6 3) aC))) (a7 (b7 (a7 (dA (a6 2) (cT (dI (a6 1) (qC (.int 8))) (pU (qC (.int 10)) (qC (.int 30))))) (a7 (qC (.int 0)) aC))) (a7 (b7 (a7 (fZ (iQ (qC (.int 1))) (cT (dI (a6 1) (qC (.int 8))) (pU (qC (.int 10)) (qC (.int 30))))) (a7 (qC (.int 0)) aC))) aC))))))))
 (aN (c8 (aR (q2 (gU true) (aH iH (a7 (qC (.int 1)) (a7 (a6 2) (a7 (a6 3) (a7 (bN (a6 8) (cT (a6 1) (qC (.int 6)))) aC))))) (qC (.str "set")))) (bH (qC (.bl false))) c7)
 zF))
def zH:aM:=(aN (bB 1 (aH iD (a7 (a6 0) (a7 (qC (.int 1)) aC))))
 (aN (bB 5 (b7 (a7 (cT (a6 1) (a6 2)) (a7 (cT (dI (a6 1) (qC (.int 41))) (a6 3)) aC))))
 (aN (c8 (dW (aR (aH l8 (a7 (a6 2) (a7 (a6 3) (a7 (a6 5) aC)))))) (bH (qC (.bl false))) c7)
 (aN (bB 6 (dI (aH iD (a7 (a6 0) (a7 (qC (.int 2)) aC))) (qC (.int 8))))
 (aN (bB 7 (b7 (a7 (dA (qC (.int 1)) (cT (a6 6) (qC (.int 40)))) (a7 (dA (qC (.int 1)) (cT (dI (a6 6) (qC (.int 40))) (qC (.int 40)))) aC))))
 (aN (c8 (dW (aR (aH l8 (a7 (bN (a6 7) (qC (.int 0))) (a7 (bN (a6 7) (qC (.int 1))) (a7 (b7 (a7 (cT (dI (a6 6) (qC (.int 1600))) (bN (a6 7) (qC (.int 0)))) (a7 (cT (dI (a6 6) (qC (.int 64000))) (bN (a6 7) (qC (.int 1)))) aC))) aC)))))) (bH (qC (.bl false))) c7)
 zG))))))
def zI (K:PySem.W.Frag):aM:=(aN (bB 4 (aH (jF fun _=>False) (a7 (a6 2) (a7 (a6 3) aC))))
 (aN (c8 (eH (dW (aR (eV K "tuple" (a6 4)))) (eH (aR (vC (aH fX (a7 (a6 4) aC)) (qC (.int 2)))) (aR (q2 (mC 2 true) (bN (a6 4) (qC (.int 0))) (q2 rT (b7 (a7 (qC (.int 2)) aC)) (mD (a6 2) (a6 3))))))) (bH (qC (.bl false))) c7)
 (aN (c8 (dW (aR (aH jG (a7 (bN (a6 4) (qC (.int 1))) (a7 (aH nV (a7 (a6 2) (a7 (a6 3) aC))) aC))))) (bH (qC (.bl false))) c7)
 zH)))
def zJ (K:PySem.W.Frag):aM:=(aN (bB 1 (aH iD (a7 (a6 0) (a7 (qC (.int 0)) aC))))
 (aN (bB 2 (dA (qC (.int 1)) (cT (a6 1) (qC (.int 40)))))
 (aN (bB 3 (dA (qC (.int 1)) (cT (dI (a6 1) (qC (.int 40))) (dI (qC (.int 40)) (a6 2)))))
 (aN (c8 (aR (k4 (cT (dI (a6 1) (qC (.int 1600))) (qC (.int 2))) (qC (.int 1)))) (qY 2 3 (b7 (a7 (a6 3) (a7 (a6 2) aC)))) c7)
 (zI K)))))
section
variable {Q : PV → Prop} {ns : List Int} {cell r c w : Int} {l : Int × Int} {y4 y6 y7 y8 : Option Slot} {K : PySem.W.Frag}
theorem ao3 (ok:b6 r c) (q:Q (.bl true)):zF { nx:=fun _=>Q .non,rt:=Q } [some (.sh true (.scr ns)),si cell,si r,si c,y4,some (.sh true (.tup [.int l.1,.int l.2])),y6,y7,y8,none]:=by
 obtain ⟨r1,r2,c1,c2⟩:=id ok
 refine⟨_,rfl,_,ns,2,rfl,.inl rfl,by decide,_,rfl,fun a b no=>⟨trivial,?_⟩⟩
 refine⟨_,rfl,_,_,_,rfl,rfl,rfl,_,rfl,_,_,_,rfl,rfl,rfl,_,rfl,0,a,b,l,rfl,.inl ⟨rfl,.inl no,_,_,rfl,rfl,_,rfl,?_⟩⟩
 show if (!decide (("board" : Str)="board"))=true then _ else _
 rw [at0 rfl]
 refine aQ ⟨_,rfl,_,_,_,rfl,rfl,rfl,_,rfl,_,_,_,rfl,rfl,rfl,by show 2<=1000; decide,rfl,1,a,b,(0,0),rfl,.inr (.inl ⟨rfl,no,_,_,rfl,rfl,_,rfl,?_⟩)⟩
 show if (!decide (("board" : Str)="board"))=true then _ else _
 rw [at0 rfl]
 refine aQ ?_
 refine⟨_,rfl,_,_,rfl,rfl,⟨by omega,by omega⟩,_,_,rfl,rfl,trivial,?_⟩
 dsimp only
 have e1:=Int.mul_ediv_add_emod 41 r
 have e2:=av8 41 (show 0 < r by omega)
 have e3:0<=(41:Int) / r:=Int.ediv_nonneg (by decide) (by omega)
 have big:40 < r * ((41:Int) / r+1):=by rw [Int.mul_add,Int.mul_one]; omega
 generalize (41:Int) / r=d at *
 refine⟨_,rfl,_,_,rfl,rfl,_,rfl,?_⟩
 show if decide (d+1 > 40)=true then _ else _
 by_cases h:d+1 > 40
 ·rw [at0 h]
  exact bK ⟨trivial,q⟩
 rw [as0 h]
 refine aQ ⟨_,rfl,_,rfl,_,_,rfl,_,rfl,0,r,_,l,rfl,.inl ⟨rfl,.inr ?_,_,_,rfl,rfl,trivial,?_⟩⟩
 ·show 40 < r * (if d+1 > 1 then d+1 else 1)
  split
  ·exact big
  ·have:d+1=1:=by omega
   rw [this] at big; exact big
 ·show Q (.bl (decide (("board" : Str)="board")))
  rw [at0 rfl]; exact q
theorem ao4 (ok:b6 r c) (q:Q (.bl true)):zG { nx:=fun _=>Q .non,rt:=Q } [some (.sh true (.scr ns)),si cell,si r,si c,y4,some (.sh true (.tup [.int l.1,.int l.2])),y6,y7,none,none]:=by
 obtain ⟨r1,r2,c1,c2⟩:=id ok
 refine⟨_,rfl,by show 2<=1000; decide,rfl,_,rfl,by show 2<=1000; decide,rfl,_,rfl,by show 2<=1000; decide,rfl,_,rfl,by show 2<=1000; decide,rfl,_,rfl,_,rfl,_,_,rfl,rfl,⟨by decide,by decide⟩,_,_,rfl,rfl,⟨by decide,by decide,by decide⟩,_,_,rfl,rfl,(by show (0:Int) < 10 ^ (30:Int).toNat; decide),_,_,rfl,rfl,by show 2<=1000; decide,rfl,
  _,rfl,_,rfl,_,_,rfl,rfl,⟨by decide,by decide⟩,_,_,rfl,rfl,⟨by decide,by decide,by decide⟩,_,_,rfl,rfl,(by show (0:Int) < 10 ^ (30:Int).toNat; decide),_,_,rfl,rfl,by show 2<=1000; decide,rfl,by show 6<=1000; decide,rfl,trivial,?_⟩
 have f0:0<=cell / 8 % 10 ^ (30:Int).toNat:=aw2 _ (by decide)
 have j0:0<=cell % 6:=aw2 _ (by decide)
 have j1:cell % 6 < 6:=av8 _ (by decide)
 have at6:∃ m:Int × Int,bX r c m=false/\L2.atI [PV.tup [.int (-1),.int 0],.tup [.int 0,.int (-1)],.tup [.int r,.int 0],.tup [.int 0,.int c],.tup [.int (r+cell / 8 % 10 ^ (30:Int).toNat),.int 0],.tup [.int (-1 - cell / 8 % 10 ^ (30:Int).toNat),.int 0]] (cell % 6)=some (.tup [.int m.1,.int m.2]):=by
  generalize cell / 8 % 10 ^ (30:Int).toNat=f at f0
  generalize cell % 6=j at j0 j1
  have no:∀ m:Int × Int,¬ (0<=m.1/\m.1 < r/\0<=m.2/\m.2 < c)->bX r c m=false:=fun m h=>by
   cases e:bX r c m with
   | false=>rfl
   | true=>exact absurd (kY.mp e) h
  rcases (show j=0 ∨ j=1 ∨ j=2 ∨ j=3 ∨ j=4 ∨ j=5 by omega) with rfl | rfl | rfl | rfl | rfl | rfl
  ·exact⟨(-1,0),no _ (by dsimp only; omega),rfl⟩
  ·exact⟨(0,-1),no _ (by dsimp only; omega),rfl⟩
  ·exact⟨(r,0),no _ (by dsimp only; omega),rfl⟩
  ·exact⟨(0,c),no _ (by dsimp only; omega),rfl⟩
  ·exact⟨(r+f,0),no _ (by dsimp only; omega),rfl⟩
  ·exact⟨(-1 - f,0),no _ (by dsimp only; omega),rfl⟩
 obtain ⟨m,hm,hat⟩:=at6
 refine⟨_,rfl,_,rfl,_,rfl,_,rfl,_,_,rfl,rfl,(by show (0:Int) < 6; decide),_,_,_,rfl,rfl,hat,1,r,c,m,rfl,.inr (.inr ⟨rfl,ok,hm,_,_,rfl,rfl,_,rfl,?_⟩)⟩
 show if (!decide (("set" : Str)="set"))=true then _ else _
 rw [at0 rfl]
 exact aQ (ao3 ok q)
theorem ao5 (ok:b6 r c) (q:Q (.bl true)):zH { nx:=fun _=>Q .non,rt:=Q } [some (.sh true (.scr ns)),si cell,si r,si c,y4,none,none,none,none,none]:=by
 obtain ⟨r1,r2,c1,c2⟩:=id ok
 refine⟨_,rfl,_,ns,1,rfl,.inl rfl,by decide,trivial,?_⟩
 generalize ns.getD (1:Int).toNat 0=x
 refine⟨_,rfl,_,rfl,_,_,rfl,rfl,by omega,_,rfl,_,_,rfl,rfl,⟨by decide,by decide⟩,_,rfl,_,_,rfl,rfl,by omega,by show 2<=1000; decide,rfl,trivial,?_⟩
 dsimp only
 have inb:bX r c (x % r,x / 41 % c)=true:=kY.mpr ⟨aw2 _ (by omega),av8 _ (by omega),aw2 _ (by omega),av8 _ (by omega)⟩
 refine⟨_,rfl,_,rfl,_,rfl,r,c,(x % r,x / 41 % c),rfl,ok,inb,_,rfl,aQ ?_⟩
 refine⟨_,rfl,_,ns,2,rfl,.inl rfl,by decide,_,_,rfl,rfl,⟨by decide,by decide⟩,trivial,?_⟩
 dsimp only
 generalize ns.getD (2:Int).toNat 0 / 8=wd
 refine⟨_,rfl,_,_,rfl,rfl,(by show (0:Int) < 40; decide),_,_,rfl,rfl,_,rfl,_,_,rfl,rfl,⟨by decide,by decide⟩,_,_,rfl,rfl,(by show (0:Int) < 40; decide),_,_,rfl,rfl,by show 2<=1000; decide,rfl,trivial,?_⟩
 dsimp only
 have a0:=aw2 wd (show (40:Int) ≠ 0 by decide)
 have a1:=av8 wd (show (0:Int) < 40 by decide)
 have b0:=aw2 (wd / 40) (show (40:Int) ≠ 0 by decide)
 have b1:=av8 (wd / 40) (show (0:Int) < 40 by decide)
 have ok2:b6 (1+wd % 40) (1+wd / 40 % 40):=⟨by omega,by omega,by omega,by omega⟩
 have inb2:bX (1+wd % 40) (1+wd / 40 % 40) (wd / 1600 % (1+wd % 40),wd / 64000 % (1+wd / 40 % 40))=true:=kY.mpr ⟨aw2 _ (by omega),av8 _ (by omega),aw2 _ (by omega),av8 _ (by omega)⟩
 refine⟨_,rfl,_,_,_,rfl,rfl,rfl,_,rfl,_,_,_,rfl,rfl,rfl,_,rfl,_,_,rfl,rfl,⟨by decide,by decide⟩,_,rfl,_,_,_,rfl,rfl,rfl,_,_,rfl,rfl,by omega,_,rfl,_,_,rfl,rfl,⟨by decide,by decide⟩,_,rfl,_,_,_,rfl,rfl,rfl,_,_,rfl,rfl,by omega,by show 2<=1000; decide,rfl,_,_,(wd / 1600 % (1+wd % 40),wd / 64000 % (1+wd / 40 % 40)),rfl,ok2,inb2,_,rfl,aQ ?_⟩
 exact ao4 (l:=(x % r,x / 41 % c)) ok q
theorem zK (kt:PySem.W.kitOne K (.type "tuple") (.type "tuple")=some true) (ok:b6 r c) (few:r * c<=40) (q:Q (.bl true)):zI K { nx:=fun _=>Q .non,rt:=Q } [some (.sh true (.scr ns)),si cell,si r,si c,none,none,none,none,none,none]:=by
 obtain ⟨r1,r2,c1,c2⟩:=id ok
 have hp:1<=r * c:=by
  have:=Int.mul_le_mul (show (1:Int)<=r by omega) c1 (by decide) (by omega)
  omega
 refine⟨_,rfl,_,rfl,r,c,rfl,(fun z=>by rcases z with z | z; exact z ok; omega),fun _ _ ls pp w=>⟨trivial,?_⟩⟩
 refine⟨_,rfl,_,_,rfl,kt,_,rfl,aQ ⟨_,rfl,_,_,rfl,rfl,.inl ⟨_,_,rfl,rfl,_,rfl,?_⟩⟩⟩
 show if (!decide ((2:Int)=2))=true then _ else _
 refine aQ ⟨_,rfl,_,_,_,rfl,rfl,rfl,by show 1<=1000; decide,rfl,_,rfl,_,rfl,_,_,rfl,rfl,.inl ⟨by omega,by omega⟩,_,_,rfl,rfl,rfl,(fun z=>nomatch z),hp,by omega,by show 1<=10; decide,?_⟩
 dsimp only
 rw [show (List.replicate (r * c).toNat (List.map (fun (x:PV × Tg)=>x.fst) [(PV.int 2,Tg.fr)])).flatten=intz (List.replicate (r * c).toNat 2) from xR _ 2]
 refine⟨.inl ⟨_,_,rfl,rfl⟩,v7 2 _ _,_,rfl,?_⟩
 show if (!bM 3 (.tup (intz (List.replicate (r * c).toNat 2))) (.tup (intz (List.replicate (r * c).toNat 2))))=true then _ else _
 rw [v3,at0 rfl]
 refine aQ ?_
 refine⟨_,rfl,_,_,_,rfl,rfl,rfl,_,rfl,_,rfl,r,c,rfl,ok,few,fun ls2 ord mem=>?_⟩
 have e:ls2=ls:=yO ((List.perm_ext_iff_of_nodup (nQ ord) (nQ w.ord)).mpr fun l=>by rw [mem l,pp.mem_iff]; exact (an5 c1 r1).symm) ord w.ord
 subst e
 refine⟨ls2,_,rfl,.inr rfl,by have:=w.most; omega,_,rfl,aQ ?_⟩
 exact ao5 ok q
end
theorem ao6 {K:PySem.W.Frag} (kt:PySem.W.kitOne K (.type "tuple") (.type "tuple")=some true):eB (zJ K) ["script","cell","rows","columns","found","spot","wide","lines","odd","wrong"] rY:=by
 rintro xs Q ⟨ns,rfl,hl,q⟩
 refine⟨_,rfl,_,ns,0,rfl,.inl rfl,by decide,trivial,?_⟩
 generalize ns.getD (0:Int).toNat 0=x
 have a0:=aw2 x (show (40:Int) ≠ 0 by decide)
 have a1:=av8 x (show (0:Int) < 40 by decide)
 refine⟨_,rfl,_,_,rfl,rfl,(by show (0:Int) < 40; decide),_,_,rfl,rfl,trivial,?_⟩
 dsimp only
 generalize x % 40=y at a0 a1
 have e1:=Int.mul_ediv_add_emod 40 (1+y)
 have e2:=aw2 40 (show 1+y ≠ 0 by omega)
 have d1:1<=(40:Int) / (1+y):=by
  have:(1+y) / (1+y)<=(40:Int) / (1+y):=Int.ediv_le_ediv (by omega) (by omega)
  rw [Int.ediv_self (by omega)] at this
  exact this
 have d2:(40:Int) / (1+y)<=40:=Int.ediv_le_self _ (by decide)
 refine⟨_,rfl,_,_,rfl,rfl,⟨by decide,by decide⟩,_,rfl,_,_,rfl,rfl,⟨by omega,by omega⟩,_,_,rfl,rfl,by omega,_,_,rfl,rfl,trivial,?_⟩
 dsimp only
 have b0:=aw2 (x / 40) (show (40:Int) / (1+y) ≠ 0 by omega)
 have b1:=av8 (x / 40) (show 0 < (40:Int) / (1+y) by omega)
 have few:(1+y) * (1+x / 40 % (40 / (1+y)))<=40:=by
  have:=Int.mul_le_mul_of_nonneg_left (show 1+x / 40 % (40 / (1+y))<=40 / (1+y) by omega) (show 0<=1+y by omega)
  omega
 generalize hz:1+x / 40 % (40 / (1+y))=z at few
 have ok1:b6 (1+y) z:=⟨by omega,by omega,by omega,by omega⟩
 refine⟨_,rfl,_,_,rfl,rfl,⟨by decide,by decide⟩,_,_,rfl,rfl,(by show (0:Int) < 2; decide),.inl ⟨_,_,rfl,rfl,_,rfl,?_⟩⟩
 cases hc:(decide (x / 1600 % 2=1)) with
 | false=>exact aQ (zK kt ok1 few q)
 | true=>
  refine bK ⟨_,rfl,_,rfl,by show 2<=1000; decide,rfl,trivial,_,_,rfl,?_⟩
  exact zK (r:=z) (c:=1+y) kt ⟨ok1.2.2.1,ok1.2.2.2,ok1.1,ok1.2.1⟩ (by rw [Int.mul_comm]; exact few) q
end Core
namespace K_k58
open PySem PySem.W L2 PP Core
theorem _root_.L2.FnScope.au {N P:List Str}{s:Scope} (a:s.kind=.function:=by rfl) (b:s.isCoroutine=false:=by rfl) (c:s.isGenerator=false:=by rfl) (d:N.Nodup:=by decide +kernel) (e:N.take P.length=P:=by rfl) (f:∀ x∈P,s.names.lookup x=some .local∨s.names.lookup x=some .cell:=by decide +kernel) (g:∀ y∈s.names,y.2≠.free:=by decide +kernel):FnScope N P s:=⟨a,b,c,d,e,f,g⟩
def aV (i:Nat):Stmt:=PySem.Challenge.pw_kindleweb_k58_board_webs.main.body.getD i (.Pass ⟨0,0,0,0⟩)
structure FK (K:Frag) (n:Str) (i:Nat) (f:Addr) (d:FuncData):Prop where
 a:nsIn K mainGlobals n=some (some (.ref f))
 F:dQ K n n (aV i) f d
structure FM (K:Frag) (mg:Str->Option Value) (n:Str) (i:Nat) (f:Addr) (d:FuncData):Prop where
 F:dQ K n n (aV i) f d
 m:mg n=some (.ref f)
theorem FK.M {K:Frag}{mg:Str->Option Value}{n:Str}{i:Nat}{f:Addr}{d:FuncData}{h:Heap} (z:FK K n i f d) (X:K.In h) (G:h.Ns mainGlobals mg):FM K mg n i f d:=⟨z.F,mg_of X G z.a⟩
abbrev Hb (x:Str) (ps:List Str) (i:Nat):Prop:=∀ (kV doc pm:Value) (an:Option Addr) (cdv ct:Value) (us:List Value),us.length=ps.length->bindArgs (fnOf x x (fR (aV i)) (cW (aV i)) (aP (aV i)) .none kV doc pm an cdv ct) ⟨us,[]⟩=pure (ps.zip us)
theorem zL {A:Around}{k:Nat} (hr:bE k A):A.units+3 < cLine:=by have:=hr.units; omega
section
variable {P : Program} {w : World} {K : Frag} {mg : Str → Option Value} {base : Heap} {f : Addr} {fd : FuncData} {k i : Nat} {x : Str} {ps N : List Str}
theorem Df.au {p:bL} (F:FM K mg x i f fd) (S:FnScope N ps (aP (aV i))) (body:∀ (cdv:Value) (A:Around) (outer:List Env) (s:Shared) (H:Hp) (E:XK),bE k (A.deeper (PyProof.Rows.envOfC x (aP (aV i)) s.heap.objs.size f cdv))->∃ t,dJ (cE dD P w K mg base N x (aP (aV i)) f cdv A outer s H E).nox (cW (aV i)) t/\∀ xs Q,p xs Q->t { nx:=fun _=>Q .non,rt:=Q } (cZ N xs)) (hb:Hb x ps i:=by intro _ _ _ _ _ _ us hl; first | (obtain ⟨_,rfl⟩:=rG hl; rfl) | (obtain ⟨_,_,rfl⟩:=rH hl; rfl) | (obtain ⟨_,_,_,rfl⟩:=rJ hl; rfl) | (obtain ⟨_,_,_,_,rfl⟩:=xP hl; rfl) | (obtain ⟨_,_,_,_,_,rfl⟩:=us5 hl; rfl)) (len:∀ xs Q,p xs Q->xs.length=ps.length:=by intro xs Q h; repeat (first | (obtain ⟨rfl,_⟩:=h; rfl) | (obtain ⟨_,h⟩:=h))):Df P w K mg base (k+1) x ps p:=
 Df.of F.F F.m S hb len body
theorem cA.au {p:dF} (F:FM K mg x i f fd) (S:FnScope N ps (aP (aV i))) (t:(Str->Prop)->aM) (rd:∀ Ep xs Q,p Ep xs Q->t Ep { nx:=fun _=>Q .non,rt:=Q } (cZ N xs)) (body:∀ (cdv:Value) (A:Around) (outer:List Env) (s:Shared) (H:Hp) (E:XK) (Ep:Str->Prop),bE k (A.deeper (PyProof.Rows.envOfC x (aP (aV i)) s.heap.objs.size f cdv))->j7 (cE (cP P w) P w K mg base N x (aP (aV i)) f cdv A outer s H E) (EX K H Ep)->dJ (cE (cP P w) P w K mg base N x (aP (aV i)) f cdv A outer s H E) (cW (aV i)) (t Ep)) (hb:Hb x ps i:=by intro _ _ _ _ _ _ us hl; first | (obtain ⟨_,rfl⟩:=rG hl; rfl) | (obtain ⟨_,_,rfl⟩:=rH hl; rfl) | (obtain ⟨_,_,_,rfl⟩:=rJ hl; rfl) | (obtain ⟨_,_,_,_,rfl⟩:=xP hl; rfl) | (obtain ⟨_,_,_,_,_,rfl⟩:=us5 hl; rfl)) (len:∀ Ep xs Q,p Ep xs Q->xs.length=ps.length:=by intro Ep xs Q h; repeat (first | (obtain ⟨rfl,_⟩:=h; rfl) | (obtain ⟨_,h⟩:=h))):cA P w K mg base (k+1) x ps p:=
 cA.of F.F F.m S hb t len rd body
end
section
variable {P : Program} {w : World} {K : Frag} {mg : Str → Option Value} {base : Heap} {f : Addr} {fd : FuncData}
theorem zM:FnScope ["many","link","one","other"] ["many","link"] (aP (aV 9)):=.au
theorem ao7 (B:Bt mg) (F:FM K mg "lesser_first" 9 f fd)  : Df P w K mg base 1 "lesser_first" ["many","link"] nP:=
 Df.au F zM (fun cdv A outer s H E hr=>by
  have nd:=zM.nd
  exact⟨(yM),(aO (bT (i:=2) nd (ak8 B rfl (a8 (qv 1) aD)))
   (aO (bT (i:=3) nd (ak7 B rfl (a8 (qv 1) aD)))
   (aO (cH (gA (fH (mG (qv 2) a9) (g9 (W7 (qv 3) (qv 0))))) (aU kB) cG)
   (aO (cH (k9 (qv 2) (qv 3)) (aU kB) cG)
   (aU (bQ (bC (a8 (qv 2) (a8 (qv 3) aD))))))))),al8⟩)
theorem ao8:FnScope ["things"] ["things"] (aP (aV 10)):=.au
theorem wZ (B:Bt mg) (F:FM K mg "rises" 10 f fd)  : Df P w K mg base 1 "rises" ["things"] kX:=
 Df.au F ao8 (fun cdv A outer s H E hr=>by
  have hu:=O5 hr
  exact⟨(yQ),(aU (bQ (vL B rfl (a8 (ag0 (N:=["ahead","behind"]) (fr:=[none,none]) (al5 B (qv 0) (Y8 (qv 0) (Y7 a9) Y6)) (fun _ _ _ _=>(al1 hu (qv 0) (qv 1)))) aD)))),am6⟩)
theorem ao9:FnScope ["rows","columns"] ["rows","columns"] (aP (aV 14)):=.au
theorem ap0 (B:Bt mg) (F:FM K mg "looked_through" 14 f fd) (x_BadBoard:Xc K mg base "BadBoard") {u_MOST_ROWS:Nat} (m_MOST_ROWS:mg "MOST_ROWS" = some (.int 40 u_MOST_ROWS)):cA P w K mg base 1 "looked_through" ["rows","columns"] jD:=
 cA.au F ao9 yR am8 (fun cdv A outer s H E Ep hr hX=>by
  exact (aU (cH (gA (fH (mG (X8 B rfl (a8 (qv 0) (a8 (qv 1) aD))) a9) (g9 (k8 (vM B rfl (a8 (qv 0) (a8 (qv 1) aD))) (kP rfl m_MOST_ROWS))))) (aU (r9 hX x_BadBoard (a8 fG aD))) cG)))
theorem ap1:FnScope ["rows","columns","cell"] ["rows","columns","cell"] (aP (aV 16)):=.au
theorem ap2 (B:Bt mg) (F:FM K mg "is_cell" 16 f fd)  : Df P w K mg base 1 "is_cell" ["rows","columns","cell"] jE:=
 Df.au F ap1 (fun cdv A outer s H E hr=>by
  exact⟨(yS),(aU (bQ (kA (vG (bP (qv 2) a9) a9) (kA (vF (bP (qv 2) a9) (qv 0)) (kA (vG (bP (qv 2) a9) a9) (mH (vF (bP (qv 2) a9) (qv 1)))))))),am9⟩)
theorem ap3:FnScope ["script","k"] ["script","k"] (aP (aV 21)):=.au
theorem ap4 (B:Bt mg) (F:FM K mg "_law_cell" 21 f fd)  : Df P w K mg base 1 "_law_cell" ["script","k"] iD:=
 Df.au F ap3 (fun cdv A outer s H E hr=>by
  exact⟨(wS),(aO (cH (mG (qv 1) (i7 B (a8 (qv 0) aD))) (aU (bQ (bP (qv 0) (qv 1)))) cG)
   (aU (bQ a9))),ae4⟩)
theorem ap5:FnScope ["found"] ["found"] (aP (aV 22)):=.au
theorem ap6 (B:Bt mg) (F:FM K mg "_law_whole" 22 f fd)  : Df P w K mg base 1 "_law_whole" ["found"] nE:=
 Df.au F ap5 (fun cdv A outer s H E hr=>by
  exact⟨(wT K),(aU (bQ (kA (Y1 B (qv 0)) (mH (X0 (Y2 B (qv 0))))))),ae5 (kO K).ii (kO K).ib⟩)
theorem zN:FnScope ["rows","columns","links","one","other","down","along"] ["rows","columns"] (aP (aV 24)):=.au
theorem ap7 (B:Bt mg) (F:FM K mg "_law_links" 24 f fd) (ab:mg "abs" = none):Df P w K mg base 1 "_law_links" ["rows","columns"] nV:=
 Df.au F zN (fun cdv A outer s H E hr=>by
  have nd:=zN.nd
  exact⟨(yZ),(aO (vJ (i:=2) nd (i6 aD))
   (aO (iY 3 nd (iW rfl B.range (mF (qv 0) (qv 1)))
    (aU (iY 4 nd (X5 rfl B.range (dC (qv 3) a9) (mF (qv 0) (qv 1)))
     (aO (bT (i:=5) nd (g6 (dL (qv 4) (qv 1)) (dL (qv 3) (qv 1))))
     (aO (bT (i:=6) nd (rV ab (a8 (g6 (cU (qv 4) (qv 1)) (cU (qv 3) (qv 1))) aD)))
     (aU (cH (k9 (dC (qv 5) (qv 6)) a9) (aU (X2 2 (bC (a8 (qv 3) (a8 (qv 4) aD))))) cG)))))))
   (aU (X1 2)))),an6⟩)
theorem zO:FnScope ["cell","far","some"] ["cell"] (aP (aV 26)):=.au
theorem ap8 (B:Bt mg) (F:FM K mg "_law_odd_boards" 26 f fd)  : Df P w K mg base 1 "_law_odd_boards" ["cell"] nW:=
 Df.au F zO (fun cdv A outer s H E hr=>by
  have nd:=zO.nd
  exact⟨(zA),(aO (bT (i:=1) nd (cU (dL (qv 0) a9) (pY a9 a9)))
   (aO (bT (i:=2) nd (i6 (a8 (bC (a8 a9 (a8 a9 aD))) (a8 (bC (a8 a9 (a8 a9 aD))) (a8 (bC (a8 (g6 (kD a9) (qv 1)) (a8 a9 aD))) (a8 (bC (a8 (dC a9 (qv 1)) (a8 a9 aD))) (a8 (bC (a8 a9 (a8 (dC a9 (qv 1)) aD))) (a8 (bC (a8 a9 (a8 a9 aD))) (a8 (bC (a8 a9 (a8 a9 aD))) (a8 (bC (a8 a9 (a8 (kD (qv 1)) aD))) aD))))))))))
   (aU (bQ (bP (qv 2) (cU (qv 0) a9)))))),an9⟩)
theorem zP:FnScope ["wants","links","want","pairs"] ["wants","links"] (aP (aV 8)):=.au
theorem ap9 (B:Bt mg) (F:FM K mg "made_web" 8 f fd) (d_rises:Df P w K mg base 1 "rises" ["things"] rS) (d_lesser_first:Df P w K mg base 1 "lesser_first" ["many","link"] nP) {u_MOST_HEARTHS:Nat} (m_MOST_HEARTHS:mg "MOST_HEARTHS" = some (.int 40 u_MOST_HEARTHS)) {u_MOST_WANTED:Nat} (m_MOST_WANTED:mg "MOST_WANTED" = some (.int 60 u_MOST_WANTED)):Df P w K mg base 2 "made_web" ["wants","links"] kU:=
 Df.au F zP (fun cdv A outer s H E hr=>by
  have nd:=zP.nd
  exact⟨(yN),(aO (cH (k8 (i7 B (a8 (qv 0) aD)) (kP rfl m_MOST_HEARTHS)) (aU kB) cG)
   (aO (iY 2 nd (kC (qv 0))
    (aU (cH (gA (fH (mG (qv 2) a9) (g9 (k8 (qv 2) (kP rfl m_MOST_WANTED))))) (aU kB) cG)))
   (aO (bT (i:=3) nd (ai1 B (a8 (vP (N:=["link","wants"]) (fr:=[none,some 0]) (kC (qv 1)) (fun _ _ _ _=>(cC d_lesser_first hr (a8 (i7 B (a8 (qv 1) aD)) (a8 (qv 0) aD))))) aD)))
   (aO (cH (eY (eJ (cC d_rises hr (a8 (qv 3) aD)))) (aU kB) cG)
   (aU (bQ (bC (a8 (mI B (a8 (qv 0) aD)) (a8 (mI B (a8 (qv 3) aD)) aD))))))))),al9⟩)
theorem aq0:FnScope ["rows","columns","cells"] ["rows","columns","cells"] (aP (aV 17)):=.au
theorem aq1 (B:Bt mg) (F:FM K mg "made_cells" 17 f fd) (d_looked_through:cA P w K mg base 1 "looked_through" ["rows","columns"] jD) (d_rises:Df P w K mg base 1 "rises" ["things"] kX) (d_is_cell:Df P w K mg base 1 "is_cell" ["rows","columns","cell"] jE) (x_BadSet:Xc K mg base "BadSet"):cA P w K mg base 2 "made_cells" ["rows","columns","cells"] nR:=
 cA.au F aq0 yT an0 (fun cdv A outer s H E Ep hr hX=>by
  exact (aO (vK (qZ hX d_looked_through hr (a8 (qv 0) (a8 (qv 1) aD))))
   (aO (cH (gA (fH (eY (eJ (cC d_rises hr (a8 (qv 2) aD)))) (g9 (eY (eJ (vL B rfl (a8 (vP (N:=["cell","rows","columns"]) (fr:=[none,some 0,some 1]) (kC (qv 2)) (fun _ _ _ _=>(cC d_is_cell hr (a8 (qv 1) (a8 (qv 2) (a8 (qv 0) aD)))))) aD))))))) (aU (r9 hX x_BadSet (a8 fG aD))) cG)
   (aU (bQ (mI B (a8 (qv 2) aD)))))))
theorem zQ:FnScope ["rows","columns","cell","row","column","sides"] ["rows","columns","cell"] (aP (aV 19)):=.au
theorem aq2 (B:Bt mg) (F:FM K mg "sides_of" 19 f fd) (d_is_cell:Df P w K mg base 1 "is_cell" ["rows","columns","cell"] jE):Df P w K mg base 2 "sides_of" ["rows","columns","cell"] nS:=
 Df.au F zQ (fun cdv A outer s H E hr=>by
  have nd:=zQ.nd
  exact⟨(yU),(aO (bT (i:=3) nd (bP (qv 2) a9))
   (aO (bT (i:=4) nd (bP (qv 2) a9))
   (aO (bT (i:=5) nd (i6 (a8 (bC (a8 (g6 (qv 3) a9) (a8 (qv 4) aD))) (a8 (bC (a8 (qv 3) (a8 (g6 (qv 4) a9) aD))) (a8 (bC (a8 (qv 3) (a8 (dC (qv 4) a9) aD))) (a8 (bC (a8 (dC (qv 3) a9) (a8 (qv 4) aD))) aD))))))
   (aU (bQ (vQ (N:=["side","rows","columns"]) (fr:=[none,some 0,some 1]) (kC (qv 5)) (fun _ _ _ _=>(eJ (cC d_is_cell hr (a8 (qv 1) (a8 (qv 2) (a8 (qv 0) aD)))))) (fun _ _ _ _=>(qv 0)))))))),an1⟩)
theorem zR:FnScope ["found","due","k","number"] ["found","due"] (aP (aV 23)):=.au
theorem aq3 (B:Bt mg) (F:FM K mg "_law_cells_are" 23 f fd) (d__law_whole:Df P w K mg base 1 "_law_whole" ["found"] nE):Df P w K mg base 2 "_law_cells_are" ["found","due"] jG:=
 Df.au F zR (fun cdv A outer s H E hr=>by
  have nd:=zR.nd
  have hu3:=zL hr
  exact⟨(yY K),(aO (cH (gA (fH (eY (eJ (pZ B (qv 0)))) (g9 (vH (i7 B (a8 (qv 0) aD)) (i7 B (a8 (qv 1) aD)))))) (aU (bQ fF)) cG)
   (aO (iY 2 nd (iW rfl B.range (i7 B (a8 (qv 1) aD)))
    (aO (cH (gA (fH (eY (eJ (pZ B (bP (qv 0) (qv 2))))) (g9 (vO hu3 (bP (qv 0) (qv 2)) (bP (qv 1) (qv 2)))))) (aU (bQ fF)) cG)
    (aU (iY 3 nd (kC (bP (qv 0) (qv 2)))
     (aU (cH (eY (eJ (cC d__law_whole hr (a8 (qv 3) aD)))) (aU (bQ fF)) cG))))))
   (aU (bQ fF)))),an4 (kO K).tt⟩)
theorem zS:FnScope ["rows","columns","many","beside","below"] ["rows","columns"] (aP (aV 15)):=.au
theorem aq4 (B:Bt mg) (F:FM K mg "board_web" 15 f fd) (d_looked_through:cA P w K mg base 1 "looked_through" ["rows","columns"] jD) (d_made_web:Df P w K mg base 2 "made_web" ["wants","links"] kU) (x_BadBoard:Xc K mg base "BadBoard") {u_MOST_HEARTHS:Nat} (m_MOST_HEARTHS:mg "MOST_HEARTHS" = some (.int 40 u_MOST_HEARTHS)) {u_ENOUGH:Nat} (m_ENOUGH:mg "ENOUGH" = some (.int 2 u_ENOUGH)):cA P w K mg base 3 "board_web" ["rows","columns"] jF:=
 cA.au F zS yW an3 (fun cdv A outer s H E Ep hr hX=>by
  have nd:=zS.nd
  exact (aO (vK (qZ hX d_looked_through hr (a8 (qv 0) (a8 (qv 1) aD))))
   (aO (bT (i:=2) nd (mF (qv 0) (qv 1)))
   (aO (cH (k8 (qv 2) (kP rfl m_MOST_HEARTHS)) (aU (r9 hX x_BadBoard (a8 fG aD))) cG)
   (aO (Z0 (i:=3) nd (N:=["hearth","columns"]) (fr:=[none,some 1]) (iW rfl B.range (qv 2)) (fun _ _ _ _=>(k8 (cU (dC (qv 0) a9) (qv 1)) a9)) (fun _ _ _ _=>(bC (a8 (qv 0) (a8 (dC (qv 0) a9) aD)))))
   (aO (Y9 (i:=4) nd (N:=["hearth","columns"]) (fr:=[none,some 1]) (iW rfl B.range (g6 (qv 2) (qv 1))) (fun _ _ _ _=>(bC (a8 (qv 0) (a8 (dC (qv 0) (qv 1)) aD)))))
   (aU (bQ (cC d_made_web hr (a8 (ag2 (i6 (a8 (kP rfl m_ENOUGH) aD)) (qv 2)) (a8 (af8 (qv 3) (qv 4)) aD)))))))))))
theorem aq5:FnScope ["rows","columns","cell"] ["rows","columns","cell"] (aP (aV 18)):=.au
theorem aq6 (B:Bt mg) (F:FM K mg "cells_beside" 18 f fd) (d_sides_of:Df P w K mg base 2 "sides_of" ["rows","columns","cell"] nS) (d_made_cells:cA P w K mg base 2 "made_cells" ["rows","columns","cells"] nR):cA P w K mg base 3 "cells_beside" ["rows","columns","cell"] iG:=
 cA.au F aq5 yV an2 (fun cdv A outer s H E Ep hr hX=>by
  exact (aU (bQ (cC d_sides_of hr (a8 (qv 0) (a8 (qv 1) (a8 (bP (qZ hX d_made_cells hr (a8 (qv 0) (a8 (qv 1) (a8 (i6 (a8 (qv 2) aD)) aD)))) a9) aD)))))))
theorem zT:FnScope ["which","rows","columns","cell","caught","e"] ["which","rows","columns","cell"] (aP (aV 25)):=.au
theorem aq7 (B:Bt mg) (F:FM K mg "_law_kind" 25 f fd) (d_board_web:cA P w K mg base 3 "board_web" ["rows","columns"] jF) (d_cells_beside:cA P w K mg base 3 "cells_beside" ["rows","columns","cell"] iG) (cat_HearthError:rC K mg "HearthError") (is_BadSet:kS K mg "BadSet") (is_BadBoard:kS K mg "BadBoard") (is_ValueError:rE K mg):Df P w K mg base 4 "_law_kind" ["which","rows","columns","cell"] iH:=
 Df.au F zT (fun cdv A outer s H E hr=>by
  have nd:=zT.nd
  exact⟨(z0),(aO (bT (i:=4) nd vE)
   (aO (ah4 5 cat_HearthError nd (ah2 (fun _=>(k9 (qv 0) a9)) (xI d_board_web hr (fun _=>(a8 (qv 1) (a8 (qv 2) aD)))) (xI d_cells_beside hr (fun _=>(a8 (qv 1) (a8 (qv 2) (a8 (qv 3) aD)))))) (fun _=>(aU (bT (i:=4) nd (qv 5)))))
   (aO (cH (gA (fH (W8 (qv 4) vE) (g9 (eY (eJ (ah8 B is_ValueError (qv 4))))))) (aU (bQ fG)) cG)
   (aU (bQ (aj3 (yD fG (xZ B (a8 (xL B is_BadBoard (qv 4)) aD))) (yD fG (xZ B (a8 (xL B is_BadSet (qv 4)) aD))))))))),an8⟩)
theorem zU:FnScope ["rows","columns","spot","due","row","beside"] ["rows","columns","spot"] (aP (aV 27)):=.au
theorem aq8 (B:Bt mg) (F:FM K mg "_law_beside_good" 27 f fd) (d_cells_beside:cA P w K mg base 3 "cells_beside" ["rows","columns","cell"] iG) (d__law_cells_are:Df P w K mg base 2 "_law_cells_are" ["found","due"] jG) (ab:mg "abs" = none):Df P w K mg base 4 "_law_beside_good" ["rows","columns","spot"] l8:=
 Df.au F zU (fun cdv A outer s H E hr=>by
  have nd:=zU.nd
  exact⟨(zE K),(aO (vJ (i:=3) nd (i6 aD))
   (aO (iY 4 nd (iW rfl B.range (qv 0))
    (aU (Z2 3 (vQ (N:=["column","row","spot"]) (fr:=[none,some 4,some 2]) (iW rfl B.range (qv 1)) (fun _ _ _ _=>(k9 (dC (rV ab (a8 (g6 (qv 1) (bP (qv 2) a9)) aD)) (rV ab (a8 (g6 (qv 0) (bP (qv 2) a9)) aD))) a9)) (fun _ _ _ _=>(bC (a8 (qv 1) (a8 (qv 0) aD))))))))
   (aO (X3 (r6 d_cells_beside hr (a8 (qv 0) (a8 (qv 1) (a8 (qv 2) aD)))) (bC (a8 a9 (a8 a9 aD))))
   (aO (bT (i:=5) nd (r6 d_cells_beside hr (a8 (qv 0) (a8 (qv 1) (a8 (qv 2) aD)))))
   (aU (bQ (kA (Y3 B (qv 5)) (mH (cC d__law_cells_are hr (a8 (mI B (a8 (qv 5) aD)) (a8 (qv 3) aD))))))))))),ao2 (kO K).ll⟩)
theorem zV:FnScope ["script","cell","rows","columns","found","spot","wide","lines","odd","wrong"] ["script"] (aP (aV 28)):=.au
theorem aq9 (B:Bt mg) (F:dQ K "law" "law" (aV 28) f fd) (d__law_cell:Df P w K mg base 1 "_law_cell" ["script","k"] iD) (d_board_web:cA P w K mg base 3 "board_web" ["rows","columns"] jF) (d__law_odd_boards:Df P w K mg base 1 "_law_odd_boards" ["cell"] nW) (d__law_cells_are:Df P w K mg base 2 "_law_cells_are" ["found","due"] jG) (d__law_beside_good:Df P w K mg base 4 "_law_beside_good" ["rows","columns","spot"] l8) (d__law_kind:Df P w K mg base 4 "_law_kind" ["which","rows","columns","cell"] iH) (d__law_links:Df P w K mg base 1 "_law_links" ["rows","columns"] nV):cI P w K mg base dD 5 f fd ["script"] (jW K rY):=
 af4 F zV (fun xs Q h=>by unfold rY at h; repeat (first | (obtain ⟨rfl,_⟩:=h; rfl) | (obtain ⟨_,h⟩:=h))) (fun cdv A outer s H E hr=>by
  have nd:=zV.nd
  have hu3:=zL hr
  exact⟨(zJ K),(aO (bT (i:=1) nd (cC d__law_cell hr (a8 (qv 0) (a8 a9 aD))))
   (aO (bT (i:=2) nd (dC a9 (cU (qv 1) a9)))
   (aO (bT (i:=3) nd (dC a9 (cU (dL (qv 1) a9) (dL a9 (qv 2)))))
   (aO (cH (k9 (cU (dL (qv 1) a9) a9) a9) (aU (ah0 2 3 nd (bC (a8 (qv 3) (a8 (qv 2) aD))))) cG)
   (aO (bT (i:=4) nd (r6 d_board_web hr (a8 (qv 2) (a8 (qv 3) aD))))
   (aO (cH (gA (fH (eY (eJ (pZ B (qv 4)))) (fH (vH (i7 B (a8 (qv 4) aD)) a9) (g9 (vO hu3 (bP (qv 4) a9) (am3 (bC (a8 a9 aD)) (mF (qv 2) (qv 3)))))))) (aU (bQ fF)) cG)
   (aO (cH (eY (eJ (cC d__law_cells_are hr (a8 (bP (qv 4) a9) (a8 (cC d__law_links hr (a8 (qv 2) (a8 (qv 3) aD))) aD))))) (aU (bQ fF)) cG)
   (aO (bT (i:=1) nd (cC d__law_cell hr (a8 (qv 0) (a8 a9 aD))))
   (aO (bT (i:=5) nd (bC (a8 (cU (qv 1) (qv 2)) (a8 (cU (dL (qv 1) a9) (qv 3)) aD))))
   (aO (cH (eY (eJ (cC d__law_beside_good hr (a8 (qv 2) (a8 (qv 3) (a8 (qv 5) aD)))))) (aU (bQ fF)) cG)
   (aO (bT (i:=6) nd (dL (cC d__law_cell hr (a8 (qv 0) (a8 a9 aD))) a9))
   (aO (bT (i:=7) nd (bC (a8 (dC a9 (cU (qv 6) a9)) (a8 (dC a9 (cU (dL (qv 6) a9) a9)) aD))))
   (aO (cH (eY (eJ (cC d__law_beside_good hr (a8 (bP (qv 7) a9) (a8 (bP (qv 7) a9) (a8 (bC (a8 (cU (dL (qv 6) a9) (bP (qv 7) a9)) (a8 (cU (dL (qv 6) a9) (bP (qv 7) a9)) aD))) aD)))))) (aU (bQ fF)) cG)
   (aO (bT (i:=8) nd (i6 (a8 (bC (a8 (kD a9) (a8 a9 aD))) (a8 (bC (a8 a9 (a8 (kD a9) aD))) (a8 (bC (a8 (qv 2) (a8 a9 aD))) (a8 (bC (a8 a9 (a8 (qv 3) aD))) (a8 (bC (a8 (dC (qv 2) (cU (dL (qv 1) a9) (pY a9 a9))) (a8 a9 aD))) (a8 (bC (a8 (g6 (kD a9) (cU (dL (qv 1) a9) (pY a9 a9))) (a8 a9 aD))) aD))))))))
   (aO (cH (rO (cC d__law_kind hr (a8 a9 (a8 (qv 2) (a8 (qv 3) (a8 (bP (qv 8) (cU (qv 1) a9)) aD))))) fG) (aU (bQ fF)) cG)
   (aO (bT (i:=9) nd (cC d__law_odd_boards hr (a8 (cC d__law_cell hr (a8 (qv 0) (a8 a9 aD))) aD)))
   (aO (cH (gA (fH (rO (cC d__law_kind hr (a8 a9 (a8 (bP (qv 9) a9) (a8 (bP (qv 9) a9) (a8 (qv 5) aD))))) fG) (g9 (rO (cC d__law_kind hr (a8 a9 (a8 (bP (qv 9) a9) (a8 (bP (qv 9) a9) (a8 (bC (a8 a9 (a8 a9 aD))) aD))))) fG)))) (aU (bQ fF)) cG)
   (aO (bT (i:=6) nd (dC (dL a9 (qv 2)) a9))
   (aU (bQ (W9 (W6 (qv 6) a9) (mH (aj8 (cC d__law_kind hr (a8 a9 (a8 (qv 2) (a8 (vM B rfl (a8 a9 (a8 (qv 6) aD))) (a8 (qv 5) aD))))) fG))))))))))))))))))))))),ao6 (kO K).tt⟩)
end
set_option autoImplicit true in
theorem ar0 {l:OpenLaw}{w:World}{K:Frag}{h:Heap}{mg:Str->Option Value} (X:K.In h) (G:h.Ns mainGlobals mg) (hfa:mg "law" = some (.ref fa))
  (h0:FK K "lesser_first" 9 f0 d0)
  (h1:FK K "rises" 10 f1 d1)
  (h2:FK K "looked_through" 14 f2 d2)
  (h3:FK K "is_cell" 16 f3 d3)
  (h4:FK K "_law_cell" 21 f4 d4)
  (h5:FK K "_law_whole" 22 f5 d5)
  (h6:FK K "_law_links" 24 f6 d6)
  (h7:FK K "_law_odd_boards" 26 f7 d7)
  (h8:FK K "made_web" 8 f8 d8)
  (h9:FK K "made_cells" 17 f9 d9)
  (h10:FK K "sides_of" 19 f10 d10)
  (h11:FK K "_law_cells_are" 23 f11 d11)
  (h12:FK K "board_web" 15 f12 d12)
  (h13:FK K "cells_beside" 18 f13 d13)
  (h14:FK K "_law_kind" 25 f14 d14)
  (h15:FK K "_law_beside_good" 27 f15 d15)
  (a16:nsIn K mainGlobals "law" = some (some (.ref f16))) (l16:K.lookup f16=some ⟨oc16,od16,.func (fnOf "law" "law" (fR (aV 28)) (cW (aV 28)) (aP (aV 28)) .none kV16 dc16 pm16 an16 cd16 ct16),sl16⟩) (c16:codeIn K cd16 "law" = true) (k16:keepIn K (.ref f16)=true)
  (z_len:nsIn K mainGlobals "len" = some none)
  (z_range:nsIn K mainGlobals "range" = some none)
  (z_tuple:nsIn K mainGlobals "tuple" = some none)
  (z_list:nsIn K mainGlobals "list" = some none)
  (z_sorted:nsIn K mainGlobals "sorted" = some none)
  (z_all:nsIn K mainGlobals "all" = some none)
  (z_any:nsIn K mainGlobals "any" = some none)
  (z_zip:nsIn K mainGlobals "zip" = some none)
  (z_min:nsIn K mainGlobals "min" = some none)
  (z_max:nsIn K mainGlobals "max" = some none)
  (z_sum:nsIn K mainGlobals "sum" = some none)
  (z_isinstance:nsIn K mainGlobals "isinstance" = some none)
  (z_int:nsIn K mainGlobals "int" = some none)
  (z_bool:nsIn K mainGlobals "bool" = some none)
  (z_enumerate:nsIn K mainGlobals "enumerate" = some none)
  (z_abs:nsIn K mainGlobals "abs" = some none)
  {u_ENOUGH:Nat} (z_ENOUGHx:nsIn K mainGlobals "ENOUGH" = some (some (.int 2 u_ENOUGH)))
  {u_MOST_HEARTHS:Nat} (z_MOST_HEARTHSx:nsIn K mainGlobals "MOST_HEARTHS" = some (some (.int 40 u_MOST_HEARTHS)))
  {u_MOST_ROWS:Nat} (z_MOST_ROWSx:nsIn K mainGlobals "MOST_ROWS" = some (some (.int 40 u_MOST_ROWS)))
  {u_MOST_WANTED:Nat} (z_MOST_WANTEDx:nsIn K mainGlobals "MOST_WANTED" = some (some (.int 60 u_MOST_WANTED)))
  {C_HearthError C_BadWeb C_BadSet C_BadBoard:Addr}
  (aX_HE:nsIn K mainGlobals "HearthError" = some (some (.ref C_HearthError)))
  (aX_BW:nsIn K mainGlobals "BadWeb" = some (some (.ref C_BadWeb)))
  (aX_BS:nsIn K mainGlobals "BadSet" = some (some (.ref C_BadSet)))
  (aX_BB:nsIn K mainGlobals "BadBoard" = some (some (.ref C_BadBoard)))
  (zX_BO:nsIn K mainGlobals "BadOrder" = some none)
  (zX_BP:nsIn K mainGlobals "BadPrices" = some none)
  (zX_BD:nsIn K mainGlobals "BadDeed" = some none)
  (zX_NW:nsIn K mainGlobals "NotWood" = some none)
  (zX_NP:nsIn K mainGlobals "NoPaper" = some none)
  (zX_NS:nsIn K mainGlobals "NoSuch" = some none)
  (zX_TM:nsIn K mainGlobals "TooMany" = some none)
  (zX_NT:nsIn K mainGlobals "NoText" = some none)
  (zX_OR:nsIn K mainGlobals "OddRound" = some none)
  (y_fg:specialIn K (.builtin "object.__class__") "__get__" = some (some (.builtin "getset_descriptor.__get__")))
  (y_ft:takesIn K (.builtin "object.__class__")=some true)
  (z_VE:nsIn K mainGlobals "ValueError" = some none)
  (y1_HE:isClsIn K C_HearthError=true)
  (y2_HE:typeIn K (.ref C_HearthError)=some (.type "type"))
  (y3_HE:findIn K (.ref C_HearthError) "__getattribute__" = some (some (.builtin "BaseException.__getattribute__")))
  (y4_HE:findIn K (.ref C_HearthError) "__getattr__" = some none)
  (y5_HE:findIn K (.ref C_HearthError) "__class__" = some (some (.builtin "object.__class__")))
  (y6_HE:mroIn K C_HearthError (.type "object")=some true)
  (y7_HE:mroIn K C_HearthError (.type "BaseException")=some true)
  (y1_BW:isClsIn K C_BadWeb=true)
  (y2_BW:typeIn K (.ref C_BadWeb)=some (.type "type"))
  (y3_BW:findIn K (.ref C_BadWeb) "__getattribute__" = some (some (.builtin "BaseException.__getattribute__")))
  (y4_BW:findIn K (.ref C_BadWeb) "__getattr__" = some none)
  (y5_BW:findIn K (.ref C_BadWeb) "__class__" = some (some (.builtin "object.__class__")))
  (y6_BW:mroIn K C_BadWeb (.type "object")=some true)
  (y7_BW:mroIn K C_BadWeb (.type "BaseException")=some true)
  (y1_BS:isClsIn K C_BadSet=true)
  (y2_BS:typeIn K (.ref C_BadSet)=some (.type "type"))
  (y3_BS:findIn K (.ref C_BadSet) "__getattribute__" = some (some (.builtin "BaseException.__getattribute__")))
  (y4_BS:findIn K (.ref C_BadSet) "__getattr__" = some none)
  (y5_BS:findIn K (.ref C_BadSet) "__class__" = some (some (.builtin "object.__class__")))
  (y6_BS:mroIn K C_BadSet (.type "object")=some true)
  (y7_BS:mroIn K C_BadSet (.type "BaseException")=some true)
  (y1_BB:isClsIn K C_BadBoard=true)
  (y2_BB:typeIn K (.ref C_BadBoard)=some (.type "type"))
  (y3_BB:findIn K (.ref C_BadBoard) "__getattribute__" = some (some (.builtin "BaseException.__getattribute__")))
  (y4_BB:findIn K (.ref C_BadBoard) "__getattr__" = some none)
  (y5_BB:findIn K (.ref C_BadBoard) "__class__" = some (some (.builtin "object.__class__")))
  (y6_BB:mroIn K C_BadBoard (.type "object")=some true)
  (y7_BB:mroIn K C_BadBoard (.type "BaseException")=some true)
  (sB_HE:subIn K (.ref C_HearthError) (.type "BaseException")=some true)
  (s_BW_HE:subIn K (.ref C_BadWeb) (.ref C_HearthError)=some true)
  (s_BS_HE:subIn K (.ref C_BadSet) (.ref C_HearthError)=some true)
  (s_BB_HE:subIn K (.ref C_BadBoard) (.ref C_HearthError)=some true)
  (sN_BB:subIn K (.type "NoneType") (.ref C_BadBoard)=some false)
  (s_BW_BB:subIn K (.ref C_BadWeb) (.ref C_BadBoard)=some false)
  (n_BW_BB:(C_BadWeb == C_BadBoard)=false)
  (s_BS_BB:subIn K (.ref C_BadSet) (.ref C_BadBoard)=some false)
  (n_BS_BB:(C_BadSet == C_BadBoard)=false)
  (sN_BS:subIn K (.type "NoneType") (.ref C_BadSet)=some false)
  (s_BW_BS:subIn K (.ref C_BadWeb) (.ref C_BadSet)=some false)
  (n_BW_BS:(C_BadWeb == C_BadSet)=false)
  (s_BB_BS:subIn K (.ref C_BadBoard) (.ref C_BadSet)=some false)
  (n_BB_BS:(C_BadBoard == C_BadSet)=false)
  (sV_BW:subIn K (.ref C_BadWeb) (.type "ValueError")=some true)
  (sV_BS:subIn K (.ref C_BadSet) (.type "ValueError")=some true)
  (sV_BB:subIn K (.ref C_BadBoard) (.type "ValueError")=some true)
  (q_BB:excIn K C_BadBoard [.type "ValueError",.type "Exception",.type "BaseException",.type "object"] "ValueError.__new__" = true)
  (q_BS:excIn K C_BadSet [.type "ValueError",.type "Exception",.type "BaseException",.type "object"] "ValueError.__new__" = true)
  : ∃ fd:FuncData,(∀ (s:Shared) (v:Value),BindsTo s fd ⟨[v],[]⟩ [("script",v)])/\∀ base:Heap,K.In base->base.Ns mainGlobals mg->cI l.prog w K mg base dD 5 fa fd ["script"] (nG K):=by
 have e:=hfa.symm.trans (mg_of X G a16)
 cases e
 have F16:=O4 (st:=aV 28) l16 c16 k16
 have m16:=mg_of X G a16
 have B:Bt mg:=⟨mg_none_of X G z_len,mg_none_of X G z_range,mg_none_of X G z_tuple,mg_none_of X G z_list,mg_none_of X G z_sorted,mg_none_of X G z_all,mg_none_of X G z_any,mg_none_of X G z_zip,mg_none_of X G z_min,mg_none_of X G z_max,mg_none_of X G z_sum,mg_none_of X G z_isinstance,mg_none_of X G z_int,mg_none_of X G z_bool,mg_none_of X G z_enumerate⟩
 have ab:=mg_none_of X G z_abs
 have m_ENOUGH:=mg_of X G z_ENOUGHx
 have m_MOST_HEARTHS:=mg_of X G z_MOST_HEARTHSx
 have m_MOST_ROWS:=mg_of X G z_MOST_ROWSx
 have m_MOST_WANTED:=mg_of X G z_MOST_WANTEDx
 refine⟨fnOf "law" "law" (fR (aV 28)) (cW (aV 28)) (aP (aV 28)) .none kV16 dc16 pm16 an16 cd16 ct16,fun s v=>.of_eq rfl,fun base KB _=>?_⟩
 have XK_HearthError:gT K C_HearthError:=⟨y1_HE,y2_HE,y3_HE,y4_HE,y5_HE,y_fg,y_ft,y6_HE,y7_HE⟩
 have XK_BadWeb:gT K C_BadWeb:=⟨y1_BW,y2_BW,y3_BW,y4_BW,y5_BW,y_fg,y_ft,y6_BW,y7_BW⟩
 have XK_BadSet:gT K C_BadSet:=⟨y1_BS,y2_BS,y3_BS,y4_BS,y5_BS,y_fg,y_ft,y6_BS,y7_BS⟩
 have XK_BadBoard:gT K C_BadBoard:=⟨y1_BB,y2_BB,y3_BB,y4_BB,y5_BB,y_fg,y_ft,y6_BB,y7_BB⟩
 have cat_HearthError:rC K mg "HearthError":=⟨C_HearthError,mg_of X G aX_HE,⟨y1_HE,y2_HE,sB_HE⟩,fun n C h2 h1=>by
  obtain ⟨hm,hb⟩:=nH h2
  simp only [jB,as4,at9,az3] at hm
  rcases hm with rfl | rfl | rfl | rfl | rfl | rfl | rfl | rfl | rfl | rfl | rfl | rfl
  ·rw [aX_BW] at h1; cases h1; exact s_BW_HE
  ·rw [aX_BS] at h1; cases h1; exact s_BS_HE
  ·rw [zX_BO] at h1; cases h1
  ·rw [zX_BP] at h1; cases h1
  ·rw [aX_BB] at h1; cases h1; exact s_BB_HE
  ·rw [zX_BD] at h1; cases h1
  ·rw [zX_NW] at h1; cases h1
  ·rw [zX_NP] at h1; cases h1
  ·rw [zX_NS] at h1; cases h1
  ·rw [zX_TM] at h1; cases h1
  ·rw [zX_NT] at h1; cases h1
  ·rw [zX_OR] at h1; cases h1⟩
 have is_BadBoard:kS K mg "BadBoard":=⟨C_BadBoard,mg_of X G aX_BB,fun z=>(by cases z),(fun n C b h1 h2=>by
  obtain ⟨hm,hb⟩:=nH h2
  simp only [jB,as4,at9,az3] at hm
  rcases hm with rfl | rfl | rfl | rfl | rfl | rfl | rfl | rfl | rfl | rfl | rfl | rfl
  ·rw [aX_BW] at h1; cases h1; rw [hb,show (("BadWeb" : Str) == "BadBoard" || ("BadBoard" : Str) == "HearthError" || ("BadBoard" : Str) == "ValueError")=false by decide]; exact⟨XK_BadWeb.exc,nI XK_BadBoard n_BW_BB s_BW_BB⟩
  ·rw [aX_BS] at h1; cases h1; rw [hb,show (("BadSet" : Str) == "BadBoard" || ("BadBoard" : Str) == "HearthError" || ("BadBoard" : Str) == "ValueError")=false by decide]; exact⟨XK_BadSet.exc,nI XK_BadBoard n_BS_BB s_BS_BB⟩
  ·rw [zX_BO] at h1; cases h1
  ·rw [zX_BP] at h1; cases h1
  ·rw [aX_BB] at h1; cases h1; rw [hb,show (("BadBoard" : Str) == "BadBoard" || ("BadBoard" : Str) == "HearthError" || ("BadBoard" : Str) == "ValueError")=true by decide]; exact⟨XK_BadBoard.exc,xN⟩
  ·rw [zX_BD] at h1; cases h1
  ·rw [zX_NW] at h1; cases h1
  ·rw [zX_NP] at h1; cases h1
  ·rw [zX_NS] at h1; cases h1
  ·rw [zX_TM] at h1; cases h1
  ·rw [zX_NT] at h1; cases h1
  ·rw [zX_OR] at h1; cases h1),xO XK_BadBoard sN_BB⟩
 have is_BadSet:kS K mg "BadSet":=⟨C_BadSet,mg_of X G aX_BS,fun z=>(by cases z),(fun n C b h1 h2=>by
  obtain ⟨hm,hb⟩:=nH h2
  simp only [jB,as4,at9,az3] at hm
  rcases hm with rfl | rfl | rfl | rfl | rfl | rfl | rfl | rfl | rfl | rfl | rfl | rfl
  ·rw [aX_BW] at h1; cases h1; rw [hb,show (("BadWeb" : Str) == "BadSet" || ("BadSet" : Str) == "HearthError" || ("BadSet" : Str) == "ValueError")=false by decide]; exact⟨XK_BadWeb.exc,nI XK_BadSet n_BW_BS s_BW_BS⟩
  ·rw [aX_BS] at h1; cases h1; rw [hb,show (("BadSet" : Str) == "BadSet" || ("BadSet" : Str) == "HearthError" || ("BadSet" : Str) == "ValueError")=true by decide]; exact⟨XK_BadSet.exc,xN⟩
  ·rw [zX_BO] at h1; cases h1
  ·rw [zX_BP] at h1; cases h1
  ·rw [aX_BB] at h1; cases h1; rw [hb,show (("BadBoard" : Str) == "BadSet" || ("BadSet" : Str) == "HearthError" || ("BadSet" : Str) == "ValueError")=false by decide]; exact⟨XK_BadBoard.exc,nI XK_BadSet n_BB_BS s_BB_BS⟩
  ·rw [zX_BD] at h1; cases h1
  ·rw [zX_NW] at h1; cases h1
  ·rw [zX_NP] at h1; cases h1
  ·rw [zX_NS] at h1; cases h1
  ·rw [zX_TM] at h1; cases h1
  ·rw [zX_NT] at h1; cases h1
  ·rw [zX_OR] at h1; cases h1),xO XK_BadSet sN_BS⟩
 have is_ValueError:rE K mg:=⟨mg_none_of X G z_VE,fun z=>(by cases z),(fun n C b h1 h2=>by
  obtain ⟨hm,hb⟩:=nH h2
  simp only [jB,as4,at9,az3] at hm
  rcases hm with rfl | rfl | rfl | rfl | rfl | rfl | rfl | rfl | rfl | rfl | rfl | rfl
  ·rw [aX_BW] at h1; cases h1; rw [hb,show (("BadWeb" : Str) == "ValueError" || ("ValueError" : Str) == "HearthError" || ("ValueError" : Str) == "ValueError")=true by decide]; exact⟨XK_BadWeb.exc,rF sV_BW⟩
  ·rw [aX_BS] at h1; cases h1; rw [hb,show (("BadSet" : Str) == "ValueError" || ("ValueError" : Str) == "HearthError" || ("ValueError" : Str) == "ValueError")=true by decide]; exact⟨XK_BadSet.exc,rF sV_BS⟩
  ·rw [zX_BO] at h1; cases h1
  ·rw [zX_BP] at h1; cases h1
  ·rw [aX_BB] at h1; cases h1; rw [hb,show (("BadBoard" : Str) == "ValueError" || ("ValueError" : Str) == "HearthError" || ("ValueError" : Str) == "ValueError")=true by decide]; exact⟨XK_BadBoard.exc,rF sV_BB⟩
  ·rw [zX_BD] at h1; cases h1
  ·rw [zX_NW] at h1; cases h1
  ·rw [zX_NP] at h1; cases h1
  ·rw [zX_NS] at h1; cases h1
  ·rw [zX_TM] at h1; cases h1
  ·rw [zX_NT] at h1; cases h1
  ·rw [zX_OR] at h1; cases h1),ah9⟩
 have x_BadBoard:Xc K mg base "BadBoard":=⟨C_BadBoard,_,_,_,_,xM KB (mg_of X G aX_BB) q_BB,PySem.F.excBase_ValueError,aX_BB⟩
 have x_BadSet:Xc K mg base "BadSet":=⟨C_BadSet,_,_,_,_,xM KB (mg_of X G aX_BS) q_BS,PySem.F.excBase_ValueError,aX_BS⟩
 have D0:=ao7 (P:=l.prog) (w:=w) (base:=base) B (h0.M X G)
 have D1:=wZ (P:=l.prog) (w:=w) (base:=base) B (h1.M X G)
 have D2:=ap0 (P:=l.prog) (w:=w) (base:=base) B (h2.M X G)  x_BadBoard m_MOST_ROWS
 have D3:=ap2 (P:=l.prog) (w:=w) (base:=base) B (h3.M X G)
 have D4:=ap4 (P:=l.prog) (w:=w) (base:=base) B (h4.M X G)
 have D5:=ap6 (P:=l.prog) (w:=w) (base:=base) B (h5.M X G)
 have D6:=ap7 (P:=l.prog) (w:=w) (base:=base) B (h6.M X G)  ab
 have D7:=ap8 (P:=l.prog) (w:=w) (base:=base) B (h7.M X G)
 have D8:=ap9 (P:=l.prog) (w:=w) (base:=base) B (h8.M X G) (D1.weak am7) D0 m_MOST_HEARTHS m_MOST_WANTED
 have D9:=aq1 (P:=l.prog) (w:=w) (base:=base) B (h9.M X G) D2 D1 D3 x_BadSet
 have D10:=aq2 (P:=l.prog) (w:=w) (base:=base) B (h10.M X G) D3
 have D11:=aq3 (P:=l.prog) (w:=w) (base:=base) B (h11.M X G) D5
 have D12:=aq4 (P:=l.prog) (w:=w) (base:=base) B (h12.M X G) D2 D8 x_BadBoard m_MOST_HEARTHS m_ENOUGH
 have D13:=aq6 (P:=l.prog) (w:=w) (base:=base) B (h13.M X G) D10 D9
 have D14:=aq7 (P:=l.prog) (w:=w) (base:=base) B (h14.M X G) D12 D13 cat_HearthError is_BadSet is_BadBoard is_ValueError
 have D15:=aq8 (P:=l.prog) (w:=w) (base:=base) B (h15.M X G) D13 D11 ab
 exact af5 (aq9 B F16 D4 D12 D7 D11 D15 D14 D6)
theorem ar1 {l:OpenLaw}{q:Program}{loose:List Str}{XP:(Str->Option Value)->Heap->Prop}{YP:World->Heap->Prop}{d:DefRec}{K:Params->Frag} (hn:l.most=some 63) (hdf:d.params.defaults = [])
  (hY:∀ (w:World) (h:Heap),YP w h->(K w.params).In h)
  (F:∀ (w:World) (mg:Str->Option Value) (fa:Addr) (h:Heap),(K w.params).In h->h.Ns mainGlobals mg->mg d.name=some (.ref fa)->
   ∃ fd:FuncData,(∀ (s:Shared) (u:Value),BindsTo s fd ⟨[u],[]⟩ [("script",u)])/\∀ base:Heap,(K w.params).In base->base.Ns mainGlobals mg->cI l.prog w (K w.params) mg base dD 5 fa fd ["script"] (nG (K w.params))) :
  WalkO q loose XP YP l.row.toRowW d [] (fun f vs=>PySem.call f vs):=
 L2.O2 (n:=63) (k:=5) (x:="script") (CX:=fun _=>dD) (sp:=fun w=>nG (K w.params)) hn (by decide) hdf ⟨rfl,by decide,by decide⟩ hY F (fun _ _ a ns hl hO hS=>⟨a,ns,rfl,af6 hO hS,hl,fun _=>rfl⟩) fun _ _ _ _ _ z=>z
end K_k58
open PySem PySem.W PyProof.Rows
set_option maxRecDepth 100000 in
set_option maxHeartbeats 0 in
theorem PySem.Challenge.cw_kindleweb_k58_board_webs_holds : PySem.Challenge.rw_kindleweb_k58_board_webs.Holds := by
 w_on; o_law; k_head; (case hw => w_witness2)
 k_fill
 refine K_k58.ar1 (l := PySem.Challenge.rw_kindleweb_k58_board_webs) rfl rfl (fun w h Y => PySem.W.kIn_of Y) ?F
 case F =>
  intro w mg fa h KX G hmg
  refine' K_k58.ar0 KX G hmg ?h0 ?h1 ?h2 ?h3 ?h4 ?h5 ?h6 ?h7 ?h8 ?h9 ?h10 ?h11 ?h12 ?h13 ?h14 ?h15 ?a16 ?l16 ?c16 ?k16 ?z_len ?z_range ?z_tuple ?z_list ?z_sorted ?z_all ?z_any ?z_zip ?z_min ?z_max ?z_sum ?z_isinstance ?z_int ?z_bool ?z_enumerate ?z_abs ?z_ENOUGHx ?z_MOST_HEARTHSx ?z_MOST_ROWSx ?z_MOST_WANTEDx ?aX_HE ?aX_BW ?aX_BS ?aX_BB ?zX_BO ?zX_BP ?zX_BD ?zX_NW ?zX_NP ?zX_NS ?zX_TM ?zX_NT ?zX_OR ?y_fg ?y_ft ?z_VE ?y1_HE ?y2_HE ?y3_HE ?y4_HE ?y5_HE ?y6_HE ?y7_HE ?y1_BW ?y2_BW ?y3_BW ?y4_BW ?y5_BW ?y6_BW ?y7_BW ?y1_BS ?y2_BS ?y3_BS ?y4_BS ?y5_BS ?y6_BS ?y7_BS ?y1_BB ?y2_BB ?y3_BB ?y4_BB ?y5_BB ?y6_BB ?y7_BB ?sB_HE ?s_BW_HE ?s_BS_HE ?s_BB_HE ?sN_BB ?s_BW_BB ?n_BW_BB ?s_BS_BB ?n_BS_BB ?sN_BS ?s_BW_BS ?n_BW_BS ?s_BB_BS ?n_BB_BS ?sV_BW ?sV_BS ?sV_BB ?q_BB ?q_BS
  (case h0 | h1 | h2 | h3 | h4 | h5 | h6 | h7 | h8 | h9 | h10 | h11 | h12 | h13 | h14 | h15 => exact ⟨by k_is, ⟨⟨_, _, _, _, _, _, _, _, _, rfl, by k_is, by k_is⟩, by k_is⟩⟩)
  (case a16|l16|c16|k16|z_len|z_range|z_tuple|z_list|z_sorted|z_all|z_any|z_zip|z_min|z_max|z_sum|z_isinstance|z_int|z_bool|z_enumerate|z_abs|z_ENOUGHx|z_MOST_HEARTHSx|z_MOST_ROWSx|z_MOST_WANTEDx|aX_HE|aX_BW|aX_BS|aX_BB|zX_BO|zX_BP|zX_BD|zX_NW|zX_NP|zX_NS|zX_TM|zX_NT|zX_OR|y_fg|y_ft|z_VE|y1_HE|y2_HE|y3_HE|y4_HE|y5_HE|y6_HE|y7_HE|y1_BW|y2_BW|y3_BW|y4_BW|y5_BW|y6_BW|y7_BW|y1_BS|y2_BS|y3_BS|y4_BS|y5_BS|y6_BS|y7_BS|y1_BB|y2_BB|y3_BB|y4_BB|y5_BB|y6_BB|y7_BB|sB_HE|s_BW_HE|s_BS_HE|s_BB_HE|sN_BB|s_BW_BB => k_is)
  (case n_BW_BB => decide)
  (case s_BS_BB => k_is)
  (case n_BS_BB => decide)
  (case sN_BS|s_BW_BS => k_is)
  (case n_BW_BS => decide)
  (case s_BB_BS => k_is)
  (case n_BB_BS => decide)
  (case sV_BW|sV_BS|sV_BB => k_is)
  (case q_BB|q_BS => k_exc)


