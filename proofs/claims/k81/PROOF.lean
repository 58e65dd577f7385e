import PyProof.Rows.All
import Wide.All
import OpenK.AllK
import Wide.FinOn
import Lean
import PyProof.EqAt
import PyProof.EqKinds
import PyProof.TupleCall
import PyProof.NeKinds
import PyProof.Draws
import PyProof.ZipIter
import PyProof.DictUpdate
import PyProof.AutoSeq1
import PyProof.ListRange
import PyProof.ListMulRoad
import PyProof.FactsAll.tuple_2
import PyProof.Rows.SortShell
import PyProof.EnumFor
import PyProof.EnumMake
import PyProof.EnumStmt
import PyProof.Rows.SortWalk
import KE.KDictList
import PyProof.SumAny
import PyProof.ConsumeWalk
import PyProof.WalksMore
import PyProof.Rows.TupAssign
import PyProof.ExcArgsOwn
import PySem.Challenge.RW_kindleweb_k81_strips_made
set_option Elab.async false
set_option linter.all false
set_option maxRecDepth 100000
set_option maxHeartbeats 4000000
section
open PySem PySem.Spec PyProof.Rows
noncomputable def ao2:=@wpAny_bind
noncomputable def ao3:=@Heap.get?_push_of_some
noncomputable def ao4:=@List.size_toArray
noncomputable def ao5:=@decide_eq_false
noncomputable def ao6:=@List.getElem?_eq_getElem
noncomputable def ao7:=@wpS_bind
noncomputable def ao8:=@Nat.le_refl
noncomputable def ao9:=@wpAny_pure
noncomputable def ap0:=@List.mem_cons
noncomputable def ap1:=@Nat.lt_of_lt_of_le
noncomputable def ap2:=@wpS_pure
noncomputable def ap3:=@Heap.lt_size
noncomputable def ap5:=@List.getD_eq_getElem?_getD
noncomputable def ap7:=@decide_eq_true
noncomputable def ap9:=@List.length_map
noncomputable def aq1:=@List.append_assoc
noncomputable def aq2:=@List.getElem?_set_ne
noncomputable def aq3:=@List.mem_singleton
noncomputable def aq4:=@List.mem_cons_of_mem
noncomputable def aq5:=@Bool.false_ne_true
noncomputable def aq6:=@List.not_mem_nil
noncomputable def aq7:=@List.getElem?_eq_some_iff
noncomputable def aq8:=@Heap.get?_push_size
noncomputable def aq9:=@List.mem_cons_self
noncomputable def ar0:=@List.mem_append_right
noncomputable def ar1:=@Option.some.inj
noncomputable def ar2:=@List.getElem?_map
noncomputable def ar3:=@List.pairwise_append
noncomputable def ar4:=@List.length_append
noncomputable def ar5:=@decide_eq_true_eq
noncomputable def ar6:=@Array.getElem_mem
noncomputable def ar7:=@Nat.lt_or_ge
noncomputable def ar8:=@List.take_append_drop
noncomputable def ar9:=@PySem.mem_of_lookup
noncomputable def as1:=@Nat.ne_of_lt
noncomputable def as2:=@List.take_of_length_le
noncomputable def as4:=@PySem.W.kia_one
noncomputable def as5:=@List.append_nil
noncomputable def as6:=@List.lookup_cons
noncomputable def as7:=@Nat.le_trans
noncomputable def as8:=@Bool.false_eq_true
noncomputable def at0:=@Array.length_toList
noncomputable def at2:=@List.replicate_succ
noncomputable def at3:=@Array.toList_append
noncomputable def at5:=@List.map_append
noncomputable def at7:=@beq_self_eq_true
noncomputable def at8:=@Nat.lt_irrefl
noncomputable def au0:=@List.getElem?_set_self
noncomputable def au1:=@wpS_forRange
noncomputable def au2:=@List.mem_append
noncomputable def au3:=@List.length_set
noncomputable def au5:=@wpAny_mono
noncomputable def au7:=@List.length_cons
noncomputable def au9:=@List.pairwise_iff_getElem
noncomputable def av0:=@List.getElem_of_mem
noncomputable def av1:=@wpAny_field
noncomputable def av2:=@Array.getElem?_toList
noncomputable def av4:=@List.zip_cons_cons
noncomputable def av6:=@List.length_drop
noncomputable def av7:=@wpAny_callSpecial?_slot
noncomputable def av8:=@Nat.zero_le
noncomputable def av9:=@decide_eq_false_iff_not
noncomputable def aw1:=@List.flatten_cons
noncomputable def aw2:=@or_false
noncomputable def aw4:=@PyProof.Rows.slot_tuple_getitem
noncomputable def aw5:=@List.getElem?_append_left
noncomputable def aw6:=@wpAny_call_entry
noncomputable def aw7:=@Bool.and_eq_true
noncomputable def aw8:=@List.getElem_mem
noncomputable def aw9:=@Array.eq_empty_of_size_eq_zero
noncomputable def ax0:=@Nat.le_of_lt
noncomputable def ax4:=@List.mem_append_left
noncomputable def ax7:=@wpAny_newObj_type
noncomputable def ax8:=@List.pairwise_map
noncomputable def ay0:=@F.slot_int_rmul
noncomputable def ay1:=@beq_eq_false_iff_ne
noncomputable def ay2:=@Nat.ne_of_gt
noncomputable def ay4:=@List.mem_map
noncomputable def ay5:=@wpAny_holding
noncomputable def ay6:=@List.length_take
noncomputable def ay7:=@List.all_eq_true
noncomputable def ay9:=@List.getElem?_append_right
noncomputable def az0:=@Heap.size_push
noncomputable def az1:=@wpAny_seqItems
noncomputable def az2:=@wpAny_rule
noncomputable def az3:=@wpAny_setField_rec
noncomputable def az4:=@Nat.eq_or_lt_of_le
noncomputable def az8:=@Bool.eq_iff_iff
noncomputable def az9:=@wpAny_truthy_bool
noncomputable def aA0:=@List.mem_of_getElem?
noncomputable def aA1:=@if_false
noncomputable def aA2:=@Int.le_refl
noncomputable def aA3:=@wpS_mono
noncomputable def aA8:=@List.all_cons
noncomputable def aB1:=@List.drop_take
noncomputable def aB3:=@call_meets
end
namespace L2
open PySem PySem.Spec PyProof.Rows
noncomputable abbrev aZ:=Sum Int Str
noncomputable def rO:aZ->Value->Bool
 | .inl k,v=>Value.isInt k v
 | .inr x,v=>Value.isStrOf x v
noncomputable def yL (w:World):aZ->Int
 | .inl k=>hashInt k
 | .inr x=>hashStr w x
theorem fM:∀ {k:aZ}{v:Value},rO k v=true->(∃ i t,k=Sum.inl i/\v=Value.int i t) ∨ (∃ x t,k=Sum.inr x/\v=Value.str x t)
 | .inl i,v,h=>by
  obtain ⟨t,e⟩:=Value.isInt_shape (k:=i) (v:=v) h
  exact .inl ⟨i,t,rfl,e⟩
 | .inr x,v,h=>by
  obtain ⟨t,e⟩:=Value.isStrOf_shape (x:=x) (v:=v) h
  exact .inr ⟨x,t,rfl,e⟩
theorem yM (a b:Int):decide ((Sum.inl a:aZ)=Sum.inl b)=(a == b):=by
 by_cases e:a=b
 ·subst e; simp
 ·have h : ¬ (Sum.inl a:aZ)=Sum.inl b:=fun q=>e (Sum.inl.inj q)
  rw [ao5 h]
  exact (ay1.mpr e).symm
theorem yN (a b:Str):decide ((Sum.inr a:aZ)=Sum.inr b)=decide (a=b):=by
 by_cases e:a=b
 ·subst e; simp
 ·have h : ¬ (Sum.inr a:aZ)=Sum.inr b:=fun q=>e (Sum.inr.inj q)
  rw [ao5 h,ao5 e]
theorem yO (a:Int) (b:Str):decide ((Sum.inl a:aZ)=Sum.inr b)=false:=ao5 (fun q=>nomatch q)
theorem yP (a:Str) (b:Int):decide ((Sum.inr a:aZ)=Sum.inl b)=false:=ao5 (fun q=>nomatch q)
noncomputable def nN (prog:Program) (w:World):PySem.KeyKind prog w aZ where
 is:=rO
 hash:=yL w
 inj:=fun v a b ha hb=>by
  rcases fM ha with ⟨i,t,rfl,rfl⟩ | ⟨x,t,rfl,rfl⟩
  ·rcases fM hb with ⟨j,u,rfl,e⟩ | ⟨y,u,rfl,e⟩
   ·injection e with e1 _; rw [e1]
   ·exact nomatch e
  ·rcases fM hb with ⟨j,u,rfl,e⟩ | ⟨y,u,rfl,e⟩
   ·exact nomatch e
   ·injection e with e1 _; rw [e1]
 byValue:=fun k v h=>by
  rcases fM h with ⟨i,t,rfl,rfl⟩ | ⟨x,t,rfl,rfl⟩ <;> rfl
 pyHash:=fun hv h=>by
  rcases fM hv with ⟨i,t,rfl,rfl⟩ | ⟨x,t,rfl,rfl⟩
  ·exact wpAny_pyHash_int h
  ·exact wpAny_pyHash_str h
 eqBool:=fun hu hv h=>by
  rcases fM hu with ⟨i,t,rfl,rfl⟩ | ⟨x,t,rfl,rfl⟩
  ·rcases fM hv with ⟨j,u,rfl,rfl⟩ | ⟨y,u,rfl,rfl⟩
   ·rw [yM] at h; exact wpAny_eqBool_int h
   ·rw [yO] at h; exact SeqAt.EqAt.int_str i t y u _ _ _ _ h
  ·rcases fM hv with ⟨j,u,rfl,rfl⟩ | ⟨y,u,rfl,rfl⟩
   ·rw [yP] at h; exact SeqAt.EqAt.str_int x t j u _ _ _ _ h
   ·rw [yN] at h; exact wpAny_eqBool_str h
 «strs»:=fun k x t v h=>by
  rcases fM h with ⟨i,u,rfl,e⟩ | ⟨y,u,rfl,e⟩
  ·exact nomatch e
  ·injection e with e1 _
   subst e1
   cases v <;> rfl
inductive V where
 | non | bl (b:Bool) | int (i:Int) | str (x:Str) | byt (b:Array UInt8) | flt (b:UInt64) | ref (a:Addr) | ty (n:String)
 deriving DecidableEq
noncomputable def aP:V->Value->Prop
 | .non,u=>u=Value.none
 | .bl b,u=>u=Value.bool b
 | .int i,u=>∃ t,u=Value.int i t
 | .str x,u=>∃ t,u=Value.str x t
 | .byt b,u=>∃ t,u=Value.bytes b t
 | .flt b,u=>∃ t,u=Value.float b t
 | .ref a,u=>u=Value.ref a
 | .ty n,u=>u=Value.type n
noncomputable abbrev aF:List V->List Value->Prop:=Paired aP
theorem aF.length {xs:List V}{us:List Value} (r:aF xs us):xs.length=us.length:=Paired.length r
theorem aF.get:∀ {xs:List V}{us:List Value}{i:Nat}{x:V},aF xs us->xs[i]? = some x->∃ u,us[i]? = some u/\aP x u
 | _,_,_,_,.nil,e=>by simp at e
 | _,_,0,_,.cons r _,e=>by simp at e; subst e; exact⟨_,rfl,r⟩
 | _,_,i+1,x,.cons _ t,e=>by
  obtain ⟨u,h1,h2⟩:=aF.get (i:=i) (x:=x) t (by simpa using e)
  exact⟨u,by simpa using h1,h2⟩
theorem aF.append:∀ {xs ys:List V}{us ws:List Value},aF xs us->aF ys ws->aF (xs ++ ys) (us ++ ws)
 | _,_,_,_,.nil,s=>s
 | _,_,_,_,.cons r t,s=>.cons r (aF.append t s)
theorem aF.take:∀ {xs:List V}{us:List Value} (n:Nat),aF xs us->aF (xs.take n) (us.take n)
 | _,_,0,_=>.nil
 | _,_,_+1,.nil=>.nil
 | _,_,n+1,.cons r t=>.cons r (aF.take n t)
theorem aF.drop:∀ {xs:List V}{us:List Value} (n:Nat),aF xs us->aF (xs.drop n) (us.drop n)
 | _,_,0,r=>r
 | _,_,_+1,.nil=>.nil
 | _,_,n+1,.cons _ t=>aF.drop n t
noncomputable def nO:Option V->Option Value->Prop
 | some v,some u=>aP v u
 | none,none=>True
 | _,_=>False
noncomputable def KV {κ:Type}:List (κ × V)->List (κ × Value)->Prop:=Paired fun (p:κ × V) (q:κ × Value)=>p.1=q.1/\aP p.2 q.2
noncomputable def kV:aZ->V
 | .inl i=>.int i
 | .inr x=>.str x
inductive HO where
 | lst (xs:List V)
 | tup (xs:List V)
 | dK (kvs:List (aZ × V)) | dT (kvs:List (List aZ × V))
 | set (S:Int->Bool) (n:Nat)
 | ins (C dx:Addr) (fs:List (Str × V))
 | own (x:Addr)
 | xd (fs:List (Str × V))
 | met (f x:Addr)
 | rng (lo hi:Int)
 | frz (o:Obj) (u:HO)
 | tbl (ps:Array Value)
 | ext (φ:Heap->Prop)
noncomputable abbrev Hp:=Addr->Option HO
noncomputable def upd (H:Hp) (a:Addr) (o:HO):Hp:=fun b=>if b=a then some o else H b
theorem bL {H:Hp}{a:Addr}{o:HO}:upd H a o a=some o:=by unfold upd; rw [if_pos rfl]
theorem aQ {H:Hp}{a b:Addr}{o:HO} (h:b ≠ a):upd H a o b=H b:=by unfold upd; rw [if_neg h]
theorem eF {H:Hp}{a b:Addr}{o:HO} (h:H a=some o) (h':H b=none):a ≠ b:=by
 intro e; subst e; rw [h] at h'; cases h'
noncomputable def dY (h:Heap) (a:Addr):Prop:=∀ o,h.get? a=some o->o.dict=none
theorem dY.new (h:Heap) (o:Obj) (d:o.dict=none) (s:o.isFreed=false:=by rfl):dY (h.push o) h.objs.size:=fun u e=>by
 rw [aq8 h (o:=o) s] at e
 cases e; exact d
theorem dY.stay {h h':Heap}{a:Addr}{o:Obj} (n:dY h a) (e:h.get? a=some o) (e':h'.get? a=some o):dY h' a:=fun u hu=>by
 rw [e'] at hu; cases hu; exact n _ e
section
variable (P : Program) (w : World)
noncomputable def bM (H:Hp) (h:Heap) (a:Addr):HO->Prop
 | .lst xs=>xs.length<=sizeLine/\∃ (its:List Value) (n:Nat),aF xs its/\h.get? a=some { cls:=.type "list",data:=.seq its.toArray n }
 | .tup xs=>xs.length<=sizeLine/\∃ its:List Value,aF xs its/\IsTup h a its.toArray/\dY h a
 | .dK kvs=>kvs.length<=sizeLine/\(a == sysModules)=false/\∃ vs,KV kvs vs/\h.DictOf (nN P w) a vs
 | .dT kvs=>kvs.length<=sizeLine/\(a == sysModules)=false/\∃ xs:List (List aZ × Addr × Value),
   Paired (fun (p:List aZ × V) (q:List aZ × Addr × Value)=>p.1=q.1/\H q.2.1=some (.tup (p.1.map kV))/\aP p.2 q.2.2) kvs xs/\
   ∃ o es ep,h.get? a=some o/\o.ExactDict/\o.data = .dict es ep/\es.toList=xs.map (entryOfKey (tupleKind (nN P w)))/\(xs.map (·.1)).Nodup
 | .set S n=>h.SetOf (intKind P w) a S n
 | .ins C dx fs=>H dx=some (.own a)/\fs.length<=1000/\dx ≠ a/\h.get? a=some (PySem.W.instObj C dx)/\
   ∃ mA,h.Ns1 dx mA/\(∀ f,nO (fs.lookup f) (mA f))/\PySem.Within mA (fs.map (·.1))
 | .own _=>∃ o,h.get? a=some o
 | .xd fs=>∃ mA,h.Ns1 a mA/\∀ f,nO (fs.lookup f) (mA f)
 | .rng lo hi=>∃ t u v,h.get? a=some { cls:=.type "range",data:=.fields #[.int lo t,.int hi u,.int 1 v] }
 | .frz o u=>h.get? a=some o/\bM H h a u
 | .tbl ps=>h.get? a=some { cls:=.none,data:=.fields ps }
 | .met f x=>h.get? a=some (PySem.W.methodObj (.ref f) (.ref x))
 | .ext φ=>φ h/\(∃ o,h.get? a=some o)/\∀ h1 h2:Heap,φ h1->(∀ o,h1.get? a=some o->h2.get? a=some o)->φ h2
noncomputable def bD (H:Hp) (h:Heap):Prop:=∀ a o,H a=some o->bM P w H h a o
end
section
variable {P : Program} {w : World} {H H' : Hp} {h h' : Heap} {a : Addr} {o : HO}
theorem bM.lt (x:bM P w H h a o):a < h.objs.size:=by
 cases o with
 | lst xs=>obtain ⟨_,_,_,_,e⟩:=x; exact ap3 e
 | tup xs=>obtain ⟨_,_,_,p,_⟩:=x; exact p.lt
 | dK kvs=>obtain ⟨_,_,_,_,o,_,_,e,_⟩:=x; exact ap3 e
 | dT kvs=>obtain ⟨_,_,_,_,o,_,_,e,_⟩:=x; exact ap3 e
 | set S n=>obtain ⟨o,_,_,_,e,_⟩:=x; exact ap3 e
 | ins C dx fs=>obtain ⟨_,_,_,e,_⟩:=x; exact ap3 e
 | own y=>obtain ⟨_,e⟩:=x; exact ap3 e
 | xd fs=>obtain ⟨_,⟨_,_,_,e,_⟩,_⟩:=x; exact ap3 e
 | rng lo hi=>obtain ⟨_,_,_,e⟩:=x; exact ap3 e
 | frz ob u=>obtain ⟨e,_⟩:=x; exact ap3 e
 | tbl ps=>exact ap3 (show h.get? a=some _ from x)
 | met f y=>exact ap3 (show h.get? a=some _ from x)
 | ext φ=>obtain ⟨_,⟨_,e⟩,_⟩:=x; exact ap3 e
theorem Paired.mapP {α β:Type}{F G:α->β->Prop}:∀ {l₁:List α}{l₂:List β},Paired F l₁ l₂->(∀ a b,F a b->G a b)->Paired G l₁ l₂
 | _,_,.nil,_=>.nil
 | _,_,.cons r t,f=>.cons (f _ _ r) (Paired.mapP t f)
theorem bM.stay (x:bM P w H h a o) (k:∀ b u,(b=a ∨ H b=some (.own a))->h.get? b=some u->h'.get? b=some u)
  (ho:∀ b,H b=some (.own a)->H' b=some (.own a)) (ht:∀ b xs,H b=some (.tup xs)->H' b=some (.tup xs)):bM P w H' h' a o:=by
 induction o with
 | lst xs=>obtain ⟨z,its,n,r,e⟩:=x; exact⟨z,its,n,r,k _ _ (.inl rfl) e⟩
 | tup xs=>obtain ⟨z,its,r,⟨ob,e,c⟩,nd⟩:=x; exact⟨z,its,r,⟨ob,k _ _ (.inl rfl) e,c⟩,nd.stay e (k _ _ (.inl rfl) e)⟩
 | dK kvs=>obtain ⟨z,y,vs,r,ob,es,ep,e,c⟩:=x; exact⟨z,y,vs,r,ob,es,ep,k _ _ (.inl rfl) e,c⟩
 | dT kvs=>
  obtain ⟨z,y,xs,r,ob,es,ep,e,c⟩:=x
  exact⟨z,y,xs,Paired.mapP r fun p q z=>⟨z.1,ht _ _ z.2.1,z.2.2⟩,ob,es,ep,k _ _ (.inl rfl) e,c⟩
 | set S n=>obtain ⟨ob,es,ep,t,e,c⟩:=x; exact⟨ob,es,ep,t,k _ _ (.inl rfl) e,c⟩
 | ins C dx fs=>
  obtain ⟨d,z,ne,e,mA,⟨od,es,ep,e2,c⟩,r⟩:=x
  exact⟨ho _ d,z,ne,k _ _ (.inl rfl) e,mA,⟨od,es,ep,k _ _ (.inr d) e2,c⟩,r⟩
 | own y=>obtain ⟨ob,e⟩:=x; exact⟨ob,k _ _ (.inl rfl) e⟩
 | xd fs=>obtain ⟨mA,⟨od,es,ep,e,c⟩,r⟩:=x; exact⟨mA,⟨od,es,ep,k _ _ (.inl rfl) e,c⟩,r⟩
 | rng lo hi=>obtain ⟨t,u,v,e⟩:=x; exact⟨t,u,v,k _ _ (.inl rfl) e⟩
 | frz ob u ih=>obtain ⟨e,q⟩:=x; exact⟨k _ _ (.inl rfl) e,ih q⟩
 | tbl ps=>
  have e:h.get? a=some { cls:=.none,data:=.fields ps }:=x
  show h'.get? a=some { cls:=.none,data:=.fields ps }
  exact k a _ (.inl rfl) e
 | met f y=>
  have e:h.get? a=some (PySem.W.methodObj (.ref f) (.ref y)):=x
  show h'.get? a=some (PySem.W.methodObj (.ref f) (.ref y))
  exact k a _ (.inl rfl) e
 | ext φ=>obtain ⟨p,⟨o,e⟩,st⟩:=x; exact⟨st _ _ p fun o q=>k _ _ (.inl rfl) q,⟨o,k _ _ (.inl rfl) e⟩,st⟩
theorem bD.lt (x:bD P w H h) (e:H a=some o):a < h.objs.size:=(x a o e).lt
theorem bD.fresh (x:bD P w H h) (e:h.objs.size<=a):H a=none:=by
 cases q:H a with
 | none=>rfl
 | some u=>exact absurd (ap1 (x.lt q) e) (at8 _)
theorem bD.kept (x:bD P w H h) (k:∀ b u,h.get? b=some u->h'.get? b=some u):bD P w H h':=fun a o e=>
 (x a o e).stay (fun b u _ q=>k b u q) (fun _ q=>q) fun _ _ q=>q
theorem bD.laid (x:bD P w H h) (k:∀ b u,h.get? b=some u->h'.get? b=some u) (hp:h.objs.size<=a) (new:bM P w (upd H a o) h' a o):bD P w (upd H a o) h':=fun b u e=>by
 have hn:=x.fresh hp
 by_cases hb:b=a
 ·subst hb; rw [bL] at e; cases e; exact new
 ·rw [aQ hb] at e
  exact (x b u e).stay (fun c v _ q=>k c v q) (fun c q=>by rw [aQ (eF q hn)]; exact q) fun c xs q=>by rw [aQ (eF q hn)]; exact q
end
noncomputable def Rd (H:Hp) (a:Addr) (u:HO):Prop:=H a=some u ∨ ∃ o,H a=some (.frz o u)
theorem Rd.ok {P:Program}{w:World}{H:Hp}{h:Heap}{a:Addr}{u:HO} (r:Rd H a u) (x:bD P w H h):bM P w H h a u:=by
 rcases r with r | ⟨o,r⟩
 ·exact x a u r
 ·obtain ⟨_,q⟩:=x a _ r
  exact q
noncomputable def kO:Option HO->Prop
 | some (.lst _)=>True
 | some (.dK _)=>True
 | some (.dT _)=>True
 | some (.set _ _)=>True
 | some (.ins _ _ _)=>True
 | some (.ext _)=>True
 | _=>False
section
variable {P : Program} {w : World} {H : Hp} {h h' : Heap} {x e : Addr} {o' : HO}
theorem bD.write (ok:bD P w H h) (mu:kO (H x)) (he:e=x ∨ H e=some (.own x)) (k:∀ b u,b ≠ e->h.get? b=some u->h'.get? b=some u) (heo:∃ u,h'.get? e=some u)
  (new:bM P w (upd H x o') h' x o'):bD P w (upd H x o') h':=fun b u q=>by
 have nown:∀ c y,H c=some (.own y)->c ≠ x:=fun c y r z=>by subst z; rw [r] at mu; exact mu
 have ntup:∀ c xs,H c=some (.tup xs)->c ≠ x:=fun c xs r z=>by subst z; rw [r] at mu; exact mu
 by_cases hb:b=x
 ·subst hb; rw [bL] at q; cases q; exact new
 ·rw [aQ hb] at q
  by_cases hbe:b=e
  ·have q':H b=some (.own x):=by
    rcases he with z | z
    ·exact absurd (hbe.trans z) hb
    ·rw [hbe]; exact z
   rw [q] at q'; cases q'
   obtain ⟨v,hv⟩:=heo
   exact⟨v,by rw [hbe]; exact hv⟩
  ·refine (ok b u q).stay (fun c v hc r=>k c v ?_ r) (fun c r=>by rw [aQ (nown c b r)]; exact r) fun c xs r=>by rw [aQ (ntup c xs r)]; exact r
   rcases hc with rfl | hc
   ·exact hbe
   ·rintro rfl
    rcases he with z | z
    ·exact nown c b hc z
    ·rw [hc] at z; cases z; exact hb rfl
end
structure Un (fs ex:List Addr) (H H':Hp) (h h':Heap):Prop where
 keep:∀ b o,h.get? b=some o->H b=none->b ∉ fs->b ∉ ex->h'.get? b=some o
 slot:∀ b o,h.get? b=some o->H b=none->b ∈ fs->b ∉ ex->∃ sl,h'.get? b=some { o with slots:=sl }
 free:∀ b o,h.get? b=some o->H b=none->b ∉ ex->H' b=none
 there:∀ b o,h.get? b=some o->b ∉ ex->∃ o',h'.get? b=some o'
 tups:∀ b xs,H b=some (.tup xs)->H' b=some (.tup xs)
 frzs:∀ b o u,H b=some (.frz o u)->H' b=some (.frz o u)
 tbls:∀ b ps,H b=some (.tbl ps)->∃ more,H' b=some (.tbl (ps ++ more))
section
variable {fs fs' ex ex' : List Addr} {H H1 H2 : Hp} {h h1 h2 h' : Heap} {a x e : Addr} {o : HO}
theorem Un.any (u:Un fs ex H H1 h h1) {b:Addr}{ob:Obj} (q:h.get? b=some ob) (n:H b=none) (hx:b ∉ ex):∃ sl,h1.get? b=some { ob with slots:=sl }:=by
 by_cases hb:b ∈ fs
 ·exact u.slot b ob q n hb hx
 ·exact⟨ob.slots,u.keep b ob q n hb hx⟩
theorem Un.kept (k:∀ b u,h.get? b=some u->h'.get? b=some u):Un fs ex H H h h':=
 ⟨fun b ob q _ _ _=>k b ob q,fun b ob q _ _ _=>⟨ob.slots,k b ob q⟩,fun _ _ _ n _=>n,fun b ob q _=>⟨ob,k b ob q⟩,fun _ _ q=>q,fun _ _ _ q=>q,fun _ ps q=>⟨#[],by rw [q]; simp⟩⟩
theorem Un.refl:Un fs ex H H h h:=Un.kept fun _ _ q=>q
theorem Un.laid (k:∀ b u,h.get? b=some u->h'.get? b=some u) (hp:h.objs.size<=a) (hn:H a=none):Un fs ex H (upd H a o) h h' where
 keep:=fun b u q _ _ _=>k b u q
 slot:=fun b u q _ _ _=>⟨u.slots,k b u q⟩
 free:=fun b u q n _=>by rw [aQ (as1 (ap1 (ap3 q) hp))]; exact n
 there:=fun b u q _=>⟨u,k b u q⟩
 tups:=fun b xs q=>by rw [aQ (eF q hn)]; exact q
 frzs:=fun b u xs q=>by rw [aQ (eF q hn)]; exact q
 tbls:=fun b ps q=>⟨#[],by rw [aQ (eF q hn),q]; simp⟩
theorem Un.write (mu:kO (H x)) (he:e=x ∨ H e=some (.own x)) (k:∀ b u,b ≠ e->h.get? b=some u->h'.get? b=some u) (heo:∃ u,h'.get? e=some u):Un fs ex H (upd H x o) h h':=by
 have hx:∀ b,H b=none->b ≠ x:=fun b n z=>by subst z; rw [n] at mu; exact mu
 have hb:∀ b,H b=none->b ≠ e:=fun b n z=>by
  subst z
  rcases he with r | r
  ·exact hx b n r
  ·rw [n] at r; cases r
 have hm:∀ b u,H b=some u->¬ kO (some u)->b ≠ x:=fun b u q nm z=>by subst z; rw [q] at mu; exact nm mu
 refine⟨fun b u q n _ _=>k b u (hb b n) q,fun b u q n _ _=>⟨u.slots,k b u (hb b n) q⟩,fun b u q n _=>by rw [aQ (hx b n)]; exact n,fun b u q _=>?_,
  fun b xs q=>by rw [aQ (hm b _ q fun z=>z)]; exact q,fun b u xs q=>by rw [aQ (hm b _ q fun z=>z)]; exact q,fun b ps q=>⟨#[],by rw [aQ (hm b _ q fun z=>z),q]; simp⟩⟩
 by_cases hbe:b=e
 ·subst hbe; exact heo
 ·exact⟨u,k b u hbe q⟩
end
noncomputable def kP (h:Heap) (H:Hp):List Addr:=(List.range h.objs.size).filter fun a=>(H a).isSome
noncomputable def fN (h:Heap) (H:Hp):Heap:=PySem.W.hideAll h (kP h H)
theorem yQ (h:Heap) (H:Hp):(fN h H).objs.size=h.objs.size:=PySem.W.hideAll_size _ _
theorem yR {h:Heap}{H:Hp}{b:Addr}{o:Obj} (e:h.get? b=some o) (n:H b=none):(fN h H).get? b=some o:=
 PySem.W.hideAll_get _ e fun hm=>by
  have q:(H b).isSome=true:=(List.mem_filter.mp hm).2
  rw [n] at q; simp at q
theorem yS {h:Heap}{H:Hp}{b:Addr}{o:Obj} (e:(fN h H).get? b=some o):h.get? b=some o/\H b=none:=by
 have e':h.get? b=some o:=PySem.W.of_hideAll (kP h H) e
 refine⟨e',?_⟩
 cases q:H b with
 | none=>rfl
 | some x=>
  have hm:b ∈ kP h H:=List.mem_filter.mpr ⟨List.mem_range.mpr (ap3 e'),by simp [q]⟩
  have z:(fN h H).get? b=none:=PySem.W.hideAll_none (kP h H) hm
  rw [z] at e; cases e
noncomputable def yT (g h:Heap) (L:Addr):List (Addr × Obj):=(List.range h.objs.size).filterMap fun a=>if a=L ∨ (g.get? a).isSome=true then none else (h.get? a).map fun o=>(a,o)
noncomputable def bY (g h:Heap) (L d:Addr):List (Addr × Obj):=(yT g h L).filter fun p=>decide (p.1 ≠ d)
structure Mod (K:PySem.W.Frag) (mg:Str->Option Value) (base:Heap):Prop where
 kin:K.In base
 glob:base.Ns mainGlobals mg
 blt:∃ mb,base.Ns builtinsNs mb/\∀ x:Str,x ≠ "__name__"->mb x=bootBuiltins x
 nolimit:base.NoLimit
structure Cx where
 prog:Program
 w:World
 K:PySem.W.Frag
 mg:Str->Option Value
 base:Heap
 A:Around
 N:List Str
 s₀:Shared
 H₀:Hp
 env:Env
 outer:List Env
 stack:List Env
 ex:List Addr
 fn:Str->Bool
 calm:Bool
 pn:List (Addr × Obj)
 xe:Value->Shared->Prop
noncomputable def b6 (l:List Env):List Addr:=l.filterMap (·.frame)
noncomputable abbrev Cx.fs (X:Cx):List Addr:=b6 X.outer
noncomputable def iJ (sc:Scope) (x:Str):Prop:=sc.names.lookup x=some .local ∨ sc.names.lookup x=some .cell ∨ sc.names.lookup x=some .free
noncomputable def gQ (sc:Scope) (x:Str):Prop:=sc.names.lookup x=some .local ∨ sc.names.lookup x=some .cell
noncomputable def yU (env:Env) (h:Heap) (m:Str->Option Value) (x:Str) (u:Value):Prop:=
 (env.kindOf x=some .local/\m x=some u) ∨ ((env.kindOf x=some .cell ∨ env.kindOf x=some .free)/\∃ c,env.cells.lookup x=some c/\h.IsCell c (some u))
structure Cx.Ok (X:Cx):Prop where
 mod:Mod X.K X.mg X.base
 kind:X.env.scope.kind = .function
 glob:X.env.globals=mainGlobals
 blt:X.env.builtins=builtinsNs
 above:X.s₀.heap.objs.size<=X.env.locals
 inj:∀ x y c,X.env.cells.lookup x=some c->X.env.cells.lookup y=some c->x=y
 has:∀ x,(X.env.kindOf x=some .cell ∨ X.env.kindOf x=some .free)->∃ c,X.env.cells.lookup x=some c
 cab:∀ x c,X.fn x=true->X.env.cells.lookup x=some c->X.s₀.heap.objs.size<=c
 hd:X.calm=true->X.A.handled=none
 frames:X.A.frames=some X.stack
 stk:X.stack=X.outer ∨ (X.stack=X.env :: X.outer/\X.env.frame=some X.env.locals)
 exf:∀ b ∈ X.ex,b ≠ X.env.locals/\∀ x c,X.env.cells.lookup x=some c->c ≠ b
 bs:∀ b o,X.base.get? b=some o->X.s₀.heap.get? b=some o/\X.H₀ b=none
 bsz:X.base.objs.size<=X.s₀.heap.objs.size
 noex:∀ b o,X.base.get? b=some o->b ∉ X.ex
 exfs:∀ b ∈ X.ex,b ∉ X.fs
 funs:X.s₀.heap.FunFrames X.base X.outer
 frf:∀ b ∈ X.fs,X.H₀ b=none
structure a5 (X:Cx) (pins:List (Addr × Obj)) (σ:List (Option V)) (H:Hp) (s:Shared):Prop where
 ok:X.Ok
 os:s.os=X.s₀.os
 bare:AllBare s.gens
 base:Un X.fs X.ex X.H₀ H X.s₀.heap s.heap
 loc:∃ m,s.heap.Ns X.env.locals m/\∀ (i:Nat) (x:Str) (v:V),X.N[i]? = some x->σ[i]? = some (some v)->iJ X.env.scope x->∃ u,aP v u/\yU X.env s.heap m x u
 cell:∀ x c,X.env.cells.lookup x=some c->∃ v,s.heap.IsCell c v
 free:H X.env.locals=none
 freeC:∀ x c,X.env.cells.lookup x=some c->H c=none
 pin:∀ p ∈ X.pn ++ pins,s.heap.get? p.1=some p.2/\H p.1=none/\p.1 ≠ X.env.locals/\p.1 ∉ X.fs/\∀ v,p.2.data ≠ .cell v
 hok:bD X.prog X.w H s.heap
 len:σ.length=X.N.length
section
variable {X : Cx} {pins : List (Addr × Obj)} {σ : List (Option V)} {H H' : Hp} {s : Shared} {h' : Heap}
theorem Cx.Ok.nofr (ok:X.Ok) {b:Addr}{o:Obj} (e:X.base.get? b=some o):b ∉ X.fs:=fun hb=>by
 have:=(ok.funs.mem hb).1
 rw [e] at this; cases this
theorem a5.bs (I:a5 X pins σ H s):∀ b o,X.base.get? b=some o->s.heap.get? b=some o/\H b=none:=fun b o e=>
 ⟨I.base.keep b o (I.ok.bs b o e).1 (I.ok.bs b o e).2 (I.ok.nofr e) (I.ok.noex b o e),I.base.free b o (I.ok.bs b o e).1 (I.ok.bs b o e).2 (I.ok.noex b o e)⟩
theorem a5.bk (I:a5 X pins σ H s):∀ b o,X.base.get? b=some o->s.heap.get? b=some o:=fun b o e=>(I.bs b o e).1
theorem a5.mod (I:a5 X pins σ H s):Mod X.K X.mg X.base:=I.ok.mod
theorem a5.kIn (I:a5 X pins σ H s):X.K.In s.heap:=I.ok.mod.kin.keeps I.bk
theorem a5.fr (I:a5 X pins σ H s):∃ m,Fr X.base X.env.locals s.heap m:=
 let ⟨m,hn,_⟩:=I.loc
 ⟨m,hn,I.bk,as7 I.ok.bsz I.ok.above⟩
theorem a5.lt (I:a5 X pins σ H s):X.env.locals < s.heap.objs.size:=let ⟨_,hn,_⟩:=I.loc; hn.lt
theorem a5.sz (I:a5 X pins σ H s):X.s₀.heap.objs.size<=s.heap.objs.size:=as7 I.ok.above (ax0 I.lt)
theorem a5.nofs (I:a5 X pins σ H s) {a:Addr} (h:s.heap.objs.size<=a):a ∉ X.fs:=fun hb=>by
 obtain ⟨_,o,ho,_⟩:=I.ok.funs.mem hb
 exact absurd (ap1 (ap3 ho) (as7 I.sz h)) (at8 _)
theorem a5.cne (I:a5 X pins σ H s):∀ x c,X.env.cells.lookup x=some c->c ≠ X.env.locals:=fun x c e z=>by
 obtain ⟨v,o,ho,hd⟩:=I.cell x c e
 obtain ⟨m,⟨o',es,ep,ho',hd',_⟩,_⟩:=I.loc
 rw [z,ho'] at ho; cases ho; rw [hd'] at hd; cases hd
theorem a5.funs (I:a5 X pins σ H s):s.heap.FunFrames X.base X.outer:=by
 have all:∀ (l:List Env),(∀ b ∈ b6 l,b ∈ X.fs)->X.s₀.heap.FunFrames X.base l->s.heap.FunFrames X.base l:=by
  intro l
  induction l with
  | nil=>intro _ _; trivial
  | cons env r ih=>
   intro hs hl
   obtain ⟨hk,⟨L,o,hf,hn,ho,hd⟩,hr⟩:=hl
   have hL:L ∈ X.fs:=hs L (by unfold b6; rw [List.filterMap_cons,hf]; exact aq9)
   obtain ⟨sl,e⟩:=I.base.slot L o ho (I.ok.frf L hL) hL fun z=>I.ok.exfs L z hL
   exact⟨hk,⟨L,_,hf,hn,e,hd⟩,ih (fun b hb=>hs b (by unfold b6; rw [List.filterMap_cons,hf]; exact aq4 _ hb)) hr⟩
 exact all X.outer (fun _ hb=>hb) I.ok.funs
theorem a5.stack (I:a5 X pins σ H s):s.heap.FunFrames X.base X.stack:=by
 rcases I.ok.stk with e | ⟨e,hf⟩
 ·rw [e]; exact I.funs
 ·rw [e]
  obtain ⟨m,hn,_⟩:=I.loc
  refine .cons (by rw [I.ok.kind]; decide) hf hn ?_ I.funs
  exact Heap.get?_none_of_le (as7 I.ok.bsz I.ok.above)
theorem a5.stkSub (I:a5 X pins σ H s):∀ b ∈ b6 X.stack,b ∈ X.env.locals :: X.fs:=fun b hb=>by
 rcases I.ok.stk with e | ⟨e,hf⟩
 ·rw [e] at hb; exact aq4 _ hb
 ·rw [e] at hb
  unfold b6 at hb
  rw [List.filterMap_cons,hf] at hb
  exact hb
theorem a5.stkFree (I:a5 X pins σ H s):∀ b ∈ b6 X.stack,H b=none:=fun b hb=>by
 rcases ap0.mp (I.stkSub b hb) with e | hb
 ·rw [e]; exact I.free
 ·obtain ⟨_,o,ho,_⟩:=I.ok.funs.mem hb
  exact I.base.free b o ho (I.ok.frf b hb) fun z=>I.ok.exfs b z hb
theorem a5.step {g':Array GenState}{t':Nat}{d':Drawn}{ch:List Addr} (I:a5 X pins σ H s)
  (hch:∀ b ∈ ch,(b ∈ X.ex ∨ X.s₀.heap.objs.size<=b)/\b ≠ X.env.locals/\(∀ x c,X.env.cells.lookup x=some c->c ≠ b)/\∀ p ∈ X.pn ++ pins,p.1 ≠ b)
  (keep:∀ b o,b ≠ X.env.locals->b ∉ X.fs->b ∉ ch->s.heap.get? b=some o->H b=none->h'.get? b=some o)
  (slot:∀ b o,b ≠ X.env.locals->b ∈ X.fs->b ∉ ch->s.heap.get? b=some o->H b=none->∃ sl,h'.get? b=some { o with slots:=sl }) (free:∀ b o,b ∉ ch->s.heap.get? b=some o->H b=none->H' b=none)
  (there:∀ b o,b ∉ ch->s.heap.get? b=some o->∃ o',h'.get? b=some o')
  (tups:∀ b xs,H b=some (.tup xs)->H' b=some (.tup xs)) (frzs:∀ b o u,H b=some (.frz o u)->H' b=some (.frz o u)) (tbls:∀ b ps,H b=some (.tbl ps)->∃ more,H' b=some (.tbl (ps ++ more)))
  (ns:∀ m,s.heap.Ns X.env.locals m->h'.Ns X.env.locals m) (hok:bD X.prog X.w H' h') (hg:AllBare g') :
  a5 X pins σ H' { s with heap:=h',gens:=g',drawn:=d',toks:=t' }:=by
 have neL:∀ b o,X.s₀.heap.get? b=some o->b ≠ X.env.locals:=fun b o e=>as1 (ap1 (ap3 e) I.ok.above)
 have neC:∀ b o,X.s₀.heap.get? b=some o->b ∉ X.ex->b ∉ ch:=fun b o e hx hb=>by
  rcases (hch b hb).1 with z | z
  ·exact hx z
  ·exact absurd (ap1 (ap3 e) z) (at8 _)
 have cellK:∀ x c,X.env.cells.lookup x=some c->∀ v,s.heap.IsCell c v->h'.IsCell c v:=fun x c e v ⟨o,ho,hd⟩=>by
  have nch:c ∉ ch:=fun z=>(hch c z).2.2.1 x c e rfl
  by_cases hc:c ∈ X.fs
  ·obtain ⟨sl,q⟩:=slot c o (I.cne x c e) hc nch ho (I.freeC x c e)
   exact⟨_,q,hd⟩
  ·exact⟨o,keep c o (I.cne x c e) hc nch ho (I.freeC x c e),hd⟩
 refine⟨I.ok,I.os,hg,⟨fun b o e n hb hx=>?_,fun b o e n hb hx=>?_,fun b o e n hx=>?_,fun b o e hx=>?_,fun b xs e=>tups b xs (I.base.tups b xs e),fun b o xs e=>frzs b o xs (I.base.frzs b o xs e),fun b ps e=>?_⟩,?_,fun x c e=>?_,?_,fun x c e=>?_,fun p hp=>?_,hok,I.len⟩
 ·exact keep b o (neL b o e) hb (neC b o e hx) (I.base.keep b o e n hb hx) (I.base.free b o e n hx)
 ·obtain ⟨sl,e1⟩:=I.base.slot b o e n hb hx
  obtain ⟨sl',e2⟩:=slot b _ (neL b o e) hb (neC b o e hx) e1 (I.base.free b o e n hx)
  exact⟨sl',e2⟩
 ·obtain ⟨o',e1⟩:=I.base.there b o e hx
  exact free b o' (neC b o e hx) e1 (I.base.free b o e n hx)
 ·obtain ⟨o',e1⟩:=I.base.there b o e hx
  exact there b o' (neC b o e hx) e1
 ·obtain ⟨m1,e1⟩:=I.base.tbls b ps e
  obtain ⟨m2,e2⟩:=tbls b _ e1
  exact⟨m1 ++ m2,by rw [e2,Array.append_assoc]⟩
 ·obtain ⟨m,hn,hl⟩:=I.loc
  refine⟨m,ns m hn,fun i x v e1 e2 e3=>?_⟩
  obtain ⟨u,r,l⟩:=hl i x v e1 e2 e3
  refine⟨u,r,?_⟩
  rcases l with l | ⟨k,c,e,z⟩
  ·exact .inl l
  ·exact .inr ⟨k,c,e,cellK x c e _ z⟩
 ·obtain ⟨v,z⟩:=I.cell x c e
  exact⟨v,cellK x c e v z⟩
 ·obtain ⟨m,⟨o,_,_,ho,_⟩,_⟩:=I.loc
  exact free _ o (fun z=>(hch _ z).2.1 rfl) ho I.free
 ·obtain ⟨v,o,ho,hd⟩:=I.cell x c e
  exact free c o (fun z=>(hch c z).2.2.1 x c e rfl) ho (I.freeC x c e)
 ·obtain ⟨e,n,ne,nf,d⟩:=I.pin p hp
  have nch:p.1 ∉ ch:=fun z=>(hch p.1 z).2.2.2 p hp rfl
  exact⟨keep p.1 p.2 ne nf nch e n,free p.1 p.2 nch e n,ne,nf,d⟩
theorem a5.un {t':Nat} (I:a5 X pins σ H s) (u:Un X.fs [] H H' s.heap h') (hok:bD X.prog X.w H' h'):a5 X pins σ H' { s with heap:=h',toks:=t' }:=by
 obtain ⟨m,⟨o,es,ep,ho,r⟩,_⟩:=id I.loc
 obtain ⟨sl,hL⟩:=u.any ho I.free (by simp)
 exact I.step (g':=s.gens) (d':=s.drawn) (ch:=[]) (fun _ z=>nomatch z) (fun b o _ hb _ e n=>u.keep b o e n hb (by simp)) (fun b o _ hb _ e n=>u.slot b o e n hb (by simp)) (fun b o _ e n=>u.free b o e n (by simp)) (fun b o _ e=>u.there b o e (by simp)) u.tups u.frzs u.tbls (fun m' hm=>by
  obtain ⟨o',es',ep',ho',r'⟩:=hm
  rw [ho] at ho'; cases ho'
  exact⟨_,es',ep',hL,r'⟩) hok I.bare
theorem a5.call {g':Array GenState}{t':Nat}{d':Drawn}{ch:List Addr} (I:a5 X pins σ H s) (u:Un (b6 X.stack) ch H H' s.heap h') (hok:bD X.prog X.w H' h') (hg:AllBare g')
  (hch:∀ b ∈ ch,(b ∈ X.ex ∨ X.s₀.heap.objs.size<=b)/\b ≠ X.env.locals/\(∀ x c,X.env.cells.lookup x=some c->c ≠ b)/\∀ p ∈ X.pn ++ pins,p.1 ≠ b) :
  a5 X pins σ H' { s with heap:=h',gens:=g',drawn:=d',toks:=t' }:=by
 obtain ⟨m,⟨o,es,ep,ho,r⟩,_⟩:=id I.loc
 obtain ⟨sl,hL⟩:=u.any ho I.free fun z=>(hch _ z).2.1 rfl
 exact I.step (ch:=ch) hch (fun b o hL hb hc e n=>u.keep b o e n (fun z=>(ap0.mp (I.stkSub b z)).elim hL hb) hc) (fun b o _ _ hc e n=>u.any e n hc) (fun b o hc e n=>u.free b o e n hc) (fun b o hc e=>u.there b o e hc) u.tups u.frzs u.tbls (fun m' hm=>by
  obtain ⟨o',es',ep',ho',r'⟩:=hm
  rw [ho] at ho'; cases ho'
  exact⟨_,es',ep',hL,r'⟩) hok hg
theorem a5.turned {t':Nat}{it:Addr} (I:a5 X pins σ H s) (k:∀ b o,b ≠ it->s.heap.get? b=some o->h'.get? b=some o) (hn:H it=none) (hL:it ≠ X.env.locals)
  (h1:it ∈ X.ex ∨ X.s₀.heap.objs.size<=it) (h2:∀ x c,X.env.cells.lookup x=some c->c ≠ it) (h3:∀ p ∈ X.pn ++ pins,p.1 ≠ it):a5 X pins σ H { s with heap:=h',toks:=t' }:=by
 have nit:∀ b u,H b=some u->b ≠ it:=fun b u e z=>by rw [z,hn] at e; cases e
 refine I.step (g':=s.gens) (d':=s.drawn) (ch:=[it]) (fun b hb=>?_) (fun b o _ _ hc e _=>k b o (fun z=>hc (by simp [z])) e) (fun b o _ _ hc e _=>⟨o.slots,k b o (fun z=>hc (by simp [z])) e⟩) (fun _ _ _ _ n=>n)
  (fun b o hc e=>⟨o,k b o (fun z=>hc (by simp [z])) e⟩) (fun _ _ e=>e) (fun _ _ _ e=>e) (fun b ps e=>⟨#[],by rw [e]; simp⟩) (fun m hm=>?_) (fun b u e=>?_) I.bare
 ·have e:b=it:=by simpa using hb
  subst e
  exact⟨h1,hL,h2,h3⟩
 ·obtain ⟨o,es,ep,ho,r⟩:=hm
  exact⟨o,es,ep,k _ o (Ne.symm hL) ho,r⟩
 ·refine (I.hok b u e).stay (fun c v hc q=>k c v ?_ q) (fun _ q=>q) fun _ _ q=>q
  rcases hc with z | z
  ·rw [z]; exact nit b u e
  ·exact nit c _ z
theorem a5.tok (I:a5 X pins σ H s) (t:Nat):a5 X pins σ H { s with toks:=t }:=I.un (h':=s.heap) (t':=t) Un.refl I.hok
theorem a5.kept {t':Nat} (I:a5 X pins σ H s) (k:∀ b u,s.heap.get? b=some u->h'.get? b=some u):a5 X pins σ H { s with heap:=h',toks:=t' }:=I.un (Un.kept k) (I.hok.kept k)
theorem a5.laid {a:Addr}{o:HO}{t':Nat} (I:a5 X pins σ H s) (k:∀ b u,s.heap.get? b=some u->h'.get? b=some u) (hp:s.heap.objs.size<=a) (new:bM X.prog X.w (upd H a o) h' a o) :
  a5 X pins σ (upd H a o) { s with heap:=h',toks:=t' }:=I.un (Un.laid k hp (I.hok.fresh hp)) (I.hok.laid k hp new)
theorem a5.write {x e:Addr}{o:HO}{t':Nat} (I:a5 X pins σ H s) (mu:kO (H x)) (he:e=x ∨ H e=some (.own x)) (k:∀ b u,b ≠ e->s.heap.get? b=some u->h'.get? b=some u) (heo:∃ u,h'.get? e=some u)
  (new:bM X.prog X.w (upd H x o) h' x o):a5 X pins σ (upd H x o) { s with heap:=h',toks:=t' }:=I.un (Un.write mu he k heo) (I.hok.write mu he k heo new)
theorem a5.weak {σ':List (Option V)} (I:a5 X pins σ H s) (hl:σ'.length=σ.length) (w:∀ (i:Nat) v,σ'[i]? = some (some v)->σ[i]? = some (some v)):a5 X pins σ' H s:=
 ⟨I.ok,I.os,I.bare,I.base,let ⟨m,hn,hl'⟩:=I.loc; ⟨m,hn,fun i x v e1 e2 e3=>hl' i x v e1 (w i v e2) e3⟩,I.cell,I.free,I.freeC,I.pin,I.hok,hl.trans I.len⟩
theorem a5.pins_of {pins':List (Addr × Obj)} (I:a5 X pins σ H s) (h:∀ p ∈ pins',s.heap.get? p.1=some p.2/\H p.1=none/\p.1 ≠ X.env.locals/\p.1 ∉ X.fs/\∀ v,p.2.data ≠ .cell v):a5 X pins' σ H s:=
 ⟨I.ok,I.os,I.bare,I.base,I.loc,I.cell,I.free,I.freeC,fun p hp=>(au2.mp hp).elim (fun z=>I.pin p (ax4 _ z)) (h p),I.hok,I.len⟩
theorem nP {N:List Str} (hN:N.Nodup) {i j:Nat}{x:Str} (a:N[i]? = some x) (b:N[j]? = some x):i=j:=by
 obtain ⟨h1,e1⟩:=aq7.mp a
 obtain ⟨h2,e2⟩:=aq7.mp b
 exact (List.getElem_inj hN).mp (e1.trans e2.symm)
theorem rP {M:Model}{A:Around}{E:Value->Shared->Prop}{i:Nat}{x:Str}{v:V}{u:Value}{Q:Unit->Shared->Prop} (I:a5 X pins σ H s) (hN:X.N.Nodup) (hi:X.N[i]? = some x) (hx:gQ X.env.scope x) (r:aP v u)
  (h:∀ s',a5 X pins (σ.set i (some v)) H s'->(∃ a,Heap.SameBut a s.heap s'.heap/\(a=X.env.locals ∨ X.env.cells.lookup x=some a))->Q () s') (hf:X.fn x=true ∨ X.env.scope.names.lookup x=some .local:=by first | exact .inl rfl | exact .inr rfl | assumption):wpAny M A (storeName X.env x u) Q E s:=by
 obtain ⟨m,hn,hl⟩:=id I.loc
 have hcls:(X.env.scope.kind == .class || (X.env.scope.kind == .module && X.env.locals != X.env.globals))=false:=by rw [I.ok.kind]; rfl
 have hiσ:i < σ.length:=by rw [I.len]; exact (aq7.mp hi).1
 have cne:=I.cne
 have tracked:∀ {a:Addr}{h':Heap},(∃ o,s.heap.get? a=some o/\H a=none)->Heap.SameBut a s.heap h'->bD X.prog X.w H h':=fun {a h'} ha hs b ob e=>by
  obtain ⟨_,_,hfree⟩:=ha
  refine (I.hok b ob e).stay (fun c w' hc q=>(hs.2 c ?_).trans q) (fun _ q=>q) fun _ _ q=>q
  rintro rfl
  rcases hc with rfl | hc
  ·rw [hfree] at e; cases e
  ·rw [hfree] at hc; cases hc
 rcases hx with hk | hk
 ·refine wpAny_storeName_local hk hn (fun h' hn' hs=>?_) hcls
  obtain ⟨oL,_,_,hoL,_⟩:=id hn
  refine h _ ⟨I.ok,I.os,I.bare,⟨fun b o e n hb hx=>?_,fun b o e n hb hx=>?_,I.base.free,fun b o e hx=>?_,I.base.tups,I.base.frzs,I.base.tbls⟩,⟨_,hn',fun j y v' e1 e2 e3=>?_⟩,fun y c e=>?_,I.free,I.freeC,fun p hp=>?_,tracked ⟨oL,hoL,I.free⟩ hs,by simpa using I.len⟩ ⟨_,hs,.inl rfl⟩
  ·exact (hs.2 b (as1 (ap1 (ap3 e) I.ok.above))).trans (I.base.keep b o e n hb hx)
  ·obtain ⟨sl,e1⟩:=I.base.slot b o e n hb hx
   exact⟨sl,(hs.2 b (as1 (ap1 (ap3 e) I.ok.above))).trans e1⟩
  ·obtain ⟨o',e1⟩:=I.base.there b o e hx
   exact⟨o',(hs.2 b (as1 (ap1 (ap3 e) I.ok.above))).trans e1⟩
  ·by_cases hj:j=i
   ·subst hj
    rw [hi] at e1; cases e1
    rw [au0 hiσ] at e2
    cases e2
    exact⟨u,r,.inl ⟨hk,by simp⟩⟩
   ·rw [aq2 (Ne.symm hj)] at e2
    obtain ⟨u',r',q⟩:=hl j y v' e1 e2 e3
    refine⟨u',r',?_⟩
    rcases q with ⟨k,e⟩ | ⟨k,c,e,z⟩
    ·refine .inl ⟨k,?_⟩
     have:y ≠ x:=fun e=>hj (nP hN e1 (e ▸ hi))
     simp [this,e]
    ·exact .inr ⟨k,c,e,z.sameBut hs (cne y c e)⟩
  ·obtain ⟨w',z⟩:=I.cell y c e
   exact⟨w',z.sameBut hs (cne y c e)⟩
  ·obtain ⟨e,n,ne,nf,d⟩:=I.pin p hp
   exact⟨(hs.2 p.1 ne).trans e,n,ne,nf,d⟩
 ·have hfn:X.fn x=true:=by
   rcases hf with z | z
   ·exact z
   ·rw [z] at hk; cases hk
  obtain ⟨c,hc⟩:=I.ok.has x (.inl hk)
  obtain ⟨w',z⟩:=I.cell x c hc
  refine wpAny_storeName_cell I.ok.kind hk hc z (fun h' hc' hs=>?_)
  obtain ⟨oc,hoc,hocd⟩:=id z
  refine h { s with heap:=h' } ⟨I.ok,I.os,I.bare,⟨fun b o e n hb hx=>?_,fun b o e n hb hx=>?_,I.base.free,fun b o e hx=>?_,I.base.tups,I.base.frzs,I.base.tbls⟩,⟨m,hn.sameBut hs (Ne.symm (cne x c hc)),fun j y v' e1 e2 e3=>?_⟩,fun y c' e=>?_,I.free,I.freeC,fun p hp=>?_,tracked ⟨oc,hoc,I.freeC x c hc⟩ hs,by simpa using I.len⟩ ⟨c,hs,.inr hc⟩
  ·exact (hs.2 b (as1 (ap1 (ap3 e) (I.ok.cab x c hfn hc)))).trans (I.base.keep b o e n hb hx)
  ·obtain ⟨sl,e1⟩:=I.base.slot b o e n hb hx
   exact⟨sl,(hs.2 b (as1 (ap1 (ap3 e) (I.ok.cab x c hfn hc)))).trans e1⟩
  ·obtain ⟨o',e1⟩:=I.base.there b o e hx
   exact⟨o',(hs.2 b (as1 (ap1 (ap3 e) (I.ok.cab x c hfn hc)))).trans e1⟩
  ·by_cases hj:j=i
   ·subst hj
    rw [hi] at e1; cases e1
    rw [au0 hiσ] at e2
    cases e2
    exact⟨u,r,.inr ⟨.inl hk,c,hc,hc'⟩⟩
   ·rw [aq2 (Ne.symm hj)] at e2
    obtain ⟨u',r',q⟩:=hl j y v' e1 e2 e3
    refine⟨u',r',?_⟩
    rcases q with q | ⟨k,c',e,z'⟩
    ·exact .inl q
    ·refine .inr ⟨k,c',e,z'.sameBut hs ?_⟩
     rintro rfl
     exact hj (nP hN e1 (I.ok.inj _ _ _ e hc ▸ hi))
  ·by_cases hcc:c'=c
   ·subst hcc; exact⟨_,hc'⟩
   ·obtain ⟨w2,z2⟩:=I.cell y c' e
    exact⟨w2,z2.sameBut hs hcc⟩
  ·obtain ⟨e,n,ne,nf,d⟩:=I.pin p hp
   refine⟨(hs.2 p.1 ?_).trans e,n,ne,nf,d⟩
   intro q
   rw [q,hoc] at e
   have q':oc=p.2:=ar1 e
   exact d w' (by rw [<- q']; exact hocd)
theorem nQ {M:Model}{A:Around}{E:Value->Shared->Prop}{i:Nat}{x:Str}{v:V}{u:Value}{Q:Unit->Shared->Prop} (I:a5 X pins σ H s) (hN:X.N.Nodup) (hi:X.N[i]? = some x) (hx:gQ X.env.scope x) (r:aP v u)
  (h:∀ s',a5 X pins (σ.set i (some v)) H s'->Q () s') (hf:X.fn x=true ∨ X.env.scope.names.lookup x=some .local:=by first | exact .inl rfl | exact .inr rfl | assumption):wpAny M A (storeName X.env x u) Q E s:=
 rP I hN hi hx r (fun s' I' _=>h s' I') hf
theorem a5.call' {s':Shared}{ch:List Addr} (I:a5 X pins σ H s) (ho:s'.os=s.os) (u:Un (b6 X.stack) ch H H' s.heap s'.heap) (hok:bD X.prog X.w H' s'.heap) (hg:AllBare s'.gens)
  (hch:∀ b ∈ ch,(b ∈ X.ex ∨ X.s₀.heap.objs.size<=b)/\b ≠ X.env.locals/\(∀ x c,X.env.cells.lookup x=some c->c ≠ b)/\∀ p ∈ X.pn ++ pins,p.1 ≠ b):a5 X pins σ H' s':=by
 obtain ⟨h',g',d',t',o'⟩:=s'
 have e:o'=s.os:=ho
 subst e
 exact I.call (g':=g') (t':=t') (d':=d') u hok hg hch
end
noncomputable abbrev XK:=Value->Option Addr->Hp->Prop
noncomputable abbrev St:=List (Option V)
noncomputable abbrev VK:=V->Hp->Prop
noncomputable abbrev TE:=St->Hp->VK->Prop
noncomputable abbrev TT:=St->Hp->(Bool->Hp->Prop)->Prop
noncomputable abbrev TA:=St->Hp->(List V->Hp->Prop)->Prop
structure cM where
 nx:St->Hp->Prop
 rt:VK
 bk:St->Hp->Prop:=fun _ _=>False
 ct:St->Hp->Prop:=fun _ _=>False
noncomputable abbrev TS:=cM->St->Hp->Prop
noncomputable def EP (X:Cx) (pins:List (Addr × Obj)) (σ:St) (Q:VK) (u:Value) (s':Shared):Prop:=∃ v H',a5 X pins σ H' s'/\aP v u/\Q v H'
noncomputable def TP (X:Cx) (pins:List (Addr × Obj)) (σ:St) (Q:Bool->Hp->Prop) (b:Bool) (s':Shared):Prop:=∃ H',a5 X pins σ H' s'/\Q b H'
noncomputable def AP (X:Cx) (pins:List (Addr × Obj)) (σ:St) (Q:List V->Hp->Prop) (us:List Value) (s':Shared):Prop:=∃ vs H',a5 X pins σ H' s'/\aF vs us/\Q vs H'
noncomputable def SP (X:Cx) (pins:List (Addr × Obj)) (D:cM) (f:Flow) (s':Shared):Prop:=
 match f with
 | .next=>∃ σ' H',a5 X pins σ' H' s'/\D.nx σ' H'
 | .brk=>∃ σ' H',a5 X pins σ' H' s'/\D.bk σ' H'
 | .cont=>∃ σ' H',a5 X pins σ' H' s'/\D.ct σ' H'
 | .ret u=>∃ v σ' H',a5 X pins σ' H' s'/\aP v u/\D.rt v H'
noncomputable def PE (X:Cx) (e:Expr) (t:TE):Prop:=
 ∀ (pins:List (Addr × Obj)) (s:Shared) (σ:St) (H:Hp) (Q:VK),a5 X pins σ H s->t σ H Q->wpAny (model X.prog X.w) X.A (eval e X.env) (EP X pins σ Q) X.xe s
noncomputable def PT (X:Cx) (e:Expr) (t:TT):Prop:=
 ∀ (pins:List (Addr × Obj)) (s:Shared) (σ:St) (H:Hp) (Q:Bool->Hp->Prop),a5 X pins σ H s->t σ H Q->wpAny (model X.prog X.w) X.A (isTrue e X.env (eval e X.env)) (TP X pins σ Q) X.xe s
noncomputable def PW (X:Cx) (e:Expr) (t:TT):Prop:=
 ∀ (whole:Sem Value) (pins:List (Addr × Obj)) (s:Shared) (σ:St) (H:Hp) (Q:Bool->Hp->Prop),a5 X pins σ H s->t σ H Q->wpAny (model X.prog X.w) X.A (isTrue e X.env whole) (TP X pins σ Q) X.xe s
theorem PW.pt {X:Cx}{e:Expr}{t:TT} (h:PW X e t):PT X e t:=h _
noncomputable def PA (X:Cx) (es:List Expr) (t:TA):Prop:=
 ∀ (pos:Pos) (pins:List (Addr × Obj)) (s:Shared) (σ:St) (H:Hp) (Q:List V->Hp->Prop),a5 X pins σ H s->t σ H Q->wpAny (model X.prog X.w) X.A (spliced (backTo pos (starEach es X.env))) (AP X pins σ Q) X.xe s
noncomputable def PS (X:Cx) (st:Stmt) (t:TS):Prop:=
 ∀ (pins:List (Addr × Obj)) (s:Shared) (σ:St) (H:Hp) (D:cM),a5 X pins σ H s->t D σ H->wpAny (model X.prog X.w) X.A (exec st X.env) (SP X pins D) X.xe s
noncomputable def cH (X:Cx) (st:List Stmt) (t:TS):Prop:=
 ∀ (pins:List (Addr × Obj)) (s:Shared) (σ:St) (H:Hp) (D:cM),a5 X pins σ H s->t D σ H->wpAny (model X.prog X.w) X.A (execs st X.env) (SP X pins D) X.xe s
theorem aJ {α:Type}{t:Sem α}{Q Q':α->Shared->Prop}{M:Model}{A:Around}{E:Value->Shared->Prop}{s:Shared} (h:wpAny M A t Q E s) (hQ:∀ a s,Q a s->Q' a s):wpAny M A t Q' E s:=au5 h hQ fun _ _ x=>x
section
variable {X : Cx}
theorem bin {a b:Expr}{ta tb:TE} (ha:PE X a ta) (hb:PE X b tb) {pins:List (Addr × Obj)}{s:Shared}{σ:St}{H:Hp}{R:V->V->Hp->Prop} (I:a5 X pins σ H s) (h:ta σ H fun x H1=>tb σ H1 fun y H2=>R x y H2)
  {α:Type}{Q:α->Shared->Prop}{f:Value->Value->Sem α}
  (hf:∀ v u s2 x y H2,a5 X pins σ H2 s2->aP x v->aP y u->R x y H2->wpAny (model X.prog X.w) X.A (f v u) Q X.xe s2) :
  wpAny (model X.prog X.w) X.A (eval a X.env) (fun v s₁=>wpAny (model X.prog X.w) X.A (eval b X.env) (fun u s₂=>wpAny (model X.prog X.w) X.A (f v u) Q X.xe s₂) X.xe s₁) X.xe s:=by
 refine aJ (ha pins s σ H _ I h) fun v s1 ⟨x,H1,I1,r1,q1⟩=>?_
 refine aJ (hb pins s1 σ H1 _ I1 q1) fun u s2 ⟨y,H2,I2,r2,q2⟩=>?_
 exact hf v u s2 x y H2 I2 r1 r2 q2
noncomputable def kQ (i:Nat):TE:=fun σ H Q=>∃ v,σ[i]? = some (some v)/\Q v H
noncomputable def tC (v:V):TE:=fun _ H Q=>Q v H
theorem nR {i:Nat}{x:Str}{pos:Pos} (hN:X.N[i]? = some x) (hv:iJ X.env.scope x) (hd:(x == ("__debug__" : Str))=false:=by decide) (hcd:(x == ("__classdict__" : Str))=false:=by decide):PE X (.Name x pos) (kQ i):=by
 intro pins s σ H Q I h
 obtain ⟨v,e,h⟩:=h
 obtain ⟨m,hn,hl⟩:=I.loc
 obtain ⟨u,r,l⟩:=hl i x v hN e hv
 have fin:EP X pins σ Q u s:=⟨v,H,I,r,h⟩
 rcases l with ⟨hk,hm⟩ | ⟨hk,c,hc,hcell⟩
 ·exact wpAny_Name (wpAny_loadName_local I.ok.kind hk hn hm fin) hd
 ·rcases hk with hk | hk
  ·exact wpAny_Name (wpAny_loadName_cell I.ok.kind hk hc hcell fin) hd
  ·exact wpAny_Name (wpAny_loadName_free I.ok.kind hk hc hcell fin hcd) hd
theorem yV {i j pos}:PE X (.Constant (.int i) j pos) (tC (.int i)):=fun _ _ _ H _ I h=>wpAny_Constant_int ⟨.int i,H,I.tok _,⟨_,rfl⟩,h⟩
theorem yW {b j pos}:PE X (.Constant (.bool b) j pos) (tC (.bl b)):=fun _ _ _ H _ I h=>Constant_bool ⟨.bl b,H,I,rfl,h⟩
theorem yX {j pos}:PE X (.Constant .none j pos) (tC .non):=fun _ _ _ H _ I h=>Constant_none ⟨.non,H,I,rfl,h⟩
theorem yY {x j pos}:PE X (.Constant (.str x) j pos) (tC (.str x)):=fun _ _ _ H _ I h=>Calls.Constant_str ⟨.str x,H,I.tok _,⟨_,rfl⟩,h⟩
noncomputable def Gl (X:Cx) (x:Str):Prop:=X.env.kindOf x=some .globalImplicit
theorem jE {E:Value->Shared->Prop}{pins:List (Addr × Obj)}{s:Shared}{σ:St}{H:Hp}{x:Str}{u:Value}{pos:Pos}{Q:Value->Shared->Prop} (I:a5 X pins σ H s) (hg:Gl X x) (hm:X.mg x=some u) (h:Q u s)
  (hd:(x == ("__debug__" : Str))=false:=by decide):wpAny (model X.prog X.w) X.A (eval (.Name x pos) X.env) Q E s:=
 Calls.Name_function_global I.ok.kind hg (Calls.loadGlobal_global (by rw [I.ok.glob]; exact I.mod.glob.keeps I.bk) hm h) hd
theorem jF {E:Value->Shared->Prop}{pins:List (Addr × Obj)}{s:Shared}{σ:St}{H:Hp}{x:Str}{u:Value}{pos:Pos}{Q:Value->Shared->Prop} (I:a5 X pins σ H s) (hg:Gl X x) (hm:X.mg x=none) (hv:bootBuiltins x=some u) (h:Q u s)
  (hn:x ≠ "__name__":=by decide) (hd:(x == ("__debug__" : Str))=false:=by decide):wpAny (model X.prog X.w) X.A (eval (.Name x pos) X.env) Q E s:=by
 obtain ⟨mb,h1,h2⟩:=I.mod.blt
 exact Calls.Name_function_global I.ok.kind hg (Calls.loadGlobal_builtin (by rw [I.ok.glob]; exact I.mod.glob.keeps I.bk) hm (by rw [I.ok.blt]; exact h1.keeps I.bk) ((h2 x hn).trans hv) h) hd
theorem rQ {x:Str}{v:V}{u:Value}{pos:Pos} (hg:Gl X x) (hm:X.mg x=some u) (r:aP v u) (hd:(x == ("__debug__" : Str))=false:=by decide):PE X (.Name x pos) (tC v):=
 fun _ _ _ H _ I h=>jE I hg hm ⟨v,H,I,r,h⟩ hd
theorem rR {x:Str}{v:V}{u:Value}{pos:Pos} (hg:Gl X x) (hm:X.mg x=none) (hv:bootBuiltins x=some u) (r:aP v u) (hn:x ≠ "__name__":=by decide) (hd:(x == ("__debug__" : Str))=false:=by decide):PE X (.Name x pos) (tC v):=
 fun _ _ _ H _ I h=>jF I hg hm hv ⟨v,H,I,r,h⟩ hn hd
variable {a b : Expr} {ta tb : TE} {pos : Pos}
noncomputable def PC (X:Cx) (op:CmpOp) (a b:Expr) (t:TE):Prop:=
 ∀ (pins:List (Addr × Obj)) (s:Shared) (σ:St) (H:Hp) (Q:VK),a5 X pins σ H s->t σ H Q->
  wpAny (model X.prog X.w) X.A (eval a X.env) (fun v s₁=>wpAny (model X.prog X.w) X.A (eval b X.env) (fun u s₂=>wpAny (model X.prog X.w) X.A (compareOp op v u) (EP X pins σ Q) X.xe s₂) X.xe s₁) X.xe s
noncomputable def tB (t:TE):TT:=fun σ H Q=>t σ H fun x H1=>∃ c,x = .bl c/\Q c H1
theorem an7 {op:CmpOp}{t:TE} (h:PC X op a b t) (h1:behindInMarks op b=false:=by first | exact nobehind _ (by decide) (by decide) | rfl):PT X (.Compare a [op] [b] pos) (tB t):=by
 intro pins s σ H Q I hw
 refine wpAny_isTrue_Compare1 (aJ (h pins s σ H _ I hw) fun v s1 h1=>aJ h1 fun u s2 h2=>aJ h2 fun c s3 ⟨x,H1,I1,r1,q1⟩=>?_) h1
 obtain ⟨d,rfl,q⟩:=q1
 cases r1
 exact az9 ⟨H1,I1,q⟩
theorem yZ {e:Expr}{t:TE} (h:PE X e t) (he:∀ whole,isTrue e X.env whole=(do let v <- whole; standAt e.pos; holding [v] (truthy v)):=by intro _; rfl):PT X e (tB t):=by
 intro pins s σ H Q I hw
 refine isTrue_plain (aJ (h pins s σ H _ I hw) fun v s1 ⟨x,H1,I1,r1,q1⟩=>?_) (he _)
 obtain ⟨d,rfl,q⟩:=q1
 cases r1
 exact az9 ⟨H1,I1,q⟩
variable {tA tB' : TT} {bY : List Expr}
noncomputable def rS (t u:TT):TT:=fun σ H Q=>t σ H fun c H1=>if c=true then Q true H1 else u σ H1 Q
noncomputable def rT (t:TT):TT:=fun σ H Q=>t σ H fun c H1=>Q (!c) H1
theorem z0 (ha:PT X a tA):PW X (.BoolOp .Or [a] pos) tA:=by
 intro wh pins s σ H Q I h
 refine isTrue_or (aJ (ha pins s σ H Q I h) fun c s1 e=>?_)
 cases c with
 | false=>exact isTrue_or_nil e
 | true=>exact e
theorem z9 (ha:PT X a tA) (hb:PW X (.BoolOp .Or (b :: bY) pos) tB'):PW X (.BoolOp .Or (a :: b :: bY) pos) (rS tA tB'):=by
 intro wh pins s σ H Q I h
 refine isTrue_or (aJ (ha pins s σ H _ I h) fun c s1 ⟨H1,I1,q1⟩=>?_)
 cases c with
 | true=>exact⟨H1,I1,q1⟩
 | false=>exact hb wh pins s1 σ H1 Q I1 q1
theorem zA (ha:PT X a tA):PT X (.UnaryOp .Not a pos) (rT tA):=by
 intro pins s σ H Q I h
 exact isTrue_not (ha pins s σ H (fun c H1=>Q (!c) H1) I h)
noncomputable def rV (ta tb:TE):TE:=fun σ H Q=>ta σ H fun x H1=>∃ c,x = .bl c/\if c=true then tb σ H1 Q else Q (.bl false) H1
noncomputable def rW (ta:TE):TE:=fun σ H Q=>ta σ H fun x H1=>∃ c,x = .bl c/\Q (.bl (!c)) H1
theorem zB {op}{t:TE} (h:PE X a t):PE X (.BoolOp op [a] pos) t:=fun pins s σ H Q I hw=>BoolOp_one (h pins s σ H Q I hw)
theorem zC (ha:PE X a ta) (hb:PE X (.BoolOp .And (b :: bY) pos) tb):PE X (.BoolOp .And (a :: b :: bY) pos) (rV ta tb):=by
 intro pins s σ H Q I h
 refine BoolOp_and (aJ (ha pins s σ H _ I h) fun v s1 ⟨x,H1,I1,r1,q1⟩=>?_)
 obtain ⟨c,rfl,q1⟩:=q1
 cases r1
 refine az9 ?_
 cases c with
 | true=>exact hb pins s1 σ H1 Q I1 q1
 | false=>exact⟨.bl false,H1,I1,rfl,q1⟩
theorem zD (ha:PE X a ta):PE X (.UnaryOp .Not a pos) (rW ta):=by
 intro pins s σ H Q I h
 refine UnaryOp_ (aJ (ha pins s σ H _ I h) fun v s1 ⟨x,H1,I1,r1,q1⟩=>?_)
 obtain ⟨c,rfl,q1⟩:=q1
 cases r1
 exact not_of (az9 ⟨.bl (!c),H1,I1,rfl,q1⟩)
end
noncomputable def aG (K:PySem.W.Frag) (H:Hp) (a:Addr) (xs:List V):Prop:=
 Rd H a (.lst xs) ∨
  ∃ (o:Obj) (its:Array Value) (n:Nat),K.lookup a=some o/\o.cls = .type "list"/\o.dict=none/\o.data = .seq its n/\its.size<=sizeLine/\aF xs its.toList
noncomputable def aE (K:PySem.W.Frag) (H:Hp) (a:Addr) (xs:List V):Prop:=
 Rd H a (.tup xs) ∨
  ∃ (o:Obj) (its:Array Value) (n:Nat),K.lookup a=some o/\o.cls = .type "tuple"/\o.data = .seq its n/\its.size<=sizeLine/\aF xs its.toList
noncomputable def zE:Value->Option V
 | .none=>some .non
 | .bool b=>some (.bl b)
 | .int i _=>some (.int i)
 | .str x _=>some (.str x)
 | .bytes b _=>some (.byt b)
 | .float b _=>some (.flt b)
 | .ref a=>some (.ref a)
 | .type n=>some (.ty n)
 | _=>none
theorem aP.abs {x:V}{u:Value} (r:aP x u):zE u=some x:=by
 cases x with
 | non=>cases r; rfl
 | bl _=>cases r; rfl
 | int _=>obtain ⟨t,rfl⟩:=r; rfl
 | str _=>obtain ⟨t,rfl⟩:=r; rfl
 | byt _=>obtain ⟨t,rfl⟩:=r; rfl
 | flt _=>obtain ⟨t,rfl⟩:=r; rfl
 | ref _=>cases r; rfl
 | ty _=>cases r; rfl
theorem aP.inj {x y:V}{u:Value} (r:aP x u) (q:aP y u):x=y:=ar1 (r.abs.symm.trans q.abs)
theorem aF.inj:∀ {xs ys:List V}{us:List Value},aF xs us->aF ys us->xs=ys
 | _,_,_,.nil,.nil=>rfl
 | _,_,_,.cons r t,.cons r' t'=>by rw [r.inj r',aF.inj t t']
section
variable {X : Cx} {pins : List (Addr × Obj)} {σ : St} {H : Hp} {s : Shared} {a : Addr} {xs ys : List V}
theorem aG.of {K:PySem.W.Frag} (h:H a=some (.lst xs)):aG K H a xs:=.inl (.inl h)
theorem aE.of {K:PySem.W.Frag} (h:H a=some (.tup xs)):aE K H a xs:=.inl (.inl h)
theorem a5.list (I:a5 X pins σ H s) (h:aG X.K H a xs):∃ its:List Value,aF xs its/\PlainL s.heap a its.toArray/\xs.length<=sizeLine:=by
 rcases h with h | ⟨o,its,n,hk,hc,hd,hs,hz,r⟩
 ·obtain ⟨z,its,n,r,e⟩:=h.ok I.hok
  exact⟨its,r,⟨_,n,e,rfl,rfl,rfl⟩,z⟩
 ·refine⟨its.toList,r,⟨o,n,I.kIn a o hk,hc,hd,by simpa using hs⟩,?_⟩
  have e:=r.length
  simp only [at0] at e
  lia
theorem a5.tuple (I:a5 X pins σ H s) (h:aE X.K H a xs):∃ its:List Value,aF xs its/\IsTup s.heap a its.toArray/\xs.length<=sizeLine:=by
 rcases h with h | ⟨o,its,n,hk,hc,hs,hz,r⟩
 ·obtain ⟨z,its,r,p,_⟩:=h.ok I.hok
  exact⟨its,r,p,z⟩
 ·refine⟨its.toList,r,⟨o,I.kIn a o hk,hc,n,by simpa using hs⟩,?_⟩
  have e:=r.length
  simp only [at0] at e
  lia
theorem a5.list_inj (I:a5 X pins σ H s) (h:aG X.K H a xs) (h':aG X.K H a ys):xs=ys:=by
 obtain ⟨its,r,⟨o,n,e,_,_,d⟩,_⟩:=I.list h
 obtain ⟨its',r',⟨o',n',e',_,_,d'⟩,_⟩:=I.list h'
 rw [e] at e'; cases e'
 rw [d] at d'
 injection d' with d1 _
 have:its=its':=by simpa using congrArg Array.toList d1
 subst this
 exact r.inj r'
theorem a5.tuple_inj (I:a5 X pins σ H s) (h:aE X.K H a xs) (h':aE X.K H a ys):xs=ys:=by
 obtain ⟨its,r,⟨o,e,_,n,d⟩,_⟩:=I.tuple h
 obtain ⟨its',r',⟨o',e',_,n',d'⟩,_⟩:=I.tuple h'
 rw [e] at e'; cases e'
 rw [d] at d'
 injection d' with d1 _
 have:its=its':=by simpa using congrArg Array.toList d1
 subst this
 exact r.inj r'
end
noncomputable abbrev Cx.wish (X:Cx) (E:Value->Shared->Prop):Cx:={ X with xe:=E }
noncomputable abbrev Cx.nox (X:Cx):Cx:=X.wish fun _ _=>False
theorem Cx.Ok.wish {X:Cx} (ok:X.Ok) (E:Value->Shared->Prop):(X.wish E).Ok:=
 ⟨ok.mod,ok.kind,ok.glob,ok.blt,ok.above,ok.inj,ok.has,ok.cab,ok.hd,ok.frames,ok.stk,ok.exf,ok.bs,ok.bsz,ok.noex,ok.exfs,ok.funs,ok.frf⟩
theorem Cx.Ok.unwish {X:Cx}{E:Value->Shared->Prop} (ok:(X.wish E).Ok):X.Ok:=
 ⟨ok.mod,ok.kind,ok.glob,ok.blt,ok.above,ok.inj,ok.has,ok.cab,ok.hd,ok.frames,ok.stk,ok.exf,ok.bs,ok.bsz,ok.noex,ok.exfs,ok.funs,ok.frf⟩
section
variable {X : Cx} {pins : List (Addr × Obj)} {σ : St} {H : Hp} {s : Shared} {E : Value → Shared → Prop}
theorem a5.wish (I:a5 X pins σ H s) (E:Value->Shared->Prop):a5 (X.wish E) pins σ H s:=⟨I.ok.wish E,I.os,I.bare,I.base,I.loc,I.cell,I.free,I.freeC,I.pin,I.hok,I.len⟩
theorem a5.unwish (I:a5 (X.wish E) pins σ H s):a5 X pins σ H s:=⟨I.ok.unwish,I.os,I.bare,I.base,I.loc,I.cell,I.free,I.freeC,I.pin,I.hok,I.len⟩
theorem SP.unwish {D:cM}{f:Flow}{s':Shared} (h:SP (X.wish E) pins D f s'):SP X pins D f s':=by
 cases f with
 | next=>obtain ⟨σ',H',I,q⟩:=h; exact⟨σ',H',I.unwish,q⟩
 | brk=>obtain ⟨σ',H',I,q⟩:=h; exact⟨σ',H',I.unwish,q⟩
 | cont=>obtain ⟨σ',H',I,q⟩:=h; exact⟨σ',H',I.unwish,q⟩
 | ret u=>obtain ⟨v,σ',H',I,r,q⟩:=h; exact⟨v,σ',H',I.unwish,r,q⟩
theorem cH.nox {st:List Stmt}{t:TS} (h:cH X.nox st t):cH X st t:=fun pins s σ H D I hw=>
 au5 (h pins s σ H D (I.wish _) hw) (fun _ _ q=>q.unwish) fun _ _ z=>False.elim z
end
section
variable {X : Cx} {st : Stmt} {bY : List Stmt} {t u : TS} {e : Expr} {te : TE} {pos : Pos}
noncomputable def rX:TS:=fun D σ H=>D.nx σ H
noncomputable def rY (t u:TS):TS:=fun D σ H=>t { D with nx:=u D } σ H
theorem zF:cH X [] rX:=fun _ _ σ H _ I h=>wpAny_execs_nil ⟨σ,H,I,h⟩
theorem zG (h1:PS X st t) (h2:cH X bY u):cH X (st :: bY) (rY t u):=by
 intro pins s σ H D I h
 refine wpAny_execs_cons (aJ (h1 pins s σ H { D with nx:=u D } I h) fun f s1 q=>?_)
 cases f with
 | next=>
  obtain ⟨σ',H',I',q⟩:=q
  exact h2 pins s1 σ' H' D I' q
 | ret v=>exact q
 | brk=>exact q
 | cont=>exact q
theorem zH (h1:PS X st t):cH X [st] t:=by
 intro pins s σ H D I h
 refine wpAny_execs_cons (aJ (h1 pins s σ H D I h) fun f s1 q=>?_)
 cases f with
 | next=>exact wpAny_execs_nil q
 | ret v=>exact q
 | brk=>exact q
 | cont=>exact q
theorem a5.quiet {pins:List (Addr × Obj)}{σ:St}{H:Hp}{s:Shared} (I:a5 X pins σ H s):interactive X.env=false:=by simp [interactive,I.ok.kind]
noncomputable def nS (te:TE):TS:=fun D σ H=>te σ H fun _ H1=>D.nx σ H1
theorem rZ (he:PE X e te) (hs:swapsWith e none pos.line X.env=pure false:=by rfl):PS X (.Expr e pos) (nS te):=by
 intro pins s σ H D I h
 exact wpAny_Expr_any (aJ (he pins s σ H _ I h) fun v s1 ⟨x,H1,I1,r1,q1⟩=>⟨σ,H1,I1,q1⟩) I.quiet hs
noncomputable def nT (te:TE):TS:=fun D σ H=>te σ H D.rt
theorem sA (he:PE X e te):PS X (.Return (some e) pos) (nT te):=by
 intro pins s σ H D I h
 exact wpAny_Return_some (aJ (he pins s σ H _ I h) fun v s1 ⟨x,H1,I1,r1,q1⟩=>⟨x,σ,H1,I1,r1,q1⟩)
noncomputable def sB (c:TT) (t u:TS):TS:=fun D σ H=>c σ H fun b H1=>if b=true then t D σ H1 else u D σ H1
theorem zI {c:Expr}{a b:List Stmt}{tc:TT} (hc:PT X c tc) (ha:cH X a t) (hb:cH X b u):PS X (.If c a b pos) (sB tc t u):=by
 intro pins s σ H D I h
 refine wpAny_If (aJ (hc pins s σ H _ I h) fun d s1 ⟨H1,I1,q1⟩=>?_)
 cases d with
 | true=>exact ha pins s1 σ H1 D I1 q1
 | false=>exact hb pins s1 σ H1 D I1 q1
noncomputable def zJ:TS:=fun _ _ _=>False
theorem zK:PS X st zJ:=fun _ _ _ _ _ _ h=>h.elim
end
noncomputable abbrev TG:=V->St->Hp->(St->Hp->Prop)->Prop
noncomputable abbrev gR:=List V->St->Hp->(St->Hp->Prop)->Prop
noncomputable def PG (X:Cx) (target:Expr) (t:TG):Prop:=
 ∀ (pins:List (Addr × Obj)) (s:Shared) (σ:St) (H:Hp) (v:V) (u:Value) (Q:St->Hp->Prop),a5 X pins σ H s->aP v u->t v σ H Q->
  wpAny (model X.prog X.w) X.A (assign target X.env u) (fun _ s'=>∃ σ' H',a5 X pins σ' H' s'/\Q σ' H') X.xe s
noncomputable def kR (X:Cx) (ts:List Expr) (t:gR):Prop:=
 ∀ (pins:List (Addr × Obj)) (s:Shared) (σ:St) (H:Hp) (vs:List V) (us:List Value) (Q:St->Hp->Prop),a5 X pins σ H s->aF vs us->t vs σ H Q->
  wpAny (model X.prog X.w) X.A (assignInOrder ((assignEach ts X.env).map (·.2)) us) (fun _ s'=>∃ σ' H',a5 X pins σ' H' s'/\Q σ' H') X.xe s
section
variable {X : Cx} {pos : Pos}
noncomputable def cR (i:Nat):TG:=fun v σ H Q=>Q (σ.set i (some v)) H
theorem kS {i:Nat}{x:Str} (hN:X.N.Nodup) (hi:X.N[i]? = some x) (hx:gQ X.env.scope x) (hf:X.fn x=true ∨ X.env.scope.names.lookup x=some .local:=by first | exact .inl rfl | exact .inr rfl | assumption):PG X (.Name x pos) (cR i):=by
 intro pins s σ H v u Q I r h
 exact wpAny_assign_Name (nQ I hN hi hx r (fun s' I'=>⟨_,H,I',h⟩) hf)
noncomputable def kT:gR:=fun vs σ H Q=>vs = []/\Q σ H
noncomputable def gS (t:TG) (u:gR):gR:=fun vs σ H Q=>∃ v r,vs=v :: r/\t v σ H fun σ' H'=>u r σ' H' Q
theorem zL:kR X [] kT:=by
 intro pins s σ H vs us Q I r h
 obtain ⟨e,h⟩:=h
 subst e
 cases r
 exact assignInOrder_nil ⟨σ,H,I,h⟩
theorem sC {e:Expr}{es:List Expr}{t:TG}{u:gR} (h1:PG X e t) (h2:kR X es u)
  (hs:(assignEach (e :: es) X.env).map (·.2)=assign e X.env :: (assignEach es X.env).map (·.2):=by rfl):kR X (e :: es) (gS t u):=by
 intro pins s σ H vs us Q I r h
 obtain ⟨v,vr,e1,h⟩:=h
 subst e1
 cases r with
 | cons r rr=>
  rw [hs]
  refine assignInOrder_cons (aJ (h1 pins s σ H _ _ _ I r h) fun _ s1 ⟨σ1,H1,I1,q1⟩=>?_)
  exact h2 pins s1 σ1 H1 _ _ Q I1 rr q1
noncomputable def kU (K:PySem.W.Frag) (n:Nat) (t:gR):TG:=fun v σ H Q=>∃ a xs,v = .ref a/\aE K H a xs/\xs.length=n/\t xs σ H Q
theorem zM {es:List Expr}{k:Nat}{t:gR}{n:Nat} (hc:X.calm=true) (h:kR X es t)
  (hn:(assignEach es X.env).length=n:=by rfl) (hst:(assignEach es X.env).findIdx? (·.1)=none:=by rfl):PG X (.Tuple es k pos) (kU X.K n t):=by
 intro pins s σ H v u Q I r hw
 obtain ⟨a,xs,e1,hq,hl,hw⟩:=hw
 subst e1
 cases r
 obtain ⟨its,rv,ht,hz⟩:=I.tuple hq
 refine assign_Tuple_tuple (I.ok.hd hc) ht (by simp [hn,<- hl,rv.length]) hst fun h' hx=>?_
 have I1:a5 X pins σ H { s with heap:=h' }:=I.kept (t':=s.toks) fun b o e=>hx b o (as1 (ap3 e)) e
 exact h pins _ σ H xs _ Q I1 (by simpa using rv) hw
noncomputable def kW (te:TE) (g:TG):TS:=fun D σ H=>te σ H fun x H1=>g x σ H1 D.nx
theorem sD {i:Nat}{x:Str}{e:Expr}{te:TE}{pos':Pos} (hN:X.N.Nodup) (hi:X.N[i]? = some x) (hx:gQ X.env.scope x) (he:PE X e te) (hs:swapsWith e (some (.Name x pos')) pos.line X.env=pure false:=by rfl) (hf:X.fn x=true ∨ X.env.scope.names.lookup x=some .local:=by first | exact .inl rfl | exact .inr rfl | assumption) :
  PS X (.Assign [.Name x pos'] e pos) (kW te (cR i)):=by
 intro pins s σ H D I h
 refine wpAny_Assign_Name (aJ (he pins s σ H _ I h) fun v s1 ⟨y,H1,I1,r1,q1⟩=>?_) hs
 exact nQ I1 hN hi hx r1 (fun s2 I2=>⟨_,H1,I2,q1⟩) hf
end
structure It where
 go:Nat->Hp->Prop
 yld:Nat->Hp->V->Hp->Prop
 stop:Nat->Hp->Prop
noncomputable def dI (X:Cx) (pins:List (Addr × Obj)) (H:Hp) (b:Addr):Prop:=
 H b=none/\b ≠ X.env.locals/\b ∉ X.fs/\(b ∈ X.ex ∨ X.s₀.heap.objs.size<=b)/\(∀ x c,X.env.cells.lookup x=some c->c ≠ b)/\∀ p ∈ X.pn ++ pins,p.1 ≠ b
theorem a5.fpOk {X:Cx}{pins:List (Addr × Obj)}{σ:St}{H H':Hp}{s:Shared}{b:Addr} (I:a5 X pins σ H s) (hb:s.heap.objs.size<=b) (hn:H' b=none):dI X pins H' b:=by
 refine⟨hn,ay2 (ap1 I.lt hb),I.nofs hb,.inr (as7 I.sz hb),fun x c e z=>?_,fun p hp z=>?_⟩
 ·obtain ⟨v,q⟩:=I.cell x c e
  exact absurd (ap1 q.lt (by rw [z]; exact hb)) (at8 _)
 ·exact absurd (ap1 (ap3 (I.pin p hp).1) (by rw [z]; exact hb)) (at8 _)
structure gF (P:Program) (w:World) (K:PySem.W.Frag) (tg:Expr) (J:It) (fp:List Addr) (it:Addr) (tn:Nat->Heap->Prop):Prop where
 mem:it ∈ fp
 obj:∀ i h,tn i h->∀ b ∈ fp,∃ o,h.get? b=some o/\∀ v,o.data ≠ .cell v
 keep:∀ i h h',tn i h->(∀ b ∈ fp,∀ o,h.get? b=some o->h'.get? b=some o)->tn i h'
 item:∀ (X:Cx),X.prog=P->X.w=w->X.K=K->X.calm=true->∀ (i:Nat) (pins:List (Addr × Obj)) (s:Shared) (σ:St) (H:Hp) (E:Value->Shared->Prop),a5 X pins σ H s->(∀ b ∈ fp,dI X pins H b)->tn i s.heap->J.go i H->
  wpAny (model P w) X.A (pyNext (.ref it)) (fun r s1=>∃ u,r=some u/\
   wpAny (model P w) X.A (letOwnedTupleGo tg (.ref it) u) (fun _ s2=>∃ x H',a5 X pins σ H' s2/\aP x u/\J.yld i H x H'/\tn (i+1) s2.heap/\∀ b ∈ fp,H' b=none) E s1) E s
 done:∀ (X:Cx),X.prog=P->X.w=w->X.K=K->X.calm=true->∀ (i:Nat) (pins:List (Addr × Obj)) (s:Shared) (σ:St) (H:Hp) (E:Value->Shared->Prop),a5 X pins σ H s->(∀ b ∈ fp,dI X pins H b)->tn i s.heap->J.stop i H->
  wpAny (model P w) X.A (pyNext (.ref it)) (fun r s1=>r=none/\a5 X pins σ H s1) E s
 self:∀ (A:Around) (i:Nat) (s:Shared) (Q:Value->Shared->Prop) (E:Value->Shared->Prop),tn i s.heap->Q (.ref it) s->wpAny (model P w) A (pyIter (.ref it)) Q E s
noncomputable abbrev TI:=St->Hp->(It->Hp->Prop)->Prop
noncomputable def sE (X:Cx) (pins:List (Addr × Obj)) (σ:St) (tg:Expr) (R:It->Hp->Prop) (itv:Value) (s2:Shared):Prop:=
 ∃ (it:Addr) (fp:List Addr) (tn:Nat->Heap->Prop) (J:It) (H':Hp),itv = .ref it/\a5 X pins σ H' s2/\gF X.prog X.w X.K tg J fp it tn/\tn 0 s2.heap/\(∀ b ∈ fp,dI X pins H' b)/\R J H'
noncomputable def PI (X:Cx) (tg iter:Expr) (wi:TI):Prop:=
 ∀ (pins:List (Addr × Obj)) (s:Shared) (σ:St) (H:Hp) (R:It->Hp->Prop),a5 X pins σ H s->wi σ H R->
  wpAny (model X.prog X.w) X.A (eval iter X.env) (fun v s1=>wpAny (model X.prog X.w) X.A (pyIter v) (sE X pins σ tg R) X.xe s1) X.xe s
theorem nU {M:Model}{A:Around}{E:Value->Shared->Prop}{s:Shared}{tg:Expr}{it:Addr}{u:Value}{o:Obj}{n:String}{vs:Array Value}{Q:Unit->Shared->Prop} (ho:s.heap.get? it=some o) (hc:o.cls = .type n) (hd:o.data = .fields vs)
    (hn : ["enumerate","zip","dict_itemiterator","dict_reverseitemiterator","odict_iterator","itertools.zip_longest","itertools.pairwise"].contains n=false) (hQ:Q () s):wpAny M A (letOwnedTupleGo tg (.ref it) u) Q E s:=by
  unfold letOwnedTupleGo
  cases tg <;> first
    | exact ao9 hQ
    | (cases u <;> first
        | exact ao9 hQ
        | (refine ao2 (wpAny_load ho ?_)
           rw [hc,hd]
           show wpAny M A (if (["enumerate","zip","dict_itemiterator","dict_reverseitemiterator","odict_iterator","itertools.zip_longest","itertools.pairwise"].contains n && vs[0]? == some (rawInt _))=true then _ else _) Q E s
           rw [if_neg (by intro h; rw [hn,Bool.false_and] at h; cases h)]
           exact ao9 hQ))
noncomputable def nV (K:PySem.W.Frag) (a:Addr):It:=
 ⟨fun i H=>∃ xs x,aG K H a xs/\xs[i]? = some x,fun i H x H'=>H'=H/\∀ xs,aG K H a xs->xs[i]? = some x,fun i H=>∃ xs,aG K H a xs/\xs.length<=i⟩
noncomputable def nW (K:PySem.W.Frag) (a:Addr):It:=
 ⟨fun i H=>∃ xs x,aE K H a xs/\xs[i]? = some x,fun i H x H'=>H'=H/\∀ xs,aE K H a xs->xs[i]? = some x,fun i H=>∃ xs,aE K H a xs/\xs.length<=i⟩
noncomputable def kX (lo:Int) (n:Nat):It:=⟨fun i _=>i < n,fun i H x H'=>H'=H/\x = .int (lo+i),fun i _=>n<=i⟩
theorem zN {P:Program}{w:World}{K:PySem.W.Frag}{tg:Expr} (a it:Addr):gF P w K tg (nV K a) [it] it (fun i h=>h.IsListIter it a i) where
 mem:=by simp
 obj:=fun i h st b hb=>by
  have e:b=it:=by simpa using hb
  subst e
  obtain ⟨o,e,c,d⟩:=st
  exact⟨o,e,fun v z=>by rw [d] at z; cases z⟩
 keep:=fun i h h' st k=>st.at fun o e=>k it (by simp) o e
 item:=by
  intro X hP hw hK hc i pins s σ H E I hf st hg
  subst hP hw hK
  obtain ⟨xs,x,hq,hx⟩:=hg
  obtain ⟨its,rv,p,hz⟩:=I.list hq
  obtain ⟨u,hu,ru⟩:=rv.get hx
  obtain ⟨f0,f1,f2,f3,f4,f5⟩:=hf it (by simp)
  refine wpAny_pyNext_list_item st p.isList (x:=u) (by simpa using hu) fun h' st' sb=>?_
  have I1:a5 X pins σ H { s with heap:=h' }:=I.turned (t':=s.toks) (fun b o hb e=>(sb.2 b hb).trans e) f0 f1 f3 f4 f5
  obtain ⟨o,e,c,d⟩:=id st'
  exact⟨u,rfl,nU (s:={ s with heap:=h' }) e c d (by decide) ⟨x,H,I1,ru,⟨rfl,fun ys hy=>by rw [I.list_inj hy hq]; exact hx⟩,st',fun b hb=>(hf b hb).1⟩⟩
 done:=by
  intro X hP hw hK hc i pins s σ H E I hf st hg
  subst hP hw hK
  obtain ⟨xs,hq,hx⟩:=hg
  obtain ⟨its,rv,p,hz⟩:=I.list hq
  obtain ⟨f0,f1,f2,f3,f4,f5⟩:=hf it (by simp)
  have hl:=rv.length
  exact wpAny_pyNext_list_end (I.ok.hd hc) st p.isList (by simp; lia) fun h' eb=>⟨rfl,I.turned (t':=s.toks) (fun b o hb e=>eb b o hb e) f0 f1 f3 f4 f5⟩
 self:=fun _ _ _ _ _ st h=>wpAny_pyIter_listiter st h
theorem zO {P:Program}{w:World}{K:PySem.W.Frag}{tg:Expr} (a it:Addr):gF P w K tg (nW K a) [it] it (fun i h=>h.IsTupleIter it a i) where
 mem:=by simp
 obj:=fun i h st b hb=>by
  have e:b=it:=by simpa using hb
  subst e
  obtain ⟨o,e,c,d⟩:=st
  exact⟨o,e,fun v z=>by rw [d] at z; cases z⟩
 keep:=fun i h h' st k=>st.at fun o e=>k it (by simp) o e
 item:=by
  intro X hP hw hK hc i pins s σ H E I hf st hg
  subst hP hw hK
  obtain ⟨xs,x,hq,hx⟩:=hg
  obtain ⟨its,rv,p,hz⟩:=I.tuple hq
  obtain ⟨u,hu,ru⟩:=rv.get hx
  obtain ⟨f0,f1,f2,f3,f4,f5⟩:=hf it (by simp)
  refine wpAny_pyNext_tuple_item st (show s.heap.IsTuple a its.toArray from p) (x:=u) (by simpa using hu) fun h' st' sb=>?_
  have I1:a5 X pins σ H { s with heap:=h' }:=I.turned (t':=s.toks) (fun b o hb e=>(sb.2 b hb).trans e) f0 f1 f3 f4 f5
  obtain ⟨o,e,c,d⟩:=id st'
  exact⟨u,rfl,nU (s:={ s with heap:=h' }) e c d (by decide) ⟨x,H,I1,ru,⟨rfl,fun ys hy=>by rw [I.tuple_inj hy hq]; exact hx⟩,st',fun b hb=>(hf b hb).1⟩⟩
 done:=by
  intro X hP hw hK hc i pins s σ H E I hf st hg
  subst hP hw hK
  obtain ⟨xs,hq,hx⟩:=hg
  obtain ⟨its,rv,p,hz⟩:=I.tuple hq
  obtain ⟨f0,f1,f2,f3,f4,f5⟩:=hf it (by simp)
  have hl:=rv.length
  exact wpAny_pyNext_tuple_end (I.ok.hd hc) st (show s.heap.IsTuple a its.toArray from p) (by simp; lia) fun h' eb=>⟨rfl,I.turned (t':=s.toks) (fun b o hb e=>eb b o hb e) f0 f1 f3 f4 f5⟩
 self:=fun _ _ _ _ _ st h=>wpAny_pyIter_tupleiter st h
theorem zP {P:Program}{w:World}{K:PySem.W.Frag}{tg:Expr} (it:Addr) (lo:Int) (n:Nat):gF P w K tg (kX lo n) [it] it (fun i h=>IsRangeIter h it (lo+(i:Nat) * 1) ((n:Int) - (i:Nat)) 1) where
 mem:=by simp
 obj:=fun i h st b hb=>by
  have e:b=it:=by simpa using hb
  subst e
  exact⟨_,st,fun v z=>by
   have z':Data.fields _=Data.cell v:=z
   cases z'⟩
 keep:=fun i h h' st k=>k it (by simp) _ st
 item:=by
  intro X hP hw hK hc i pins s σ H E I hf st hg
  subst hP hw hK
  obtain ⟨f0,f1,f2,f3,f4,f5⟩:=hf it (by simp)
  have W:=Walks.range (prog:=X.prog) (w:=X.w) (I.ok.hd hc) it lo 1 n
  refine W.item i s _ _ hg st fun v h' tk hv st' kk=>?_
  obtain ⟨t,rfl⟩:=hv
  have I1:a5 X pins σ H { s with heap:=h',toks:=tk }:=I.turned (fun b o hb e=>kk b o (by simpa using hb) e) f0 f1 f3 f4 f5
  refine⟨_,rfl,nU (s:={ s with heap:=h',toks:=tk }) (n:="range_iterator") st' rfl rfl (by decide) ⟨.int (lo+i),H,I1,⟨t,?_⟩,⟨rfl,rfl⟩,st',fun b hb=>(hf b hb).1⟩⟩
  rw [Int.mul_one]
 done:=by
  intro X hP hw hK hc i pins s σ H E I hf st hg
  subst hP hw hK
  obtain ⟨f0,f1,f2,f3,f4,f5⟩:=hf it (by simp)
  exact wpAny_pyNext_range_end (I.ok.hd hc) st (by have:n<=i:=hg; lia) fun h' eb=>⟨rfl,I.turned (t':=s.toks) (fun b o hb e=>eb b o hb e) f0 f1 f3 f4 f5⟩
 self:=fun _ _ _ _ _ st h=>wpAny_pyIter_rangeiter st h
section
variable {X : Cx} {tg : Expr}
theorem zQ {pins:List (Addr × Obj)}{σ:St}{H:Hp}{s:Shared}{R:It->Hp->Prop}{E:Value->Shared->Prop}{lo hi:Int}{t u v:Tok}{tk:Nat} (I:a5 X pins σ H s) (h1 : -(2 ^ 62)<=lo) (h2:lo < 2 ^ 62) (h3 : -(2 ^ 62)<=hi) (h4:hi < 2 ^ 62)
  (q:R (kX lo (hi - lo).toNat) H):wpAny (model X.prog X.w) X.A (pyIter (.ref s.heap.objs.size)) (sE X pins σ tg R) E { s with heap:=s.heap.push { cls:=.type "range",data:=.fields #[.int lo t,.int hi u,.int 1 v] },toks:=tk }:=by
 refine wpAny_pyIter_range (IsRange.new ..) (small_one h1 h2 h3 h4) ?_
 have I1:a5 X pins σ H { s with heap:=s.heap.push { cls:=.type "range",data:=.fields #[.int lo t,.int hi u,.int 1 v] },toks:=tk }:=I.kept fun b o e=>ao3 _ e
 refine⟨(s.heap.push { cls:=.type "range",data:=.fields #[.int lo t,.int hi u,.int 1 v] }).objs.size,[(s.heap.push { cls:=.type "range",data:=.fields #[.int lo t,.int hi u,.int 1 v] }).objs.size],_,_,H,rfl,
  I1.kept (t':=tk) fun b o e=>ao3 _ e,zP _ lo (hi - lo).toNat,?_,fun b hb=>?_,q⟩
 ·have e1:lo+((0:Nat):Int) * 1=lo:=by simp
  have e2:(((hi - lo).toNat:Nat):Int) - ((0:Nat):Int)=Builtin.Range.rangeSize lo hi 1:=by rw [rangeSize_one]; split <;> lia
  show IsRangeIter _ _ (lo+((0:Nat):Int) * 1) ((((hi - lo).toNat:Nat):Int) - ((0:Nat):Int)) 1
  rw [e1,e2]
  exact aq8 _ rfl
 ·have e:b=(s.heap.push { cls:=.type "range",data:=.fields #[.int lo t,.int hi u,.int 1 v] }).objs.size:=by simpa using hb
  subst e
  exact I1.fpOk (ao8 _) (I1.hok.fresh (ao8 _))
noncomputable def sF (ta:TA):TI:=fun σ H R=>ta σ H fun vs H1=>∃ j:Int,vs = [.int j]/\-(2 ^ 62)<=j/\j < 2 ^ 62/\R (kX 0 j.toNat) H1
theorem zR {a:Expr}{ta:TA}{p pos:Pos} (hg:Gl X "range") (hm:X.mg "range" = none) (ha:PA X [a] ta) (hs:starEach [a] X.env = [(false,eval a X.env)]:=by rfl):PI X tg (.Call (.Name "range" p) [a] [] pos) (sF ta):=by
 intro pins s σ H R I h
 refine Call_ (jF I hg hm boot_range (PyProof.Rows.callWith_type1 (aJ (ha pos pins s σ H _ I h) fun us s1 ⟨vs,H1,I1,r1,q1⟩=>?_) hs rfl))
 obtain ⟨j,e,q1,q2,q⟩:=q1
 subst e
 cases r1 with
 | cons r rr=>
  cases rr
  obtain ⟨t,rfl⟩:=r
  exact call_range_1 (zQ I1 (by lia) (by lia) q1 q2 (by simpa using q))
noncomputable def sG (wi:TI) (g:TG) (tb:TS):TS:=fun D σ H=>wi σ H fun J H1=>∃ W:Nat->Nat->St->Hp->Prop,(∃ m,W 0 m σ H1)/\∀ i m σ H,W i m σ H->
 (J.stop i H/\D.nx σ H) ∨ (J.go i H/\∃ N:St->Hp->Prop,(∀ σ' H',N σ' H'->∃ m',m' < m/\W (i+1) m' σ' H')/\∀ x H',J.yld i H x H'->g x σ H' fun σ2 H2=>tb { D with nx:=N,ct:=N,bk:=D.nx } σ2 H2)
noncomputable def jG (fp:List Addr) (h:Heap):List (Addr × Obj):=fp.filterMap fun b=>(h.get? b).map fun o=>(b,o)
theorem kY {fp:List Addr}{h:Heap}{b:Addr}{o:Obj} (hb:b ∈ fp) (e:h.get? b=some o):(b,o) ∈ jG fp h:=List.mem_filterMap.mpr ⟨b,hb,by rw [e]; rfl⟩
theorem zS {fp:List Addr}{h:Heap}{p:Addr × Obj} (hp:p ∈ jG fp h):p.1 ∈ fp/\h.get? p.1=some p.2:=by
 obtain ⟨b,hb,e⟩:=List.mem_filterMap.mp hp
 cases q:h.get? b with
 | none=>rw [q] at e; cases e
 | some o=>
  rw [q] at e
  have e':(b,o)=p:=ar1 e
  subst e'
  exact⟨hb,q⟩
theorem a5.pinned {pins:List (Addr × Obj)}{σ:St}{H:Hp}{s:Shared}{fp:List Addr} (I:a5 X pins σ H s) (hf:∀ b ∈ fp,dI X pins H b) (ho:∀ b ∈ fp,∃ o,s.heap.get? b=some o/\∀ v,o.data ≠ .cell v):a5 X (pins ++ jG fp s.heap) σ H s:=
 I.pins_of fun p hp=>(au2.mp hp).elim (fun z=>I.pin p (ar0 _ z)) fun z=>by
  obtain ⟨hb,e⟩:=zS z
  obtain ⟨f0,f1,f2,_⟩:=hf p.1 hb
  obtain ⟨o,e',d⟩:=ho p.1 hb
  rw [e] at e'; cases e'
  exact⟨e,f0,f1,f2,d⟩
theorem a5.unpinned {pins pl:List (Addr × Obj)}{σ:St}{H:Hp}{s:Shared} (I:a5 X (pins ++ pl) σ H s):a5 X pins σ H s:=I.pins_of fun p hp=>I.pin p (ar0 _ (ax4 _ hp))
theorem zT {iter:Expr}{body:List Stmt}{wi:TI}{g:TG}{tb:TS}{pos:Pos} (hp:PassesOwn (model X.prog X.w) X.A X.env X.xe) (hc:X.calm=true) (hi:PI X tg iter wi) (hg:PG X tg g) (hb:cH X body tb)
  (hs:∀ x,foldedSetIterable iter X.env x=pure x:=by intro _; rfl):PS X (.For tg iter body [] pos) (sG wi g tb):=by
 intro pins s σ H D I h
 refine wpAny_For (aJ (hi pins s σ H _ I h) fun v s1 h1=>aJ h1 fun itv s2 h2=>?_) hs
 obtain ⟨it,fp,tn,J,H2,e,I2,T,st2,f2,W,⟨m0,w0⟩,turn⟩:=h2
 subst e
 have stat:∀ {H':Hp},(∀ b ∈ fp,H' b=none)->∀ b ∈ fp,dI X pins H' b:=fun hn b hb=>⟨hn b hb,(f2 b hb).2⟩
 refine codeAny_forLoop_any (fun n s'=>∃ i σ' H',a5 X pins σ' H' s'/\tn i s'.heap/\(∀ b ∈ fp,H' b=none)/\W i n σ' H') ?_ m0 ⟨0,σ,H2,I2,st2,fun b hb=>(f2 b hb).1,w0⟩
 rintro n s3 ⟨i,σ3,H3,I3,st3,fr3,w3⟩
 rcases turn i n σ3 H3 w3 with ⟨stop,qn⟩ | ⟨go,N,hN,step⟩
 ·refine wpAny_passesOwn hp (aJ (T.done X rfl rfl rfl hc i pins s3 σ3 H3 X.xe I3 (stat fr3) st3 stop) fun r s4 ⟨hr,I4⟩=>?_)
  subst hr
  exact wpAny_execs_nil ⟨σ3,H3,I4,qn⟩
 ·refine wpAny_passesOwn hp (aJ (T.item X rfl rfl rfl hc i pins s3 σ3 H3 X.xe I3 (stat fr3) st3 go) fun r s4 ⟨u,hr,h4⟩=>?_)
  subst hr
  refine wpAny_passesOwn hp (aJ h4 fun _ s5 ⟨x,H5,I5,r5,y5,st5,fr5⟩=>?_)
  have I5':=I5.pinned (stat fr5) (T.obj _ _ st5)
  refine wpAny_passesOwn hp (aJ (hg _ s5 σ3 H5 x u _ I5' r5 (step x H5 y5)) fun _ s6 ⟨σ6,H6,I6,q6⟩=>?_)
  refine wpAny_passesOwn hp (aJ (hb _ s6 σ6 H6 _ I6 q6) fun f s7 q7=>?_)
  have again:∀ {σ7:St}{H7:Hp},a5 X (pins ++ jG fp s5.heap) σ7 H7 s7->N σ7 H7->∃ m,m < n/\∃ i σ' H',a5 X pins σ' H' s7/\tn i s7.heap/\(∀ b ∈ fp,H' b=none)/\W i m σ' H':=fun {σ7 H7} I7 n7=>by
   obtain ⟨m',hm,w7⟩:=hN σ7 H7 n7
   refine⟨m',hm,i+1,σ7,H7,I7.unpinned,T.keep _ _ _ st5 fun b hb o e=>(I7.pin (b,o) (ar0 _ (ar0 _ (kY hb e)))).1,fun b hb=>?_,w7⟩
   obtain ⟨o,e,d⟩:=T.obj _ _ st5 b hb
   exact (I7.pin (b,o) (ar0 _ (ar0 _ (kY hb e)))).2.1
  cases f with
  | next=>obtain ⟨σ7,H7,I7,n7⟩:=q7; exact again I7 n7
  | cont=>obtain ⟨σ7,H7,I7,n7⟩:=q7; exact again I7 n7
  | brk=>obtain ⟨σ7,H7,I7,q7⟩:=q7; exact⟨σ7,H7,I7.unpinned,q7⟩
  | ret v=>obtain ⟨x7,σ7,H7,I7,r7,q7⟩:=q7; exact⟨x7,σ7,H7,I7.unpinned,r7,q7⟩
end
noncomputable abbrev R2:=V->V->Hp->VK->Prop
noncomputable def bA (X:Cx) (f:Value->Value->Sem Value) (r:R2):Prop:=
 ∀ (pins:List (Addr × Obj)) (s:Shared) (σ:St) (H:Hp) (x y:V) (v u:Value) (Q:VK),a5 X pins σ H s->aP x v->aP y u->r x y H Q->
  wpAny (model X.prog X.w) X.A (f v u) (EP X pins σ Q) X.xe s
noncomputable def nX (X:Cx) (f:Value->Sem Value) (r:V->Hp->VK->Prop):Prop:=
 ∀ (pins:List (Addr × Obj)) (s:Shared) (σ:St) (H:Hp) (x:V) (v:Value) (Q:VK),a5 X pins σ H s->aP x v->r x H Q->
  wpAny (model X.prog X.w) X.A (f v) (EP X pins σ Q) X.xe s
noncomputable def bV (X:Cx) (f:Value) (r:List V->Hp->VK->Prop):Prop:=
 ∀ (pins:List (Addr × Obj)) (s:Shared) (σ:St) (H:Hp) (xs:List V) (us:List Value) (Q:VK),a5 X pins σ H s->aF xs us->r xs H Q->
  wpAny (model X.prog X.w) X.A (call f us) (EP X pins σ Q) X.xe s
noncomputable def jH (r:R2) (ta tb:TE):TE:=fun σ H Q=>ta σ H fun x H1=>tb σ H1 fun y H2=>r x y H2 Q
noncomputable def zU (r:V->Hp->VK->Prop) (ta:TE):TE:=fun σ H Q=>ta σ H fun x H1=>r x H1 Q
noncomputable def rI (C:Int->Int->Prop) (g:Int->Int->V):R2:=fun x y H Q=>∃ i j,x = .int i/\y = .int j/\C i j/\Q (g i j) H
noncomputable def eV (g:Int->Int->V):R2:=fun x y H Q=>∃ i j,x = .int i/\y = .int j/\Q (g i j) H
noncomputable def rU (g:Int->V):V->Hp->VK->Prop:=fun x H Q=>∃ i,x = .int i/\Q (g i) H
section
variable {X : Cx} {a b c : Expr} {ta tb tc : TE} {pos : Pos}
theorem nY (ha:PE X a ta) (hb:PE X b tb) {pins:List (Addr × Obj)}{s:Shared}{σ:St}{H:Hp}{R:V->V->Hp->Prop} (I:a5 X pins σ H s)
  (h:ta σ H fun x H1=>tb σ H1 fun y H2=>R x y H2) {Q:Value->Shared->Prop}{f:Value->Value->Sem Value}
  (hf:∀ v u s2 x y H2,a5 X pins σ H2 s2->aP x v->aP y u->R x y H2->wpAny (model X.prog X.w) X.A (f v u) Q X.xe s2) :
  wpAny (model X.prog X.w) X.A (eval a X.env) (fun v s₁=>wpAny (model X.prog X.w) X.A (eval b X.env) (fun u s₂=>wpAny (model X.prog X.w) X.A (f v u) Q X.xe s₂) X.xe s₁) X.xe s:=by
 refine aJ (ha pins s σ H _ I h) fun v s1 ⟨x,H1,I1,r1,q1⟩=>?_
 refine aJ (hb pins s1 σ H1 _ I1 q1) fun u s2 ⟨y,H2,I2,r2,q2⟩=>?_
 exact hf v u s2 x y H2 I2 r1 r2 q2
theorem zV {op:Operator}{r:R2} (ho:bA X (binaryOp op) r) (ha:PE X a ta) (hb:PE X b tb):PE X (.BinOp a op b pos) (jH r ta tb):=by
 intro pins s σ H Q I h
 exact wpAny_BinOp (nY ha hb I h fun v u s2 x y H2 I2 rx ry q=>ho pins s2 σ H2 x y v u Q I2 rx ry q)
theorem zW {op:UnaryOp}{r:V->Hp->VK->Prop} (ho:nX X (unaryOp op) r) (ha:PE X a ta):PE X (.UnaryOp op a pos) (zU r ta):=by
 intro pins s σ H Q I h
 exact UnaryOp_ (aJ (ha pins s σ H _ I h) fun v s1 ⟨x,H1,I1,r1,q1⟩=>ho pins s1 σ H1 x v Q I1 r1 q1)
theorem kZ {f:Value->Value->Sem Value}{C:Int->Int->Prop}{g:Int->Int->Int}
  (rule:∀ (i j:Int) (t u:Tok) (s:Shared) (Q:Value->Shared->Prop) (E:Value->Shared->Prop),C i j->Q (.int (g i j) s.toks) { s with toks:=s.toks+1 }->wpAny (model X.prog X.w) X.A (f (.int i t) (.int j u)) Q E s) :
  bA X f (rI C fun i j=>.int (g i j)):=by
 intro pins s σ H x y v u Q I rx ry h
 obtain ⟨i,j,rfl,rfl,hc,q⟩:=h
 obtain ⟨t,rfl⟩:=rx
 obtain ⟨t',rfl⟩:=ry
 exact rule i j t t' s _ _ hc ⟨.int (g i j),H,I.tok _,⟨_,rfl⟩,q⟩
theorem sH {f:Value->Value->Sem Value}{g:Int->Int->Int}
  (rule:∀ (i j:Int) (t u:Tok) (s:Shared) (Q:Value->Shared->Prop) (E:Value->Shared->Prop),Q (.int (g i j) s.toks) { s with toks:=s.toks+1 }->wpAny (model X.prog X.w) X.A (f (.int i t) (.int j u)) Q E s) :
  bA X f (eV fun i j=>.int (g i j)):=by
 intro pins s σ H x y v u Q I rx ry h
 obtain ⟨i,j,rfl,rfl,q⟩:=h
 obtain ⟨t,rfl⟩:=rx
 obtain ⟨t',rfl⟩:=ry
 exact rule i j t t' s _ _ ⟨.int (g i j),H,I.tok _,⟨_,rfl⟩,q⟩
theorem nZ {f:Value->Value->Sem Value}{g:Int->Int->Bool}
  (rule:∀ (i j:Int) (t u:Tok) (s:Shared) (Q:Value->Shared->Prop) (E:Value->Shared->Prop),Q (.bool (g i j)) s->wpAny (model X.prog X.w) X.A (f (.int i t) (.int j u)) Q E s) :
  bA X f (eV fun i j=>.bl (g i j)):=by
 intro pins s σ H x y v u Q I rx ry h
 obtain ⟨i,j,rfl,rfl,q⟩:=h
 obtain ⟨t,rfl⟩:=rx
 obtain ⟨t',rfl⟩:=ry
 exact rule i j t t' s _ _ ⟨.bl (g i j),H,I,rfl,q⟩
noncomputable def o0 (i j:Int):Prop:=0 < j/\j < 1073741824
noncomputable def o3 (i j:Int):Prop:=0<=j/\j<=1000000/\i.natAbs < 2 ^ 64
noncomputable def jI (i j:Int):Prop:=(-(2 ^ 64) < i/\i < 2 ^ 64) ∨ (-(2 ^ 64) < j/\j < 2 ^ 64)
theorem jI.ok {i j:Int} (h:jI i j):IntMulOk i j:=by
 rcases h with ⟨h1,h2⟩ | ⟨h1,h2⟩
 ·exact .of_left (intBits_le_64 h1 h2)
 ·exact .of_right (intBits_le_64 h1 h2)
theorem zX:bA X (binaryOp .Add) (eV fun i j=>.int (i+j)):=sH fun _ _ _ _ _ _ _ q=>add_int q
theorem zY:bA X (binaryOp .Sub) (eV fun i j=>.int (i - j)):=sH fun _ _ _ _ _ _ _ q=>sub_int q
theorem zZ:bA X (binaryOp .Mult) (rI jI fun i j=>.int (i * j)):=kZ fun _ _ _ _ _ _ _ hc q=>mul_int q hc.ok
theorem A0:bA X (binaryOp .FloorDiv) (rI o0 fun i j=>.int (i / j)):=kZ fun i j _ _ _ _ _ hc q=>by
 have h1:(0:Int) < j:=hc.1
 have h2:j < 1073741824:=hc.2
 exact floordiv_int (by lia) (by rw [Int.fdiv_eq_ediv_of_nonneg i (by lia)]; exact q) (.inl (PyProof.noPylong_small (by lia)))
theorem A1:bA X (binaryOp .Mod) (rI (fun _ j=>0 < j) fun i j=>.int (i % j)):=kZ fun i j _ _ _ _ _ hc q=>by
 have h1:(0:Int) < j:=hc
 exact mod_int' (by lia) (by rw [Int.fmod_eq_emod_of_nonneg i (by lia)]; exact q)
theorem A2:bA X (binaryOp .Pow) (rI o3 fun i j=>.int (i ^ j.toNat)):=kZ fun _ _ _ _ _ _ _ hc q=>pow_int_small hc.1 hc.2.1 hc.2.2 q
theorem A3 {f:Value->Sem Value}{g:Int->Int}
  (rule:∀ (i:Int) (t:Tok) (s:Shared) (Q:Value->Shared->Prop) (E:Value->Shared->Prop),Q (.int (g i) s.toks) { s with toks:=s.toks+1 }->wpAny (model X.prog X.w) X.A (f (.int i t)) Q E s) :
  nX X f (rU fun i=>.int (g i)):=by
 intro pins s σ H x v Q I rx h
 obtain ⟨i,rfl,q⟩:=h
 obtain ⟨t,rfl⟩:=rx
 exact rule i t s _ _ ⟨.int (g i),H,I.tok _,⟨_,rfl⟩,q⟩
theorem A4:nX X (unaryOp .USub) (rU fun i=>.int (-i)):=A3 fun _ _ _ _ _ q=>neg_int q
end
noncomputable def A5:V->V->Bool
 | .non,.non=>true | .non,.int _=>true | .int _,.non=>true | .non,.bl _=>true | .bl _,.non=>true | .non,.str _=>true | .str _,.non=>true
 | .int _,.int _=>true | .bl _,.bl _=>true | .str _,.str _=>true | .byt _,.byt _=>true
 | .int _,.str _=>true | .str _,.int _=>true | .bl _,.str _=>true | .str _,.bl _=>true
 | _,_=>false
noncomputable def sI:R2:=fun x y H Q=>A5 x y=true/\Q (.bl (decide (x=y))) H
theorem A6 {i j:Int}:decide (V.int i=V.int j)=(i == j):=by
 rw [az8]
 simp
theorem A7 {i j:Bool}:decide (V.bl i=V.bl j)=(i == j):=by
 rw [az8]
 simp
theorem A8 {i j:Str}:decide (V.str i=V.str j)=(i == j):=by
 rw [az8]
 simp
theorem A9 {i j:Array UInt8}:decide (V.byt i=V.byt j)=(i.toList == j.toList):=by
 rw [az8]
 cases i
 cases j
 simp
section
variable {X : Cx} {a b c : Expr} {ta tb tc : TE} {pos : Pos}
theorem cZ {pins:List (Addr × Obj)}{σ:St}{H:Hp}{s:Shared}{Q:VK}{k k':Bool} (I:a5 X pins σ H s) (q:Q (.bl k) H) (e:k=k'):EP X pins σ Q (.bool k') s:=by
 subst e
 exact⟨.bl k,H,I,rfl,q⟩
theorem B0:bA X (compareOp .Eq) sI:=by
 intro pins s σ H x y v u Q I rx ry h
 obtain ⟨hs,q⟩:=h
 cases x with
 | non=>
  cases rx
  cases y with
  | non=>cases ry; exact PySem.EqNone.eq_none_none (cZ I q (by simp))
  | bl j=>cases ry; exact PySem.EqNone.eq_none_bool (cZ I q (by simp))
  | int j=>obtain ⟨t',rfl⟩:=ry; exact PySem.EqNone.eq_none_int (cZ I q (by simp))
  | str j=>obtain ⟨t',rfl⟩:=ry; exact PySem.EqNone.eq_none_str (cZ I q (by simp))
  | _=>exact absurd (show false=true from hs) aq5
 | bl i=>
  cases rx
  cases y with
  | non=>cases ry; exact PySem.EqNone.eq_bool_none (cZ I q (by simp))
  | bl j=>cases ry; exact eq_bool (cZ I q A7)
  | str j=>obtain ⟨t',rfl⟩:=ry; exact PySem.EqMixed.eq_bool_str (cZ I q (by simp))
  | _=>exact absurd (show false=true from hs) aq5
 | int i=>
  obtain ⟨t,rfl⟩:=rx
  cases y with
  | non=>cases ry; exact PySem.EqNone.eq_int_none (cZ I q (by simp))
  | int j=>obtain ⟨t',rfl⟩:=ry; exact eq_int (cZ I q A6)
  | str j=>obtain ⟨t',rfl⟩:=ry; exact PySem.EqMixed.eq_int_str (cZ I q (by simp))
  | _=>exact absurd (show false=true from hs) aq5
 | str i=>
  obtain ⟨t,rfl⟩:=rx
  cases y with
  | non=>cases ry; exact PySem.EqNone.eq_str_none (cZ I q (by simp))
  | bl j=>cases ry; exact PySem.EqMixed.eq_str_bool (cZ I q (by simp))
  | int j=>obtain ⟨t',rfl⟩:=ry; exact PySem.EqMixed.eq_str_int (cZ I q (by simp))
  | str j=>obtain ⟨t',rfl⟩:=ry; exact eq_str (cZ I q A8)
  | _=>exact absurd (show false=true from hs) aq5
 | byt i=>
  obtain ⟨t,rfl⟩:=rx
  cases y with
  | byt j=>obtain ⟨t',rfl⟩:=ry; exact PySem.W.eq_bytes (cZ I q A9)
  | _=>exact absurd (show false=true from hs) aq5
 | _=>cases y <;> exact absurd (show false=true from hs) aq5
theorem sJ:bA X (compareOp .Lt) (eV fun i j=>.bl (decide (i < j))):=nZ fun _ _ _ _ _ _ _ q=>lt_int q
theorem B1:bA X (compareOp .Gt) (eV fun i j=>.bl (decide (j < i))):=nZ fun _ _ _ _ _ _ _ q=>gt_int q
theorem B2:bA X (compareOp .GtE) (eV fun i j=>.bl (decide (j<=i))):=nZ fun _ _ _ _ _ _ _ q=>ge_int q
theorem iK (b:Expr) {op:CmpOp} (h:op ≠ .In:=by decide) (h2:op ≠ .NotIn:=by decide):behindInMarks op b=false:=by
 have e1:(op == CmpOp.In)=false:=by cases op <;> first | rfl | exact absurd rfl h
 have e2:(op == CmpOp.NotIn)=false:=by cases op <;> first | rfl | exact absurd rfl h2
 cases b <;> simp [behindInMarks,e1,e2]
theorem B3 {op:CmpOp}{r:R2} (ho:bA X (compareOp op) r) (ha:PE X a ta) (hb:PE X b tb) (hm:behindInMarks op b=false):PE X (.Compare a [op] [b] pos) (jH r ta tb):=by
 intro pins s σ H Q I h
 exact wpAny_Compare1 (nY ha hb I h fun v u s2 x y H2 I2 rx ry q=>ho pins s2 σ H2 x y v u Q I2 rx ry q) hm
noncomputable def B4 (t:TE):TT:=fun σ H Q=>t σ H fun x H'=>∃ k,x = .bl k/\Q k H'
theorem B5 {op:CmpOp}{r:R2} (ho:bA X (compareOp op) r) (ha:PE X a ta) (hb:PE X b tb) (hm:behindInMarks op b=false):PT X (.Compare a [op] [b] pos) (B4 (jH r ta tb)):=by
 intro pins s σ H Q I h
 refine wpAny_isTrue_Compare1 (aJ (ha pins s σ H _ I h) fun v s1 ⟨x,H1,I1,r1,q1⟩=>aJ (hb pins s1 σ H1 _ I1 q1) fun u s2 ⟨y,H2,I2,r2,q2⟩=>
  aJ (ho pins s2 σ H2 x y v u _ I2 r1 r2 q2) fun c s3 ⟨z,H3,I3,r3,k,e,q3⟩=>?_) hm
 subst e
 cases r3
 exact az9 ⟨H3,I3,q3⟩
theorem l8:(sizeLine:Nat) < 2 ^ 63:=by rw [sizeLine_eq]; decide
theorem eW {x:V}{us:List Value} (r:aF [x] us):∃ u,us = [u]/\aP x u:=by
 cases r with
 | cons r1 r2=>cases r2; exact⟨_,rfl,r1⟩
theorem o4 {x y:V}{us:List Value} (r:aF [x,y] us):∃ u w',us = [u,w']/\aP x u/\aP y w':=by
 cases r with
 | cons r1 r2=>
  cases r2 with
  | cons r3 r4=>cases r4; exact⟨_,_,rfl,r1,r3⟩
end
structure o7 (h:Heap) (x dx C:Addr) (mA:Str->Option Value):Prop where
 obj:h.get? x=some (PySem.W.instObj C dx)
 ns:h.Ns1 dx mA
 ne:dx ≠ x
theorem B6 {h:Heap}{dx:Addr}{mA:Str->Option Value} (n:h.Ns1 dx mA):∃ od,h.get? dx=some od/\∀ name,PySem.W.lookIn name od=some (mA name):=by
 obtain ⟨o,es,ep,ho,hd,hk,_,hm⟩:=n
 refine⟨o,ho,fun name=>?_⟩
 have e:=hm name
 unfold nsFind findBy at e
 rw [<- Array.find?_toList] at e
 unfold PySem.W.lookIn
 rw [hd]
 dsimp only
 split
 ·rename_i y q
  rw [q] at e
  exact congrArg some e
 ·rename_i q
  rw [q] at e
  have a:es.toList.any (·.refKey)=false:=by
   rw [List.any_eq_false]
   intro y hy
   obtain ⟨z,t,hkey⟩:=hk y (Array.mem_toList_iff.mp hy)
   simp [DictEntry.refKey,hkey]
  have a' : ¬ es.toList.any (·.refKey)=true:=by rw [a]; exact aq5
  rw [if_neg a']
  exact congrArg some e
theorem o7.look {h:Heap}{x dx C:Addr}{mA:Str->Option Value} (I:o7 h x dx C mA):∃ od,PySem.W.InstAt h x (PySem.W.instObj C dx) C (some od)/\∀ name,PySem.W.lookIn name od=some (mA name):=
 let ⟨od,ho,hl⟩:=B6 I.ns
 ⟨od,⟨I.obj,rfl,rfl,ho⟩,hl⟩
section
variable {P : Program} {w : World} {H H' : Hp} {h h' : Heap} {a C dx : Addr} {fs fs' : List (Str × V)}
theorem B7 (hok:bD P w H h) (e:H a=some (.ins C dx fs)):∃ mA,o7 h a dx C mA/\(∀ f,nO (fs.lookup f) (mA f))/\PySem.Within mA (fs.map (·.1))/\fs.length<=1000/\H dx=some (.own a):=by
 obtain ⟨d,z,ne,ob,mA,n,r,q⟩:=(show bM P w H h a (.ins C dx fs) from hok a _ e)
 exact⟨mA,⟨ob,n,ne⟩,r,q,z,d⟩
end
structure o8 (K:PySem.W.Frag) (C:Addr):Prop where
 pg:PySem.W.plainGet K C Str.empty=true
 hd:PySem.W.hasDictIn K C=true
 po:PySem.W.plainOver K C=true
 sa:PySem.W.findIn K (.ref C) "__setattr__" = some (some (.builtin "object.__setattr__"))
theorem o8.get {K:PySem.W.Frag}{C:Addr} (c:o8 K C) (f:Str):PySem.W.plainGet K C f=true:=c.pg
section
variable {X : Cx} {pins : List (Addr × Obj)} {σ : St} {H : Hp} {s : Shared} {A : Around} {E : Value → Shared → Prop} {Q : Value → Shared → Prop} {c : Value} {b : Bool}
inductive dC (K:PySem.W.Frag) (H:Hp):V->Value->Prop where
 | non:dC K H .non (.type "NoneType")
 | bl (x:Bool):dC K H (.bl x) (.type "bool")
 | int (i:Int):dC K H (.int i) (.type "int")
 | str (x:Str):dC K H (.str x) (.type "str")
 | flt (x:UInt64):dC K H (.flt x) (.type "float")
 | lst {a:Addr}{xs:List V} (e:H a=some (.lst xs)):dC K H (.ref a) (.type "list")
 | frz {a:Addr}{o:Obj}{xs:List V} (e:H a=some (.frz o (.lst xs))):dC K H (.ref a) (.type "list")
 | tup {a:Addr}{xs:List V} (e:H a=some (.tup xs)):dC K H (.ref a) (.type "tuple")
 | dK {a:Addr}{kvs:List (aZ × V)} (e:H a=some (.dK kvs)):dC K H (.ref a) (.type "dict")
 | dT {a:Addr}{kvs:List (List aZ × V)} (e:H a=some (.dT kvs)):dC K H (.ref a) (.type "dict")
 | ins {a C dx:Addr}{fs:List (Str × V)} (e:H a=some (.ins C dx fs)) (cl:o8 K C) (ha:PySem.W.findIn K (.ref C) "__class__" = some (some (.builtin "object.__class__")))
   (hn:PySem.W.specialIn K (.builtin "object.__class__") "__get__" = some (some (.builtin "getset_descriptor.__get__"))) (htk:PySem.W.takesIn K (.builtin "object.__class__")=some true)
   (hm:PySem.W.mroIn K C (.type "object")=some true):dC K H (.ref a) (.ref C)
theorem B8 {x:V}{u t:Value} (I:a5 X pins σ H s) (rx:aP x u) (ty:dC X.K H x t) (e:PySem.W.kitOne X.K t c=some b) (h:∀ tk,Q (.bool b) { s with toks:=tk }) :
  wpAny (model X.prog X.w) A (call (.builtin "isinstance") [u,c]) Q E s:=by
 cases ty with
 | non=>cases (show u=Value.none from rx); exact as4 PySem.W.kitx_none I.kIn True.intro e (fun z=>nomatch z) h
 | bl y=>cases (show u=Value.bool y from rx); exact as4 PySem.W.kitx_bool I.kIn True.intro e (fun z=>nomatch z) h
 | int i=>obtain ⟨t,q⟩:=(show ∃ t,u=Value.int i t from rx); cases q; exact as4 PySem.W.kitx_int I.kIn True.intro e (fun z=>nomatch z) h
 | str y=>obtain ⟨t,q⟩:=(show ∃ t,u=Value.str y t from rx); cases q; exact as4 PySem.W.kitx_str I.kIn True.intro e (fun z=>nomatch z) h
 | flt y=>obtain ⟨t,q⟩:=(show ∃ t,u=Value.float y t from rx); cases q; exact as4 PySem.W.kitx_float I.kIn True.intro e (fun z=>nomatch z) h
 | @lst a xs ea=>
  cases (show u=Value.ref a from rx)
  obtain ⟨_,_,n,_,h1⟩:=(show bM X.prog X.w H s.heap a (.lst xs) from I.hok a _ ea)
  exact as4 PySem.W.kitx_list I.kIn ⟨_,h1,rfl⟩ e (fun z=>nomatch z) h
 | @frz a ob xs ea=>
  cases (show u=Value.ref a from rx)
  obtain ⟨_,_,_,n,_,h1⟩:=(show bM X.prog X.w H s.heap a (.frz ob (.lst xs)) from I.hok a _ ea)
  exact as4 PySem.W.kitx_list I.kIn ⟨_,h1,rfl⟩ e (fun z=>nomatch z) h
 | @tup a xs ea=>
  cases (show u=Value.ref a from rx)
  obtain ⟨_,_,_,p,_⟩:=(show bM X.prog X.w H s.heap a (.tup xs) from I.hok a _ ea)
  obtain ⟨o,h1,h2,_⟩:=p
  exact as4 PySem.W.kitx_tuple I.kIn ⟨o,h1,h2⟩ e (fun z=>nomatch z) h
 | @dK a kvs ea=>
  cases (show u=Value.ref a from rx)
  obtain ⟨_,_,vs,_,p⟩:=(show bM X.prog X.w H s.heap a (.dK kvs) from I.hok a _ ea)
  obtain ⟨o,es,ep,h1,h2,_⟩:=p
  exact as4 PySem.W.kitx_dict I.kIn ⟨o,h1,h2.1⟩ e (fun z=>nomatch z) h
 | @dT a kvs ea=>
  cases (show u=Value.ref a from rx)
  obtain ⟨_,_,xs,_,o,es,ep,h1,h2,_⟩:=(show bM X.prog X.w H s.heap a (.dT kvs) from I.hok a _ ea)
  exact as4 PySem.W.kitx_dict I.kIn ⟨o,h1,h2.1⟩ e (fun z=>nomatch z) h
 | @ins a C dx fs ea cl ha hn htk hm=>
  cases (show u=Value.ref a from rx)
  obtain ⟨mA,O,_⟩:=B7 I.hok ea
  obtain ⟨od,J,_⟩:=O.look
  exact as4 (PySem.W.kitx_own (cl.get _) cl.hd ha hn htk hm) I.kIn J e (fun z=>nomatch z) h
end
structure bB (k:Nat) (A:Around):Prop where
 hd:A.handled=none
 dp:A.depth+3 * k+5 < recursionLimit
 un:A.units+16 * k+200 < cLine
theorem bB.mono {j k:Nat}{A:Around} (r:bB k A) (h:j<=k):bB j A:=⟨r.hd,by have:=r.dp; lia,by have:=r.un; lia⟩
theorem bB.deeper {k:Nat}{A:Around} (r:bB (k+1) A) (env:Env):bB k (A.deeper env):=
 ⟨r.hd,by have:=r.dp; show A.depth+1+3 * k+5 < _; lia,by have:=r.un; show A.units+3+16 * k+200 < _; lia⟩
theorem bB.depth {k:Nat}{A:Around} (r:bB k A):A.depth < recursionLimit:=by have:=r.dp; lia
theorem bB.units {k:Nat}{A:Around} (r:bB k A):A.units+64 < cLine:=by have:=r.un; lia
noncomputable def jJ:TA:=fun _ H Q=>Q [] H
noncomputable def iL (ta:TE) (tr:TA):TA:=fun σ H Q=>ta σ H fun x H1=>tr σ H1 fun xs H2=>Q (x :: xs) H2
section
variable {X : Cx} {e : Expr} {es : List Expr} {te : TE} {t : TA} {pos : Pos}
theorem iM:PA X [] jJ:=fun _ _ _ _ H Q I h=>Calls.spliced_nil ⟨[],H,I,.nil,h⟩
theorem fO (ha:PE X e te) (hr:PA X es t) (hs:starEach (e :: es) X.env=(false,eval e X.env) :: starEach es X.env:=by rfl):PA X (e :: es) (iL te t):=by
 intro pos pins s σ H Q I h
 rw [hs]
 show wpAny _ _ (spliced ((false,eval e X.env) :: backTo pos (starEach es X.env))) _ _ s
 refine Calls.spliced_cons (aJ (ha pins s σ H _ I h) fun u s1 ⟨x,H1,I1,r1,q1⟩=>?_)
 exact aJ (hr pos pins s1 σ H1 _ I1 q1) fun us s2 ⟨xs,H2,I2,r2,q2⟩=>⟨x :: xs,H2,I2,.cons r1 r2,q2⟩
noncomputable def sK (t:TA):TE:=fun σ H Q=>t σ H fun xs H1=>xs.length<=sizeLine/\∀ p,H1 p=none->Q (.ref p) (upd H1 p (.tup xs))
noncomputable def sL (t:TA):TE:=fun σ H Q=>t σ H fun xs H1=>xs.length<=sizeLine/\∀ p,H1 p=none->Q (.ref p) (upd H1 p (.lst xs))
theorem B9 {x1} (h:PA X es t):PE X (.Tuple es x1 pos) (sK t):=by
 intro pins s σ H Q I hq
 refine wpAny_Tuple_spliced (aJ (h pos pins s σ H _ I hq) fun us s1 ⟨xs,H1,I1,r,z,q⟩=>⟨by rw [<- r.length]; exact z,?_⟩)
 have hf:H1 s1.heap.objs.size=none:=I1.hok.fresh (ao8 _)
 refine⟨.ref s1.heap.objs.size,upd H1 s1.heap.objs.size (.tup xs),I1.laid (t':=s1.toks) (fun b u e=>ao3 _ e) (ao8 _) ?_,rfl,q _ hf⟩
 exact⟨z,us,r,⟨_,aq8 _ rfl,rfl,_,rfl⟩,dY.new _ _ rfl⟩
theorem C0 (h:PA X es t):PE X (.List es pos) (sL t):=by
 intro pins s σ H Q I hq
 refine wpAny_List_spliced (aJ (h pos pins s σ H _ I hq) fun us s1 ⟨xs,H1,I1,r,z,q⟩=>⟨by rw [<- r.length]; exact z,?_⟩)
 have hf:H1 s1.heap.objs.size=none:=I1.hok.fresh (ao8 _)
 refine⟨.ref s1.heap.objs.size,upd H1 s1.heap.objs.size (.lst xs),I1.laid (t':=s1.toks) (fun b u e=>ao3 _ e) (ao8 _) ?_,rfl,q _ hf⟩
 exact⟨z,us,0,r,aq8 _ rfl⟩
end
noncomputable abbrev Sp:=List V->Hp->VK->XK->Prop
noncomputable abbrev dZ:=List Env->Hp->Shared->XK->Value->Shared->Prop
structure l9 (P:Program) (w:World) (K:PySem.W.Frag) (mg:Str->Option Value) (base:Heap) (A:Around) (outer:List Env) (s:Shared) (H:Hp):Prop where
 frames:A.frames=some outer
 mod:Mod K mg base
 bs:∀ b o,base.get? b=some o->s.heap.get? b=some o/\H b=none
 bsz:base.objs.size<=s.heap.objs.size
 funs:s.heap.FunFrames base outer
 frf:∀ b ∈ b6 outer,H b=none
 hok:bD P w H s.heap
 bare:AllBare s.gens
noncomputable def CE (outer:List Env) (P:Program) (w:World) (H:Hp) (s:Shared) (Q:VK) (u:Value) (s':Shared):Prop:=
 ∃ v H',s'.os=s.os/\AllBare s'.gens/\Un (b6 outer) [] H H' s.heap s'.heap/\bD P w H' s'.heap/\aP v u/\Q v H'
noncomputable def CR (CX:dZ) (outer:List Env) (P:Program) (w:World) (H:Hp) (s:Shared) (Q:VK) (E:XK) (r:Result) (s':Shared):Prop:=
 match r with
 | .ok (.ret u)=>CE outer P w H s Q u s'
 | .ok _=>False
 | .error e=>CX outer H s E e s'
structure bZ (P:Program) (w:World) (K:PySem.W.Frag) (mg:Str->Option Value) (base:Heap) (CX:dZ) (k:Nat) (f:Addr) (fd:FuncData) (ps:List Str) (sp:Sp):Prop where
 len:∀ vs H Q E,sp vs H Q E->vs.length=ps.length
 run:∀ (A:Around) (outer:List Env) (s:Shared) (H:Hp) (args:Args) (us:List Value) (vs:List V) (Q:VK) (E:XK),bB k A->l9 P w K mg base A outer s H->BindsTo s fd args (ps.zip us)->aF vs us->sp vs H Q E->
  codeAny (model P w) A (.call (.ref f) args) (CR CX outer P w H s Q E) s
theorem bZ.imp {P:Program}{w:World}{K:PySem.W.Frag}{mg:Str->Option Value}{base:Heap}{CX:dZ}{k:Nat}{f:Addr}{fd:FuncData}{ps:List Str}{sp sp':Sp} (F:bZ P w K mg base CX k f fd ps sp)
  (h:∀ vs H Q E,sp' vs H Q E->sp vs H Q E):bZ P w K mg base CX k f fd ps sp':=
 ⟨fun vs H Q E q=>F.len vs H Q E (h _ _ _ _ q),fun A outer s H args us vs Q E hr he hb hv hs=>F.run A outer s H args us vs Q E hr he hb hv (h _ _ _ _ hs)⟩
section
variable {X : Cx} {pins : List (Addr × Obj)} {σ : St} {H : Hp} {s s' : Shared}
theorem a5.env0 (I:a5 X pins σ H s):l9 X.prog X.w X.K X.mg X.base X.A X.stack s H:=
 ⟨I.ok.frames,I.ok.mod,I.bs,as7 I.ok.bsz I.sz,I.stack,I.stkFree,I.hok,I.bare⟩
theorem a5.after {Q:VK}{u:Value} (I:a5 X pins σ H s) (h:CE X.stack X.prog X.w H s Q u s'):EP X pins σ Q u s':=by
 obtain ⟨v,H',os,bare,un,hok,r,q⟩:=h
 obtain ⟨hh,g,d,t,os'⟩:=s'
 obtain rfl:os'=s.os:=os
 exact⟨v,H',I.call (h':=hh) (g':=g) (d':=d) (t':=t) (ch:=[]) un hok bare (fun b z=>absurd z (by simp)),r,q⟩
end
noncomputable def o9 (sp:Sp) (dvs:List V) (E:XK) (t:TA):TE:=fun σ H Q=>t σ H fun vs H1=>sp (vs ++ dvs) H1 Q E
noncomputable def fP (K:PySem.W.Frag) (fd:FuncData) (ps:List Str) (ds:List Value):Prop:=
 ∀ (s:Shared) (us:List Value),K.In s.heap->(us ++ ds).length=ps.length->BindsTo s fd ⟨us,[]⟩ (ps.zip (us ++ ds))
theorem fP.all {K:PySem.W.Frag}{fd:FuncData}{ps:List Str} (h:∀ us:List Value,us.length=ps.length->bindArgs fd ⟨us,[]⟩=pure (ps.zip us)):fP K fd ps []:=fun s us _ hl=>by
 rw [as5] at hl ⊢
 exact .of_eq (h us hl)
noncomputable def jK (CX:dZ) (X:Cx) (E:XK):Prop:=∀ (pins:List (Addr × Obj)) (σ:St) (H:Hp) (s:Shared) (e:Value) (s':Shared),a5 X pins σ H s->CX X.stack H s E e s'->X.xe e s'
section
variable {X : Cx} {CX : dZ} {k : Nat} {f C : Addr} {fd : FuncData} {ps : List Str} {sp : Sp} {dvs : List V} {ds : List Value} {E : XK} {x m : Str} {p pos apos : Pos} {e o : Expr} {es : List Expr} {ta : TE} {t : TA}
theorem C1 {pins:List (Addr × Obj)}{σ:St}{H:Hp}{s:Shared}{Q:VK}{us:List Value}{vs:List V} (F:bZ X.prog X.w X.K X.mg X.base CX k f fd ps sp) (hr:bB k X.A) (hb:fP X.K fd ps ds) (hd:aF dvs ds) (hx:jK CX X E)
  (I:a5 X pins σ H s) (r:aF vs us) (h:sp (vs ++ dvs) H Q E):wpAny (model X.prog X.w) X.A (call (.ref f) us) (EP X pins σ Q) X.xe s:=by
 have r2:aF (vs ++ dvs) (us ++ ds):=r.append hd
 have hl:(us ++ ds).length=ps.length:=by rw [<- r2.length]; exact F.len _ _ _ _ h
 refine wpAny_call (codeAny_mono (F.run X.A X.stack s H ⟨us,[]⟩ (us ++ ds) (vs ++ dvs) Q E hr I.env0 (hb s us I.kIn hl) r2 h) fun r s' hq=>?_)
 cases r with
 | error e=>exact hx pins σ H s e s' I hq
 | ok fl=>
  cases fl with
  | ret u=>exact I.after hq
  | next=>exact False.elim hq
  | brk=>exact False.elim hq
  | cont=>exact False.elim hq
theorem oA (F:bZ X.prog X.w X.K X.mg X.base CX k f fd ps sp) (hr:bB k X.A) (hg:Gl X x) (hm:X.mg x=some (.ref f)) (hk:PySem.W.keepIn X.K (.ref f)=true) (hb:fP X.K fd ps ds) (hd:aF dvs ds) (hx:jK CX X E)
  (ha:PA X (e :: es) t) (hdb:(x == ("__debug__" : Str))=false:=by decide) (he:starEach (e :: es) X.env=(false,eval e X.env) :: starEach es X.env:=by rfl) (hpl:(backTo pos (starEach es X.env)).any (·.1)=false:=by rfl) :
  PE X (.Call (.Name x p) (e :: es) [] pos) (o9 sp dvs E t):=by
 intro pins s σ H Q I h
 refine wpAny_Call_Name_kw (jE I hg hm ?_ hdb)
 refine PySem.W.callWith_K (h₀:=X.base) I.ok.mod.kin hk (aJ (ha pos pins s σ H _ I h) fun us s1 ⟨vs,H1,I1,r,q⟩=>⟨I1.kIn,?_⟩) he hpl
 exact C1 F hr hb hd hx I1 r q
end
noncomputable def PK (X:Cx) (kws:List Keyword) (t:TA):Prop:=
 ∀ (pos:Pos) (pins:List (Addr × Obj)) (s:Shared) (σ:St) (H:Hp) (Q:List V->Hp->Prop),a5 X pins σ H s->t σ H Q->wpAny (model X.prog X.w) X.A (evalAll ((backToKw pos (keywordEach kws X.env)).map (·.2))) (AP X pins σ Q) X.xe s
structure FnScope (N P:List Str) (sc:Scope):Prop where
 kind:sc.kind = .function
 co:sc.isCoroutine=false
 gen:sc.isGenerator=false
 nd:N.Nodup
 pre:N.take P.length=P
 par:∀ x ∈ P,sc.names.lookup x=some .local ∨ sc.names.lookup x=some .cell
 nofree:∀ y ∈ sc.names,y.2 ≠ .free
theorem sM {kindOf:Str->Option NameKind}{x:Str}:∀ {binds:List (Str × Value)}{m:Str->Option Value},(∀ v,(x,v) ∉ binds)->bindL kindOf binds m x=m x
 | [],_,_=>rfl
 | (n,v) :: r,m,h=>by
  unfold bindL
  rw [sM fun w hw=>h w (aq4 _ hw)]
  split
  ·have:x ≠ n:=by rintro rfl; exact h v aq9
   simp [this]
  ·rfl
theorem sN {kindOf:Str->Option NameKind}{x:Str}:∀ {binds:List (Str × Value)}{m:Str->Option Value},(∀ v,(x,v) ∉ binds)->bindC kindOf binds m x=m x
 | [],_,_=>rfl
 | (n,v) :: r,m,h=>by
  unfold bindC
  rw [sN fun w hw=>h w (aq4 _ hw)]
  split
  ·rfl
  ·have:x ≠ n:=by rintro rfl; exact h v aq9
   simp [this]
theorem sO {kindOf:Str->Option NameKind}{x:Str}{v:Value}:∀ {P:List Str}{vs:List Value}{i:Nat}{m:Str->Option Value},P.Nodup->P[i]? = some x->vs[i]? = some v->kindOf x=some .local->
  bindL kindOf (P.zip vs) m x=some v
 | [],_,_,_,_,h,_,_=>by simp at h
 | _ :: _,[],_,_,_,_,h,_=>by simp at h
 | p :: P,w :: vs,0,m,nd,h1,h2,hk=>by
  simp at h1 h2; subst h1; subst h2
  show bindL kindOf ((p,w) :: P.zip vs) m p=_
  unfold bindL
  rw [sM fun v hv=>(List.nodup_cons.mp nd).1 (List.of_mem_zip hv).1,if_pos hk]
  simp
 | p :: P,w :: vs,i+1,m,nd,h1,h2,hk=>by
  show bindL kindOf ((p,w) :: P.zip vs) m x=_
  unfold bindL
  exact sO (i:=i) (List.nodup_cons.mp nd).2 (by simpa using h1) (by simpa using h2) hk
theorem sP {kindOf:Str->Option NameKind}{x:Str}{v:Value}:∀ {P:List Str}{vs:List Value}{i:Nat}{m:Str->Option Value},P.Nodup->P[i]? = some x->vs[i]? = some v->kindOf x ≠ some .local->
  bindC kindOf (P.zip vs) m x=some v
 | [],_,_,_,_,h,_,_=>by simp at h
 | _ :: _,[],_,_,_,_,h,_=>by simp at h
 | p :: P,w :: vs,0,m,nd,h1,h2,hk=>by
  simp at h1 h2; subst h1; subst h2
  show bindC kindOf ((p,w) :: P.zip vs) m p=_
  unfold bindC
  rw [sN fun v hv=>(List.nodup_cons.mp nd).1 (List.of_mem_zip hv).1,if_neg hk]
  simp
 | p :: P,w :: vs,i+1,m,nd,h1,h2,hk=>by
  show bindC kindOf ((p,w) :: P.zip vs) m x=_
  unfold bindC
  exact sP (i:=i) (List.nodup_cons.mp nd).2 (by simpa using h1) (by simpa using h2) hk
noncomputable def e8 (N:List Str) (vs:List V):St:=vs.map some ++ List.replicate (N.length - vs.length) none
noncomputable def bW (CX:dZ) (P:Program) (w:World) (K:PySem.W.Frag) (mg:Str->Option Value) (base:Heap) (N:List Str) (qual:Str) (scope:Scope) (f:Addr) (cd:Value) (A:Around) (outer:List Env) (s:Shared) (H:Hp) (E:XK):Cx where
 prog:=P
 w:=w
 K:=K
 mg:=mg
 base:=base
 A:=A.deeper (envOfC qual scope s.heap.objs.size f cd)
 N:=N
 s₀:=s
 H₀:=H
 env:=envOfC qual scope s.heap.objs.size f cd
 outer:=outer
 stack:=envOfC qual scope s.heap.objs.size f cd :: outer
 ex:=[]
 calm:=true
 fn:=fun _=>true
 pn:=[]
 xe:=fun e s'=>wpAny (model P w) (A.deeper (envOfC qual scope s.heap.objs.size f cd)) (leaving (envOfC qual scope s.heap.objs.size f cd) e) (fun _ s''=>CX outer H s E e s'') (fun e' s''=>CX outer H s E e' s'') s'
theorem sQ {sc:Scope}{n:Nat}{x:Str} (h:sc.names.lookup x=some .cell):∃ c,(cellsFrom n sc.names []).lookup x=some c:=by
 have q:=PySem.W.cellsFrom_some sc.names n [] (.inl h)
 exact Option.isSome_iff_exists.mp q
theorem C2 {CX:dZ}{P:Program}{w:World}{K:PySem.W.Frag}{mg:Str->Option Value}{base:Heap}{N ps:List Str}{qual:Str}{scope:Scope}{f:Addr}{cd:Value}{A:Around}{outer:List Env}{s s1:Shared}{H:Hp}{E:XK}{us:List Value}{vs:List V}
  (S:FnScope N ps scope) (hd:A.handled=none) (e0:l9 P w K mg base A outer s H) (hl:vs.length=ps.length) (r:aF vs us)
  (x:InCallC s s.heap.objs.size (bindL (envOfC qual scope s.heap.objs.size f cd).kindOf (ps.zip us) fun _=>none) (cellsFrom (s.heap.objs.size+1) scope.names []) (bindC (envOfC qual scope s.heap.objs.size f cd).kindOf (ps.zip us) fun _=>none) s1) :
  a5 (bW CX P w K mg base N qual scope f cd A outer s H E) [] (e8 N vs) H s1:=by
 have hpl:ps.length<=N.length:=by have:=congrArg List.length S.pre; rw [ay6] at this; lia
 obtain ⟨h1,tk,rfl,hk⟩:=x.done
 have noA:∀ b:Addr,b ∉ (bW CX P w K mg base N qual scope f cd A outer s H E).ex:=fun b z=>absurd (show b ∈ ([]:List Addr) from z) (by simp)
 refine⟨⟨e0.mod,S.kind,rfl,rfl,ao8 _,fun y z c h1 h2=>?_,fun y hy=>?_,fun y c _ h=>?_,fun _=>hd,Around.frames_deeper e0.frames,.inr ⟨rfl,rfl⟩,fun b z=>absurd z (noA b),e0.bs,e0.bsz,fun b _ _=>noA b,fun b z=>absurd z (noA b),e0.funs,e0.frf⟩,
  rfl,e0.bare,Un.kept hk,⟨_,x.toInCall.ns,fun i y v h1 h2 h3=>?_⟩,fun y c h=>⟨_,x.cell y c h⟩,e0.hok.fresh (ao8 _),fun y c h=>?_,fun p hp=>absurd (show p ∈ ([]:List (Addr × Obj)) from hp) (by simp),e0.hok.kept hk,?_⟩
 ·exact name_of_addr x.apart (ar9 h1) (ar9 h2)
 ·have hy:scope.names.lookup y=some .cell ∨ scope.names.lookup y=some .free:=hy
  rcases hy with hy | hy
  ·exact sQ hy
  ·exact absurd rfl (S.nofree _ (ar9 hy))
 ·exact ax0 (x.above y c (ar9 h))
 ·have hi:i < vs.length:=by
   unfold e8 at h2
   by_cases hi:i < vs.length
   ·exact hi
   ·rw [ay9 (by simpa using hi)] at h2
    rw [List.getElem?_replicate] at h2
    split at h2 <;> cases h2
  have ha:vs[i]? = some v:=by
   unfold e8 at h2
   rw [aw5 (by simpa using hi),ar2] at h2
   cases e:vs[i]? with
   | none=>rw [e] at h2; cases h2
   | some a=>rw [e] at h2; cases h2; rfl
  obtain ⟨u,hu,rv⟩:=r.get ha
  have hp:ps[i]? = some y:=by
   rw [<- S.pre,List.getElem?_take_of_lt (by lia)]; exact h1
  have ndP:ps.Nodup:=by rw [<- S.pre]; exact S.nd.sublist (List.take_sublist _ _)
  refine⟨u,rv,?_⟩
  rcases S.par y (aA0 hp) with k | k
  ·exact .inl ⟨k,sO ndP hp hu k⟩
  ·obtain ⟨c,e⟩:=sQ (n:=s.heap.objs.size+1) k
   refine .inr ⟨.inl k,c,e,?_⟩
   have q:=x.cell y c e
   rw [sP ndP hp hu (by show scope.names.lookup y ≠ _; rw [k]; decide)] at q
   exact q
 ·exact e0.hok.fresh (ax0 (x.above y c (ar9 h)))
 ·unfold e8
  show _=N.length
  rw [ar4,ap9,List.length_replicate]
  lia
theorem sR {CX:dZ}{P:Program}{w:World}{K:PySem.W.Frag}{mg:Str->Option Value}{base:Heap}{k:Nat}{f:Addr}{name qual:Str}{params:Arguments}{body:List Stmt}{scope:Scope}{dV kV doc pm cdv ct oc:Value}{an od:Option Addr}
  {osl:Array (Option Value)}{N ps:List Str}{sp:Sp} (lk:K.lookup f=some ⟨oc,od,.func (PySem.W.fnOf name qual params body scope dV kV doc pm an cdv ct),osl⟩) (hcd:PySem.W.codeIn K cdv qual=true) (S:FnScope N ps scope)
  (len:∀ vs H Q E,sp vs H Q E->vs.length=ps.length)
  (hbody:∀ (A:Around) (outer:List Env) (s:Shared) (H:Hp) (vs:List V) (Q:VK) (E:XK),bB k (A.deeper (envOfC qual scope s.heap.objs.size f cdv))->sp vs H Q E->
   ∃ t,cH (bW CX P w K mg base N qual scope f cdv A outer s H E) body t/\t { nx:=fun _ H'=>Q .non H',rt:=Q } (e8 N vs) H) :
  bZ P w K mg base CX (k+1) f (PySem.W.fnOf name qual params body scope dV kV doc pm an cdv ct) ps sp:=by
 refine⟨len,fun A outer s H args us vs Q E hr e0 hb r hsp=>?_⟩
 have hl:=len _ _ _ _ hsp
 have KX:K.In s.heap:=e0.mod.kin.keeps fun b o e=>(e0.bs b o e).1
 have lim:s.heap.NoLimit:=e0.mod.nolimit.keeps fun b o e=>(e0.bs b o e).1
 have hkind:∀ y ∈ ps.zip us,scope.names.lookup y.1=some .local ∨ (scope.names.lookup y.1=some .cell/\((cellsFrom (s.heap.objs.size+1) scope.names []).lookup y.1).isSome=true):=fun ⟨n,v⟩ hy=>by
  rcases S.par n (List.of_mem_zip hy).1 with q | q
  ·exact .inl q
  ·exact .inr ⟨q,PySem.W.cellsFrom_some _ _ _ (.inl q)⟩
 refine codeAny_call_function hr.depth (KX _ _ lk) rfl S.co S.gen rfl (PySem.W.codeRec_of KX hcd) (hb _ _ _ _ ?_)
 refine wpAny_newFunctionEnv_cells S.kind hkind fun env he s1 x=>?_
 subst he
 refine⟨lim.keeps x.toInCall.keep,codeAny_func ?_⟩
 obtain ⟨t,ht,hq⟩:=hbody A outer s H vs Q E (hr.deeper _) hsp
 have I:a5 (bW CX P w K mg base N qual scope f cdv A outer s H E) [] (e8 N vs) H s1:=C2 S hr.hd e0 hl r x
 refine au5 (ht [] s1 (e8 N vs) H _ I hq) (fun fl s' hs=>?_) fun e s' hs=>hs
 have fin:∀ {σ':St}{H':Hp}{v:V}{u:Value},a5 (bW CX P w K mg base N qual scope f cdv A outer s H E) [] σ' H' s'->aP v u->Q v H'->CE outer P w H s Q u s':=
  fun {σ' H' v u} J rv q=>⟨v,H',J.os,J.bare,J.base,J.hok,rv,q⟩
 cases fl with
 | ret u=>
  obtain ⟨v,σ',H',J,rv,q⟩:=hs
  exact fin J rv q
 | next=>
  obtain ⟨σ',H',J,q⟩:=hs
  exact fin (v:=V.non) (u:=Value.none) J rfl q
 | brk=>
  obtain ⟨_,_,_,q⟩:=hs
  exact False.elim q
 | cont=>
  obtain ⟨_,_,_,q⟩:=hs
  exact False.elim q
section
variable {X : Cx} {x : Str} {p pos : Pos} {e : Expr} {es : List Expr} {t : TA} {id T : String} {r : List V → Hp → VK → Prop}
noncomputable def oB (r:List V->Hp->VK->Prop) (t:TA):TE:=fun σ H Q=>t σ H fun vs H1=>r vs H1 Q
theorem oC (hc:bV X (.builtin id) r) (hg:Gl X x) (hm:X.mg x=none) (hv:bootBuiltins x=some (.builtin id)) (ha:PA X (e :: es) t) (hn:x ≠ "__name__":=by decide) (hdb:(x == ("__debug__" : Str))=false:=by decide)
  (he:starEach (e :: es) X.env=(false,eval e X.env) :: starEach es X.env:=by rfl) (hpl:(backTo pos (starEach es X.env)).any (·.1)=false:=by rfl):PE X (.Call (.Name x p) (e :: es) [] pos) (oB r t):=by
 intro pins s σ H Q I h
 refine wpAny_Call_Name_kw (jF I hg hm hv ?_ hn hdb)
 exact PyProof.Rows.callWith_builtin1 (aJ (ha pos pins s σ H _ I h) fun us s1 ⟨vs,H1,I1,r1,q1⟩=>hc pins s1 σ H1 vs us Q I1 r1 q1) he hpl
theorem C3 (hc:bV X (.type T) r) (hg:Gl X x) (hm:X.mg x=none) (hv:bootBuiltins x=some (.type T)) (ha:PA X (e :: es) t) (hn:x ≠ "__name__":=by decide) (hdb:(x == ("__debug__" : Str))=false:=by decide)
  (he:starEach (e :: es) X.env=(false,eval e X.env) :: starEach es X.env:=by rfl) (hpl:(backTo pos (starEach es X.env)).any (·.1)=false:=by rfl):PE X (.Call (.Name x p) (e :: es) [] pos) (oB r t):=by
 intro pins s σ H Q I h
 refine wpAny_Call_Name_kw (jF I hg hm hv ?_ hn hdb)
 exact PyProof.Rows.callWith_type1 (aJ (ha pos pins s σ H _ I h) fun us s1 ⟨vs,H1,I1,r1,q1⟩=>hc pins s1 σ H1 vs us Q I1 r1 q1) he hpl
end
end L2
namespace HT
open PySem PyProof.Rows
noncomputable def bF:List Int->List Int->Bool
 | [],[]=>false
 | [],_ :: _=>true
 | _ :: _,[]=>false
 | x :: xs,y :: ys=>if x=y then bF xs ys else decide (x < y)
theorem gG (x y:Int) (xs ys:List Int):bF (x :: xs) (y :: ys)=if x=y then bF xs ys else decide (x < y):=rfl
theorem oD:bF [] []=false:=rfl
theorem C4 (y:Int) (ys:List Int):bF [] (y :: ys)=true:=rfl
theorem C5 (x:Int) (xs:List Int):bF (x :: xs) []=false:=rfl
theorem C6 (A:Around) (s:Shared) (a:Int) (t:Tok) (c:Int) (u:Tok):∃ e,SeqAt.EqAt A s (.int a t) (.int c u) e/\(e=true ↔ a=c):=
 ⟨(a == c),SeqAt.EqAt.int_int a t c u,by simp⟩
theorem C7 (A:Around) (s:Shared) (a:Int) (t:Tok) (c:Int) (u:Tok) (prog:Program) (w:World) (E:Value->Shared->Prop) (Q:Value->Shared->Prop) (h:Q (.bool (decide (a < c))) s) :
  wpAny (model prog w) A (richCompare .Lt (.int a t) (.int c u)) Q E s:=
 (PyProof.Rows.lt_int h:wpAny (model prog w) A (compareOp .Lt (.int a t) (.int c u)) Q E s)
section
open PySem.SeqAt
open PySem.AutoSeq1 (wpAny_loadPart')
open PySem.MeetsSeq PySem.MeetsSeq2 PySem.MeetsSeq3
theorem C8 (l b:Addr) (items items2:Array Value) (n n2:Nat) (dd dd2:Option Addr) (sl sl2:Array (Option Value)) (ns ms:List Int) (hi:IntsAre items.toList ns) (hj:IntsAre items2.toList ms) :
  Meets (Builtin.«tuple.__lt__» ⟨[.ref l,.ref b],[]⟩)
   (fun _ R s=>s.heap.get? l=some { cls:=.type "tuple",dict:=dd,data:=.seq items n,slots:=sl }/\s.heap.get? b=some { cls:=.type "tuple",dict:=dd2,data:=.seq items2 n2,slots:=sl2 }/\
    R (.ok (.ret (.bool (bF ns ms)))) s):=
 .of_wp fun prog w A R s h=>by
  obtain ⟨hp,g,d,tk,os⟩:=s; obtain ⟨hl,hb,h⟩:=h
  have f2:=AutoSeq1.sub_tuple_tuple
  have z1:items.size=ns.length:=by rw [<- hi.length]; simp
  have z2:items2.size=ms.length:=by rw [<- hj.length]; simp
  wp_walk using wpAny_loadPart' hl,wpAny_loadPart' hb,wpAny_forIn_list _ (fun bY b s'=>b.1=none/\s'=⟨hp,g,d,tk,os⟩/\∃ (vs ws:List Value) (ns' ms':List Int),bY=vs.zip ws/\
   IntsAre vs ns'/\IntsAre ws ms'/\ns'.length+items2.size=ms'.length+items.size/\R (.ok (.ret (.bool (bF ns' ms')))) ⟨hp,g,d,tk,os⟩) _
  case turn=>
   rintro ⟨y,x⟩ bY b s' ⟨hb',rfl,vs,ws,ns',ms',hz,hvi,hwi,hlen,hR⟩
   cases hvi with
   | nil=>rw [List.zip_nil_left] at hz; cases hz
   | cons a t hvi'=>
    cases hwi with
    | nil=>rw [List.zip_nil_right] at hz; cases hz
    | cons c u hwi'=>
     rw [av4] at hz
     injection hz with hyx hrest
     injection hyx with hy hx
     subst hy hx
     rw [gG] at hR
     simp only [au7] at hlen
     obtain ⟨e,he,hiff⟩:=C6 A.in1 ⟨hp,g,d,tk,os⟩ a t c u
     refine ao2 (he prog w _ _ ?_)
     cases e with
     | true=>
      rw [if_pos (hiff.mp rfl)] at hR
      wp_walk
      exact⟨rfl,rfl,_,_,_,_,hrest,hvi',hwi',by lia,hR⟩
     | false=>
      rw [if_neg (fun q=>absurd (hiff.mpr q) aq5)] at hR
      have hri:=C7 A.in1 ⟨hp,g,d,tk,os⟩ a t c u prog w
      wp_walk using hri
      exact⟨_,rfl,by simpa using hR⟩
  case fin=>
   rintro ⟨b1,b2⟩ s' ⟨hb',rfl,vs,ws,ns',ms',hz,hvi,hwi,hlen,hR⟩
   simp only at hb'
   subst hb'
   have hv:bF ns' ms'=decide (items.size < items2.size):=by
    cases hvi with
    | nil=>
     cases hwi with
     | nil=>
      simp only [List.length_nil] at hlen
      rw [oD]
      exact (ao5 (by lia)).symm
     | cons c u hw=>
      simp only [List.length_nil,au7] at hlen
      rw [C4]
      exact (ap7 (by lia)).symm
    | cons a t hv=>
     cases hwi with
     | nil=>
      simp only [List.length_nil,au7] at hlen
      rw [C5]
      exact (ao5 (by lia)).symm
     | cons c u hw=>
      rw [av4] at hz
      cases hz
   rw [hv] at hR
   wp_walk
   exact⟨_,rfl,by simpa [Builtin.Tuple.tupleCompareSizes] using hR⟩
  case h=>
   exact⟨rfl,rfl,items.toList,items2.toList,ns,ms,rfl,hi,hj,by lia,h⟩
end
section
variable {prog : Program} {w : World} {A : Around} {E : Value → Shared → Prop} {s : Shared}
theorem C9 {l b:Addr}{items items2:Array Value}{ns ms:List Int}{Q:Value->Shared->Prop} (hl:IsTup s.heap l items) (hb:IsTup s.heap b items2) (hi:IntsAre items.toList ns) (hj:IntsAre items2.toList ms)
  (hu:A.units < cLine) (h:Q (.bool (bF ns ms)) s):wpAny (model prog w) A (compareOp .Lt (.ref l) (.ref b)) Q E s:=by
 obtain ⟨⟨cls,dd,data,sl⟩,ho,hc,n,hd⟩:=id hl
 obtain ⟨⟨cls2,dd2,data2,sl2⟩,ho2,hc2,n2,hd2⟩:=id hb
 simp only at hc hd hc2 hd2
 subst hc hd hc2 hd2
 exact richCompare_meets_room (op:=.Lt) ⟨_,ho,rfl⟩ ⟨_,ho2,rfl⟩ PySem.F.slot_tuple_lt PySem.F.entry_tuple_lt (PySem.F.args_tuple_lt_2 _ _) (C8 l b items items2 n n2 dd dd2 sl sl2 ns ms hi hj)
  ⟨ho,ho2,show Value.bool (bF ns ms) ≠ Value.notImplemented/\Q (.bool (bF ns ms)) s from ⟨(fun x=>nomatch x),h⟩⟩ hu
theorem E1 {t b:Addr}{vs ws:List Value}{Q:Value->Shared->Prop} (ht:IsTup s.heap t vs.toArray) (hb:IsTup s.heap b ws.toArray) (hv:vs ≠ [])
  (h1:ws = []->Q (.ref t) s) (h2:ws ≠ []->Q (.ref s.heap.objs.size) { s with heap:=s.heap.push { cls:=.type "tuple",data:=.seq (vs ++ ws).toArray } })
  (hsz:vs.length+ws.length<=sizeLine):wpAny (model prog w) A (binaryOp .Add (.ref t) (.ref b)) Q E s:=by
 obtain ⟨⟨cls,dd,data,sl⟩,ho,hc,n,hd⟩:=id ht
 obtain ⟨⟨cls2,dd2,data2,sl2⟩,ho2,hc2,n2,hd2⟩:=id hb
 simp only at hc hd hc2 hd2
 subst hc hd hc2 hd2
 have e:vs.toArray ++ ws.toArray=(vs ++ ws).toArray:=by simp
 by_cases hw:ws = []
 ·exact concat_meets ⟨_,ho,rfl⟩ ⟨_,ho2,rfl⟩ noFill_tuple_add seq_tuple_add PySem.F.slot_tuple_add PySem.F.entry_tuple_add (PySem.F.args_tuple_add_2 _ _)
   (tuple_addW1 t b vs.toArray ws.toArray n n2 dd dd2 sl sl2 (by simpa using hv) (by simp [hw])) ⟨ho,ho2,h1 hw⟩
 ·refine concat_meets ⟨_,ho,rfl⟩ ⟨_,ho2,rfl⟩ noFill_tuple_add seq_tuple_add PySem.F.slot_tuple_add PySem.F.entry_tuple_add (PySem.F.args_tuple_add_2 _ _)
   (tuple_addW2 t b vs.toArray ws.toArray n n2 dd dd2 sl sl2 (by simpa using hv) (by simpa using hw) (by rw [ao4,ao4]; exact hsz)) ⟨ho,ho2,?_⟩
  rw [e]
  exact h2 hw
noncomputable def aH (n d:Nat):Option Int->Nat
 | none=>d
 | some v=>if v < 0 then (v+(n:Int)).toNat else min v.toNat n
theorem E2 (n d:Nat):aH n d none=d:=rfl
theorem sS (n d k:Nat):aH n d (some (k:Int))=min k n:=by
 show (if (k:Int) < 0 then ((k:Int)+(n:Int)).toNat else min (k:Int).toNat n)=min k n
 rw [if_neg (by lia),Int.toNat_natCast]
theorem E3 (n d:Nat) (hd:d<=n) (o:Option Int):aH n d o<=n:=by
 cases o with
 | none=>exact hd
 | some v=>
  show (if v < 0 then (v+(n:Int)).toNat else min v.toNat n)<=n
  by_cases hv:v < 0
  ·rw [if_pos hv]; lia
  ·rw [if_neg hv]; exact Nat.min_le_right _ _
theorem sT (v:Int) (n d:Nat):(if v < 0 then max (v+(n:Int)) 0 else min v (n:Int))=((aH n d (some v):Nat):Int):=by
 show (if v < 0 then max (v+(n:Int)) 0 else min v (n:Int))=(((if v < 0 then (v+(n:Int)).toNat else min v.toNat n):Nat):Int)
 by_cases hv:v < 0
 ·simp only [if_pos hv]; lia
 ·simp only [if_neg hv]; lia
theorem E4 (lo hi:Option Int) (n:Nat):Builtin.Slice.sliceAdjust lo hi 1 (n:Int)=(((aH n 0 lo:Nat):Int),((aH n n hi:Nat):Int)):=by
 have h1 : ¬ ((1:Int) < 0):=by lia
 unfold Builtin.Slice.sliceAdjust
 simp only [h1,aA1]
 refine Prod.ext ?_ ?_
 ·cases lo with
  | none=>rfl
  | some v=>exact sT v n 0
 ·cases hi with
  | none=>rfl
  | some v=>exact sT v n n
theorem E5 (i j:Nat):Builtin.Slice.slicePlaces (i:Int) (j:Int) 1=j - i:=by
 unfold Builtin.Slice.slicePlaces
 have h1:(1:Int) > 0:=by lia
 simp only [h1,if_true,Int.ediv_one]
 split <;> lia
theorem sU {v:Value}{o:Option Int}{Q:Option Int->Shared->Prop} (p:IsPart v o) (h:Q o s):wpAny (model prog w) A (Builtin.Slice.slicePartIndex v) Q E s:=by
 cases p with
 | none=>exact slicePart_none h
 | int i t=>exact slicePart_int h
theorem sV {sl:Addr}{vl vu:Value}{lo hi:Option Int}{n:Nat}{Q:Int × Int × Nat->Shared->Prop} (hs:s.heap.IsSliceOf sl vl vu .none) (pl:IsPart vl lo) (pu:IsPart vu hi)
  (h:Q (((aH n 0 lo:Nat):Int),1,aH n n hi - aH n 0 lo) s):wpAny (model prog w) A (Builtin.Slice.sliceApplied (.ref sl) (pure (n:Int))) Q E s:=by
 obtain ⟨os,hos,hcs,hds⟩:=id hs
 unfold Builtin.Slice.sliceApplied Builtin.Slice.sliceFields
 refine ao2 (ao2 (av1 hos hds (x:=vl) rfl (ao2 (av1 hos hds (x:=vu) rfl (ao2 (av1 hos hds (x:=.none) rfl (ao9 ?_)))))))
 refine ao2 (slicePart_none ?_)
 show wpAny _ _ (if ((1:Int) == 0)=true then _ else _) _ _ s
 rw [if_neg (by decide)]
 refine ao2 (sU pl (ao2 (sU pu (ao2 (ao9 ?_)))))
 show wpAny _ _ (match Builtin.Slice.sliceAdjust lo hi 1 (n:Int) with | (lo,hi)=>pure (lo,(1:Int),Builtin.Slice.slicePlaces lo hi 1)) _ _ s
 rw [E4 lo hi n]
 show wpAny _ _ (pure (((aH n 0 lo:Nat):Int),(1:Int),Builtin.Slice.slicePlaces ((aH n 0 lo:Nat):Int) ((aH n n hi:Nat):Int) 1)) _ _ s
 rw [E5]
 exact ao9 h
theorem E6 (xs:Array Value) (i k:Nat):((List.range k).filterMap fun (m:Nat)=>xs[((i:Int)+(m:Int) * 1).toNat]?).toArray=((xs.toList.drop i).take k).toArray:=by
 have e:(fun (m:Nat)=>xs[((i:Int)+(m:Int) * 1).toNat]?)=fun m=>xs[i+m]?:=by
  funext m
  have:((i:Int)+(m:Int) * 1).toNat=i+m:=by lia
  rw [this]
 rw [e]
 have:=pick_run xs i k
 rw [List.filterMap_map] at this
 have e2:((fun x=>xs[x]?) ∘ fun x=>i+x)=fun m=>xs[i+m]?:=rfl
 rw [e2] at this
 rw [this]
theorem E7 {t sl:Addr}{items:Array Value}{vl vu:Value}{lo hi:Option Int}{Q:Value->Shared->Prop} (ht:IsTup s.heap t items) (hs:s.heap.IsSliceOf sl vl vu .none) (pl:IsPart vl lo) (pu:IsPart vu hi)
  (hw : ¬ (aH items.size 0 lo=0/\aH items.size items.size hi=items.size))
  (h:Q (.ref s.heap.objs.size) { s with heap:=s.heap.push { cls:=.type "tuple",data:=.seq ((items.toList.drop (aH items.size 0 lo)).take (aH items.size items.size hi - aH items.size 0 lo)).toArray } })
  (hsz:items.size<=sizeLine):wpAny (model prog w) A (getItem (.ref t) (.ref sl)) Q E s:=by
 have htake:sizeOk (.seq ((items.toList.drop (aH items.size 0 lo)).take (aH items.size items.size hi - aH items.size 0 lo)).toArray):=by
  show ((items.toList.drop (aH items.size 0 lo)).take (aH items.size items.size hi - aH items.size 0 lo)).toArray.size<=sizeLine
  rw [ao4,ay6,av6,at0]
  lia
 have hj:aH items.size items.size hi<=items.size:=E3 _ _ (ao8 _) hi
 obtain ⟨os,hos,hcs,hds⟩:=id hs
 have hTs:s.TypeIs (.ref sl) "slice":=⟨os,hos,hcs⟩
 unfold getItem
 try with_reducible refine ay5 ?_
 first | refine ao2 (ao9 ?_) | skip
 refine ao2 (wpAny_sequenceKey ht.typeIs (by decide) ?_)
 refine ao2 (av7 (name:=Str.ofString "__getitem__") ht.typeIs aw4
  (aw6 aw4 ht.typeIs entry_tuple_getitem ?_ (args_tuple_getitem _ _)))
 show wpAny _ _ (Builtin.Tuple.tupleItemsOf (.ref t) >>= _) _ _ s
 refine ao2 (tupleItemsOf_ ht ?_)
 refine ao2 (wpAny_typeOf hTs ?_)
 rw [if_pos (by decide)]
 refine ao2 (sV hs pl pu ?_)
 have hno : ¬ ((((aH items.size 0 lo:Nat):Int) == 0 && (1:Int) == 1 && (aH items.size items.size hi - aH items.size 0 lo) == items.size)=true):=by
  intro q
  rw [aw7,aw7] at q
  have q1:((aH items.size 0 lo:Nat):Int)=0:=eq_of_beq q.1.1
  have q2:aH items.size items.size hi - aH items.size 0 lo=items.size:=eq_of_beq q.2
  exact hw ⟨by lia,by lia⟩
 show wpAny _ _ (if (((aH items.size 0 lo:Nat):Int) == 0 && (1:Int) == 1 && (aH items.size items.size hi - aH items.size 0 lo) == items.size)=true then _ else _) _ _ s
 rw [if_neg hno,E6]
 first
  | exact ao2 (m:=Builtin.Tuple.tupleExact _) (ax7 (ao9 ⟨_,rfl,ao9 h⟩) htake)
  | exact ao2 (m:=Builtin.Tuple.tupleExact _) (ax7 (ao2 (ao9 (ao9 ⟨_,rfl,ao9 h⟩))) htake)
  | exact ao2 (ao2 (m:=Builtin.Tuple.tupleExact _) (ax7 (ao9 (ao9 ⟨_,rfl,ao9 h⟩)) htake))
  | exact ao2 (ao2 (m:=Builtin.Tuple.tupleExact _) (ax7 (ao9 ⟨_,rfl,ao9 h⟩) htake))
end
end HT
namespace L2
open PySem PySem.Spec PyProof.Rows
noncomputable abbrev TO:=St->Hp->(Option Int->Hp->Prop)->Prop
noncomputable def PO (X:Cx) (e:Option Expr) (t:TO):Prop:=
 ∀ (pins:List (Addr × Obj)) (s:Shared) (σ:St) (H:Hp) (Q:Option Int->Hp->Prop),a5 X pins σ H s->t σ H Q->
  wpAny (model X.prog X.w) X.A (evalPart e X.env) (fun u s'=>∃ o H',a5 X pins σ H' s'/\IsPart u o/\Q o H') X.xe s
noncomputable def E8:TO:=fun _ H Q=>Q none H
noncomputable def E9 (t:TE):TO:=fun σ H Q=>t σ H fun x H1=>∃ i,x = .int i/\Q (some i) H1
theorem gT {ns:List Int}:∀ {us:List Value},aF (ns.map V.int) us->IntsAre us ns:=by
 induction ns with
 | nil=>intro us r; rw [List.map_nil] at r; cases r; exact .nil
 | cons n ns ih=>
  intro us r
  rw [List.map_cons] at r
  cases r with
  | cons r1 r2=>
   obtain ⟨t,e⟩:=r1
   subst e
   exact .cons n t (ih r2)
section
variable {X : Cx} {e : Expr} {te : TE} {lo hi : Option Expr} {tl th : TO} {pos p2 : Pos}
theorem F0:PO X none E8:=by
 intro pins s σ H Q I h
 rw [evalPart_none]
 exact ao9 ⟨none,H,I,.none,h⟩
theorem F1 (h:PE X e te):PO X (some e) (E9 te):=by
 intro pins s σ H Q I hw
 rw [evalPart_some]
 refine aJ (h pins s σ H _ I hw) fun u s1 ⟨x,H1,I1,r1,q1⟩=>?_
 obtain ⟨i,rfl,q⟩:=q1
 obtain ⟨t,rfl⟩:=r1
 exact⟨some i,H1,I1,.int i t,q⟩
noncomputable def gH (X:Cx) (r:V->Option Int->Option Int->Hp->VK->Prop):Prop:=
 ∀ (pins:List (Addr × Obj)) (s:Shared) (σ:St) (H:Hp) (x:V) (v vl vu:Value) (lo hi:Option Int) (sl:Addr) (Q:VK),a5 X pins σ H s->aP x v->s.heap.IsSliceOf sl vl vu .none->IsPart vl lo->IsPart vu hi->r x lo hi H Q->
  ∃ T id,typeLookup (.type T) "__getitem__" = pure (some (.builtin id))/\s.TypeIs v T/\wpAny (model X.prog X.w) X.A (getItem v (.ref sl)) (EP X pins σ Q) X.xe s
theorem gH.or {r r':V->Option Int->Option Int->Hp->VK->Prop} (h:gH X r) (h':gH X r'):gH X (fun x lo hi H Q=>r x lo hi H Q ∨ r' x lo hi H Q):=by
 intro pins s σ H x v vl vu lo hi sl Q I rx hs pl pu q
 rcases q with q | q
 ·exact h pins s σ H x v vl vu lo hi sl Q I rx hs pl pu q
 ·exact h' pins s σ H x v vl vu lo hi sl Q I rx hs pl pu q
noncomputable def F2 (r:V->Option Int->Option Int->Hp->VK->Prop) (te:TE) (tl th:TO):TE:=fun σ H Q=>te σ H fun x H1=>tl σ H1 fun l H2=>th σ H2 fun u H3=>r x l u H3 Q
theorem F3 {r:V->Option Int->Option Int->Hp->VK->Prop} (hr:gH X r) (he:PE X e te) (hl:PO X lo tl) (hu:PO X hi th):PE X (.Subscript e (.Slice lo hi none p2) pos) (F2 r te tl th):=by
 intro pins s σ H Q I h
 refine Subscript_ (aJ (he pins s σ H _ I h) fun v s1 ⟨x,H1,I1,r1,q1⟩=>?_)
 refine wpAny_Slice (aJ (hl pins s1 σ H1 _ I1 q1) fun vl s2 ⟨l,H2,I2,pl,q2⟩=>aJ (hu pins s2 σ H2 _ I2 q2) fun vu s3 ⟨u,H3,I3,pu,q3⟩=>?_)
 rw [evalPart_none]
 refine ao9 ?_
 have I4:a5 X pins σ H3 { s3 with heap:=s3.heap.push { cls:=.type "slice",data:=.fields #[vl,vu,.none] } }:=I3.kept (t':=s3.toks) fun b ob q=>ao3 _ q
 obtain ⟨T,id,hT,ht,hg⟩:=hr pins { s3 with heap:=s3.heap.push { cls:=.type "slice",data:=.fields #[vl,vu,.none] } } σ H3 x v vl vu l u s3.heap.objs.size Q I4 r1 (Heap.IsSliceOf.new ..) pl pu q3
 show wpAny (model X.prog X.w) X.A (subscriptTail e (.Slice lo hi none p2) v (.ref s3.heap.objs.size)) (EP X pins σ Q) X.xe { s3 with heap:=s3.heap.push { cls:=.type "slice",data:=.fields #[vl,vu,.none] } }
 exact tail_any (ops:=[.ref s3.heap.objs.size,v]) ht hT hg (by with_unfolding_all rfl)
noncomputable def eG (xs:List V) (lo hi:Option Int):List V:=(xs.drop (HT.aH xs.length 0 lo)).take (HT.aH xs.length xs.length hi - HT.aH xs.length 0 lo)
theorem sW (xs:List V) (lo hi:Option Int):(eG xs lo hi).length<=xs.length:=by
 unfold eG
 rw [ay6,av6]
 lia
noncomputable def F4 (K:PySem.W.Frag):V->Option Int->Option Int->Hp->VK->Prop:=fun x lo hi H Q=>∃ a xs,x = .ref a/\aE K H a xs/\
 ¬ (HT.aH xs.length 0 lo=0/\HT.aH xs.length xs.length hi=xs.length)/\∀ p,H p=none->Q (.ref p) (upd H p (.tup (eG xs lo hi)))
theorem F5:gH X (F4 X.K):=by
 intro pins s σ H x v vl vu lo hi sl Q I rx hs pl pu h
 obtain ⟨a,xs,rfl,hx,hw,q⟩:=h
 cases rx
 obtain ⟨its,r,ht,hz⟩:=I.tuple hx
 have hlen:its.toArray.size=xs.length:=by rw [ao4]; exact r.length.symm
 refine⟨"tuple",_,PyProof.Rows.slot_tuple_getitem.lookup,ht.typeIs,?_⟩
 refine HT.E7 ht hs pl pu (by rw [hlen]; exact hw) ?_ (by rw [hlen]; exact hz)
 rw [hlen]
 refine⟨.ref s.heap.objs.size,_,I.laid (t':=s.toks) (o:=.tup (eG xs lo hi)) (fun b ob q=>ao3 _ q) (ao8 _) ?_,rfl,q _ (I.hok.fresh (ao8 _))⟩
 exact⟨as7 (sW xs lo hi) hz,_,(r.drop (HT.aH xs.length 0 lo)).take (HT.aH xs.length xs.length hi - HT.aH xs.length 0 lo),IsTup.new _ _,dY.new _ _ rfl⟩
noncomputable def oE (K:PySem.W.Frag):R2:=fun x y H Q=>∃ a b ns ms,x = .ref a/\y = .ref b/\aE K H a (ns.map V.int)/\aE K H b (ms.map V.int)/\Q (.bl (HT.bF ns ms)) H
theorem F6 (hu:X.A.units < cLine):bA X (compareOp .Lt) (oE X.K):=by
 intro pins s σ H x y v u Q I rx ry h
 obtain ⟨a,b,ns,ms,rfl,rfl,ha,hb,q⟩:=h
 cases rx
 cases ry
 obtain ⟨its,r1,p1,_⟩:=I.tuple ha
 obtain ⟨its2,r2,p2,_⟩:=I.tuple hb
 have i1:IntsAre its.toArray.toList ns:=gT r1
 have i2:IntsAre its2.toArray.toList ms:=gT r2
 exact HT.C9 p1 p2 i1 i2 hu ⟨.bl (HT.bF ns ms),H,I,rfl,q⟩
noncomputable def F7 (K:PySem.W.Frag):R2:=fun x y H Q=>∃ a b xs ys,x = .ref a/\y = .ref b/\aE K H a xs/\aE K H b ys/\xs ≠ []/\xs.length+ys.length<=sizeLine/\
 (ys = []->Q (.ref a) H)/\(ys ≠ []->∀ p,H p=none->Q (.ref p) (upd H p (.tup (xs ++ ys))))
theorem aF.nil_iff {xs:List V}{us:List Value} (r:aF xs us):us = [] ↔ xs = []:=by
 cases r with
 | nil=>simp
 | cons _ _=>simp
theorem F8:bA X (binaryOp .Add) (F7 X.K):=by
 intro pins s σ H x y v u Q I rx ry h
 obtain ⟨a,b,xs,ys,rfl,rfl,ha,hb,hx,hz,q1,q2⟩:=h
 cases rx
 cases ry
 obtain ⟨its,r1,p1,_⟩:=I.tuple ha
 obtain ⟨its2,r2,p2,_⟩:=I.tuple hb
 refine HT.E1 p1 p2 (fun z=>hx (r1.nil_iff.mp z)) (fun z=>⟨.ref a,H,I,rfl,q1 (r2.nil_iff.mp z)⟩) (fun z=>?_) (by rw [<- r1.length,<- r2.length]; exact hz)
 refine⟨.ref s.heap.objs.size,_,I.laid (t':=s.toks) (o:=.tup (xs ++ ys)) (fun b ob q=>ao3 _ q) (ao8 _) ?_,rfl,q2 (fun w=>z (r2.nil_iff.mpr w)) _ (I.hok.fresh (ao8 _))⟩
 exact⟨by rw [ar4]; exact hz,_,r1.append r2,IsTup.new _ _,dY.new _ _ rfl⟩
end
noncomputable def gU (n:Nat) (i:Int):Option Nat:=if 0<=i then (if i < n then some i.toNat else none) else if -(n:Int)<=i then some (i+n).toNat else none
noncomputable def atI {α:Type} (xs:List α) (i:Int):Option α:=(gU xs.length i).bind fun j=>xs[j]?
theorem F9 {n:Nat}{i:Int}{j:Nat} (h:gU n i=some j):seqIndex? i n=some j/\j < n/\-(n:Int)<=i/\i < n:=by
 unfold gU at h
 by_cases h0:0<=i
 ·rw [if_pos h0] at h
  by_cases h1:i < n
  ·rw [if_pos h1] at h
   have e:i.toNat=j:=ar1 h
   exact⟨by rw [seqIndex_of h0 h1,e],by lia,by lia,h1⟩
  ·rw [if_neg h1] at h; cases h
 ·rw [if_neg h0] at h
  by_cases h1 : -(n:Int)<=i
  ·rw [if_pos h1] at h
   have e:(i+n).toNat=j:=ar1 h
   exact⟨by rw [seqIndex_neg (by lia) h1,e],by lia,h1,by lia⟩
  ·rw [if_neg h1] at h; cases h
theorem oF {α:Type}{xs:List α}{i:Int}{v:α} (h:atI xs i=some v):∃ j,seqIndex? i xs.length=some j/\xs[j]? = some v/\j < xs.length/\-(xs.length:Int)<=i/\i < xs.length:=by
 unfold atI at h
 cases e:gU xs.length i with
 | none=>rw [e] at h; cases h
 | some j=>
  rw [e] at h
  obtain ⟨h1,h2,h3,h4⟩:=F9 e
  exact⟨j,h1,h,h2,h3,h4⟩
theorem G0 {α:Type}{xs:List α}{j:Nat}{v:α} (h:xs[j]? = some v):atI xs (j:Int)=some v:=by
 have hj:j < xs.length:=(aq7.mp h).1
 have e:gU xs.length (j:Int)=some j:=by
  unfold gU
  rw [if_pos (by lia),if_pos (by lia)]; simp
 unfold atI; rw [e]; exact h
noncomputable def sX (b:Expr):Prop:=∀ o i,subscripted b false o i=operate [o,i] (getItem o i)
noncomputable def fQ (X:Cx) (r:R2):Prop:=
 ∀ (value slice:Expr) (pins:List (Addr × Obj)) (s:Shared) (σ:St) (H:Hp) (x y:V) (v u:Value) (Q:VK),a5 X pins σ H s->aP x v->aP y u->r x y H Q->
  subscripted slice false v u=operate [v,u] (getItem v u)->wpAny (model X.prog X.w) X.A (subscriptTail value slice v u) (EP X pins σ Q) X.xe s
noncomputable def G1 (X:Cx) (id:String) (r:V->List V->Hp->VK->Prop):Prop:=
 ∀ (pins:List (Addr × Obj)) (s:Shared) (σ:St) (H:Hp) (x:V) (xs:List V) (v:Value) (us:List Value) (Q:VK),a5 X pins σ H s->aP x v->aF xs us->r x xs H Q->
  wpAny (model X.prog X.w) X.A (call (.builtin id) (v :: us)) (EP X pins σ Q) X.xe s
section
variable {X : Cx} {a b : Expr} {ta tb : TE} {pos : Pos}
theorem fQ.or {r r':R2} (h:fQ X r) (h':fQ X r'):fQ X (fun x y H Q=>r x y H Q ∨ r' x y H Q):=by
 intro value slice pins s σ H x y v u Q I rx ry q hs
 rcases q with q | q
 ·exact h value slice pins s σ H x y v u Q I rx ry q hs
 ·exact h' value slice pins s σ H x y v u Q I rx ry q hs
theorem G2 {r:R2} (hr:fQ X r) (ha:PE X a ta) (hb:PE X b tb) (hs:sX b):PE X (.Subscript a b pos) (jH r ta tb):=by
 intro pins s σ H Q I h
 exact Subscript_ (nY ha hb I h fun v u s2 x y H2 I2 rx ry q=>hr a b pins s2 σ H2 x y v u Q I2 rx ry q (hs _ _))
noncomputable def sY (K:PySem.W.Frag):R2:=fun x y H Q=>∃ p xs i v,x = .ref p/\y = .int i/\aG K H p xs/\atI xs i=some v/\Q v H
noncomputable def sZ (K:PySem.W.Frag):R2:=fun x y H Q=>∃ p xs i v,x = .ref p/\y = .int i/\aE K H p xs/\atI xs i=some v/\Q v H
noncomputable def t0:R2:=fun x y H Q=>∃ z i c,x = .str z/\y = .int i/\z.length<=sizeLine/\atI z.cps.toList i=some c/\Q (.str ⟨#[c]⟩) H
theorem G3:fQ X (sY X.K):=by
 intro value slice pins s σ H x y v u Q I rx ry h hs
 obtain ⟨p,xs,i,z,rfl,rfl,hq,he,q⟩:=h
 cases rx
 obtain ⟨t,rfl⟩:=ry
 obtain ⟨its,r,pl,hz⟩:=I.list hq
 obtain ⟨j,h1,h2,h3,h4,h5⟩:=oF he
 obtain ⟨w,ew,rw'⟩:=r.get h2
 have hl:=r.length
 have hn:=l8
 have fin:EP X pins σ Q w s:=⟨z,H,I,rw',q⟩
 by_cases h0:0<=i
 ·have hj:i.toNat=j:=by
   rw [seqIndex_of h0 h5] at h1
   exact ar1 h1
  exact item_listR pl.isList h0 (by lia) (by rw [hj]; simpa using ew) fin hs
 ·have hj:(i+(its.toArray.size:Int)).toNat=j:=by
   rw [seqIndex_neg (by lia) h4] at h1
   rw [ao4,<- hl]
   exact ar1 h1
  exact subscriptTail_builtinR (x:=w) pl.isList.typeIs slot_list_getitem.lookup
   (wpAny_getItem_list_neg (Q:=fun r s'=>r=w/\EP X pins σ Q r s') pl.isList (by lia) (by rw [ao4] <;> lia) (by lia) (by rw [hj]; simpa using ew) ⟨rfl,fin⟩) hs
theorem G4:fQ X (sZ X.K):=by
 intro value slice pins s σ H x y v u Q I rx ry h hs
 obtain ⟨p,xs,i,z,rfl,rfl,hq,he,q⟩:=h
 cases rx
 obtain ⟨t,rfl⟩:=ry
 obtain ⟨its,r,pl,hz⟩:=I.tuple hq
 obtain ⟨j,h1,h2,h3,h4,h5⟩:=oF he
 obtain ⟨w,ew,rw'⟩:=r.get h2
 have hl:=r.length
 have hn:=l8
 have fin:EP X pins σ Q w s:=⟨z,H,I,rw',q⟩
 exact subscriptTail_builtinR (x:=w) pl.typeIs slot_tuple_getitem.lookup
  (getItem_tuple (j:=j) (Q:=fun r s'=>r=w/\EP X pins σ Q r s') pl (by lia) (by lia) (by rw [ao4,<- hl]; exact h1) (by simpa using ew) ⟨rfl,fin⟩) hs
theorem G5:fQ X t0:=by
 intro value slice pins s σ H x y v u Q I rx ry h hs
 obtain ⟨z,i,c,rfl,rfl,hz,he,q⟩:=h
 obtain ⟨t,rfl⟩:=rx
 obtain ⟨t',rfl⟩:=ry
 obtain ⟨j,h1,h2,h3,h4,h5⟩:=oF he
 have hl:z.cps.toList.length=z.length:=by simp [Str.length]
 rw [hl] at h1 h4 h5
 have hn:=l8
 exact tail_any (typeIs_str s z t) slot_str_getitem.lookup (getItem_str (c:=c) (by
  have e1:decide (i < -(2 ^ 63:Int))=false:=ao5 (by lia)
  have e2:decide (i >= 2 ^ 63)=false:=ao5 (by lia)
  rw [e1,e2,Bool.or_false]) (by rw [h1]; simpa using h2) ⟨.str ⟨#[c]⟩,H,I.tok _,⟨_,rfl⟩,q⟩) hs
noncomputable def t5 (K:PySem.W.Frag):R2:=fun x y H Q=>sY K x y H Q ∨ sZ K x y H Q ∨ t0 x y H Q
theorem G6:fQ X (t5 X.K):=G3.or (G4.or G5)
theorem G7 (lo hi:Option Int) (n:Nat):(sliceBounds lo hi none n).1=((HT.aH n 0 lo:Nat):Int)/\(sliceBounds lo hi none n).2.1=((HT.aH n n hi:Nat):Int)/\(sliceBounds lo hi none n).2.2=1:=by
 refine⟨?_,?_,rfl⟩
 ·cases lo with
  | none=>simp [sliceBounds,HT.aH]
  | some i=>
   simp only [sliceBounds,HT.aH,Option.getD_none,show (1:Int) > 0 by decide,if_true]
   by_cases h:i < 0
   ·simp only [h,if_true] <;> lia
   ·simp only [h,aA1] <;> lia
 ·cases hi with
  | none=>simp [sliceBounds,HT.aH]
  | some i=>
   simp only [sliceBounds,HT.aH,Option.getD_none,show (1:Int) > 0 by decide,if_true]
   by_cases h:i < 0
   ·simp only [h,if_true] <;> lia
   ·simp only [h,aA1] <;> lia
theorem G8 (its:List Value) (lo hi:Option Int):slicePick its.toArray lo hi none=((its.drop (HT.aH its.length 0 lo)).take (HT.aH its.length its.length hi - HT.aH its.length 0 lo)).toArray:=by
 obtain ⟨h1,h2,h3⟩:=G7 lo hi its.toArray.size
 unfold slicePick
 rw [h1,h2,h3]
 simp only [sliceRange_one,pick_run,ao4] <;> rfl
noncomputable def G9 (K:PySem.W.Frag):V->Option Int->Option Int->Hp->VK->Prop:=fun x lo hi H Q=>∃ a xs,x = .ref a/\aG K H a xs/\∀ p,H p=none->Q (.ref p) (upd H p (.lst (eG xs lo hi)))
theorem J0:gH X (G9 X.K):=by
 intro pins s σ H x v vl vu lo hi sl Q I rx hs pl pu h
 obtain ⟨a,xs,rfl,hx,q⟩:=h
 cases rx
 obtain ⟨its,r,ht,hz⟩:=I.list hx
 have hlen:=r.length
 refine⟨"list",_,slot_list_getitem.lookup,ht.isList.typeIs,?_⟩
 refine wpAny_getItem_list_slice ht.isList hs pl pu .none (by simp) ?_ (by rw [ao4] <;> lia)
 rw [G8,<- hlen]
 refine⟨.ref s.heap.objs.size,_,I.laid (t':=s.toks) (o:=.lst (eG xs lo hi)) (fun b ob q=>ao3 _ q) (ao8 _) ?_,rfl,q _ (I.hok.fresh (ao8 _))⟩
 exact⟨as7 (sW xs lo hi) hz,_,0,(r.drop (HT.aH xs.length 0 lo)).take (HT.aH xs.length xs.length hi - HT.aH xs.length 0 lo),aq8 _ rfl⟩
theorem J1:bV X (.builtin "len") (fun xs H Q=>∃ p ys,xs = [.ref p]/\(aG X.K H p ys ∨ aE X.K H p ys)/\Q (.int ys.length) H):=by
 intro pins s σ H xs us Q I r h
 obtain ⟨p,ys,rfl,hq,q⟩:=h
 obtain ⟨u,rfl,rx⟩:=eW r
 cases rx
 have hn:=l8
 rcases hq with hq | hq
 ·obtain ⟨its,r',pl,hz⟩:=I.list hq
  have hlen:=r'.length
  exact Calls.call_len_list pl.isList (by simp only [ao4] <;> lia) ⟨.int ys.length,H,I.tok _,⟨s.toks+1,by rw [ao4,hlen]⟩,q⟩
 ·obtain ⟨its,r',pl,hz⟩:=I.tuple hq
  have hlen:=r'.length
  exact len_tuple pl (by simp only [ao4] <;> lia) ⟨.int ys.length,H,I.tok _,⟨s.toks+1,by rw [ao4,hlen]⟩,q⟩
theorem bV.or {f:Value}{r r':List V->Hp->VK->Prop} (h:bV X f r) (h':bV X f r'):bV X f (fun xs H Q=>r xs H Q ∨ r' xs H Q):=by
 intro pins s σ H xs us Q I rs q
 rcases q with q | q
 ·exact h pins s σ H xs us Q I rs q
 ·exact h' pins s σ H xs us Q I rs q
theorem J2:bV X (.type "list") (fun xs H Q=>∃ p ys,xs = [.ref p]/\(aG X.K H p ys ∨ aE X.K H p ys)/\∀ l,H l=none->Q (.ref l) (upd H l (.lst ys))):=by
 intro pins s σ H xs us Q I r h
 obtain ⟨p,ys,rfl,hq,q⟩:=h
 obtain ⟨u,rfl,rx⟩:=eW r
 cases rx
 have fin:∀ (its:List Value),aF ys its->ys.length<=sizeLine->∀ (h':Heap) (c':Nat),(∀ b o',s.heap.get? b=some o'->h'.get? b=some o')->
   h'.get? s.heap.objs.size=some { cls:=.type "list",dict:=none,data:=.seq its.toArray c',slots:=#[] }->EP X pins σ Q (.ref s.heap.objs.size) { s with heap:=h' }:=fun its r' hz h' c' kp e=>
  ⟨.ref s.heap.objs.size,_,I.laid (t':=s.toks) kp (ao8 _) (show bM X.prog X.w _ h' _ (.lst ys) from ⟨hz,its,c',r',e⟩),rfl,q _ (I.hok.fresh (ao8 _))⟩
 rcases hq with hq | hq
 ·obtain ⟨its,r',pl,hz⟩:=I.list hq
  have hlen:=r'.length
  obtain ⟨o,ho,hc,n,hd⟩:=pl.isList
  exact call_list_seq p (.inl rfl) ho hc hd (fun h' c' kp e=>fin its r' hz h' c' kp e) (by simp only [ao4] <;> lia)
 ·obtain ⟨its,r',pl,hz⟩:=I.tuple hq
  have hlen:=r'.length
  obtain ⟨o,ho,hc,n,hd⟩:=pl
  exact call_list_seq p (.inr rfl) ho hc hd (fun h' c' kp e=>fin its r' hz h' c' kp e) (by simp only [ao4] <;> lia)
theorem J3:bV X (.type "tuple") (fun xs H Q=>∃ p ys,xs = [.ref p]/\((aG X.K H p ys/\∀ l,H l=none->Q (.ref l) (upd H l (.tup ys))) ∨ (aE X.K H p ys/\Q (.ref p) H))):=by
 intro pins s σ H xs us Q I r h
 obtain ⟨p,ys,rfl,h⟩:=h
 obtain ⟨u,rfl,rx⟩:=eW r
 cases rx
 rcases h with ⟨hq,q⟩ | ⟨hq,q⟩
 ·obtain ⟨its,r',pl,hz⟩:=I.list hq
  have hlen:=r'.length
  refine call_tuple_list pl.isList (fun h' kp=>?_) (by simp only [ao4] <;> lia)
  have I1:a5 X pins σ H { s with heap:=h' }:=I.kept (t':=s.toks) kp
  have I2:a5 X pins σ (upd H h'.objs.size (.tup ys)) { s with heap:=h'.push { cls:=.type "tuple",data:=.seq its.toArray } }:=
   I1.laid (t':=s.toks) (fun b o e=>ao3 _ e) (ao8 _) (show bM X.prog X.w _ _ _ (.tup ys) from ⟨hz,its,r',IsTup.new _ _,dY.new _ _ rfl⟩)
  exact⟨.ref h'.objs.size,_,I2,rfl,q _ (I1.hok.fresh (ao8 _))⟩
 ·obtain ⟨its,r',pl,hz⟩:=I.tuple hq
  exact call_tuple_same pl ⟨.ref p,H,I,rfl,q⟩
noncomputable def eH (K:PySem.W.Frag) (T:String) (x:V) (H:Hp):Prop:=match x with
 | .str _=>T="str"
 | .int _=>T="int"
 | .ref p=>(T="list"/\∃ xs,aG K H p xs) ∨ (T="tuple"/\∃ o,K.lookup p=some o/\o.cls = .type "tuple"/\o.dict=none) ∨
   (T="dict"/\((∃ kvs,H p=some (.dK kvs)) ∨ ∃ kvs,H p=some (.dT kvs))) ∨ (T="set"/\∃ S n,H p=some (.set S n))
 | _=>False
theorem J4 {pins:List (Addr × Obj)}{σ:St}{H:Hp}{s:Shared}{T:String}{x:V}{v:Value} (I:a5 X pins σ H s) (r:aP x v) (ty:eH X.K T x H) :
  s.TypeIs v T/\∀ a,v = .ref a->∃ ob,s.heap.get? a=some ob/\ob.dict=none:=by
 cases x with
 | str z=>
  obtain ⟨t,rfl⟩:=r
  cases (show T="str" from ty)
  exact⟨typeIs_str s z t,fun _ e=>nomatch e⟩
 | int i=>
  obtain ⟨t,rfl⟩:=r
  cases (show T="int" from ty)
  exact⟨typeIs_int s i t,fun _ e=>nomatch e⟩
 | ref p=>
  cases r
  rcases ty with ⟨rfl,xs,hq⟩ | ⟨rfl,o,hk,hc,hd⟩ | ⟨rfl,hk⟩ | ⟨rfl,S,n,hk⟩
  ·obtain ⟨its,_,pl,_⟩:=I.list hq
   refine⟨pl.isList.typeIs,fun a e=>?_⟩
   cases e
   obtain ⟨o,n,e,c,hd,_⟩:=pl
   exact⟨o,e,hd⟩
  ·refine⟨⟨o,I.kIn p o hk,hc⟩,fun a e=>?_⟩
   cases e
   exact⟨o,I.kIn _ o hk,hd⟩
  ·have z:∃ o,s.heap.get? p=some o/\o.ExactDict:=by
    rcases hk with ⟨kvs,hk⟩ | ⟨kvs,hk⟩
    ·obtain ⟨_,_,_,_,o,_,_,e,ex,_⟩:=I.hok p _ hk
     exact⟨o,e,ex⟩
    ·obtain ⟨_,_,_,_,o,_,_,e,ex,_⟩:=I.hok p _ hk
     exact⟨o,e,ex⟩
   obtain ⟨o,e,ex⟩:=z
   refine⟨⟨o,e,ex.1⟩,fun a e2=>?_⟩
   cases e2
   exact⟨o,e,ex.2.1⟩
  ·obtain ⟨o,_,_,_,e,ex,_⟩:=I.hok p _ hk
   refine⟨⟨o,e,ex.1⟩,fun a e2=>?_⟩
   cases e2
   exact⟨o,e,ex.2.1⟩
 | _=>exact False.elim ty
noncomputable def t6 (K:PySem.W.Frag) (T:String) (r:V->List V->Hp->VK->Prop) (to:TE) (t:TA):TE:=fun σ H Q=>to σ H fun x H1=>eH K T x H1/\t σ H1 fun xs H2=>r x xs H2 Q
variable {o e : Expr} {es : List Expr} {to : TE} {t : TA} {name : Str} {apos cpos : Pos} {T id : String} {r : V → List V → Hp → VK → Prop}
theorem J5 (pa:PlainAttrs T) (slot:Slot T name id) (hty:typeOf (.builtin id)=pure (.type "method_descriptor")) (hm:G1 X id r) (ho:PE X o to) (ha:PA X (e :: es) t)
  (hbase:attributeBase o name X.env (eval o X.env)=eval o X.env:=by rfl)
  (hfew:((backTo cpos (starEach (e :: es) X.env)).all (fun x=>!x.1) && (backToKw cpos (keywordEach [] X.env)).all (fun x=>x.1.isSome)
   && decide ((e :: es).length+([]:List Keyword).length+(if ([]:List Keyword).isEmpty then 0 else 1) < 30))=true:=by rfl)
  (hline:(apos.endLine == cpos.line)=true:=by rfl) (hs:starEach (e :: es) X.env=(false,eval e X.env) :: starEach es X.env:=by rfl) (hplain:(backTo cpos (starEach es X.env)).any (·.1)=false:=by rfl) :
  PE X (.Call (.Attribute o name apos) (e :: es) [] cpos) (t6 X.K T r to t):=by
 intro pins s σ H Q I h
 refine wpAny_Call_method_late hbase hfew hline rfl (aJ (ho pins s σ H _ I h) fun v s1 ⟨x,H1,I1,r1,ty,q1⟩=>?_)
 obtain ⟨h1,h2⟩:=J4 I1 r1 ty
 refine⟨T,id,pa,slot,hty,h1,h2,?_⟩
 have hA:=ha cpos pins s1 σ H1 _ I1 q1
 rw [hs] at hA ⊢
 refine Calls.callWith_builtin (by show (false || (backTo cpos (starEach es X.env)).any (·.1))=false; rw [hplain] <;> rfl) (Calls.evalArgs_plain ?_)
 exact aJ hA fun us s2 ⟨vs,H2,I2,r2,q2⟩=>hm pins s2 σ H2 x vs v us Q I2 r1 r2 q2
end
noncomputable def t7 (X:Cx) (id:String) (r:V->List V->Hp->VK->Prop):Prop:=
 ∀ (pins:List (Addr × Obj)) (s:Shared) (σ:St) (H:Hp) (x:V) (xs:List V) (v:Value) (us:List Value) (Q:VK),a5 X pins σ H s->aP x v->aF xs us->r x xs H Q->
  wpAny (model X.prog X.w) X.A (call (.builtin id) (v :: us)) (EP X pins σ Q) X.xe s
theorem aF.one {x:V}{us:List Value} (h:aF [x] us):∃ u,us = [u]/\aP x u:=by
 cases h with
 | cons r t=>
  cases t
  exact⟨_,rfl,r⟩
theorem aF.two {x y:V}{us:List Value} (h:aF [x,y] us):∃ u v,us = [u,v]/\aP x u/\aP y v:=by
 cases h with
 | cons r t=>
  cases t with
  | cons q t=>
   cases t
   exact⟨_,_,rfl,r,q⟩
theorem aF.eraseIdx:∀ {xs:List V}{us:List Value} (i:Nat),aF xs us->aF (xs.eraseIdx i) (us.eraseIdx i)
 | _,_,_,.nil=>.nil
 | _,_,0,.cons _ t=>t
 | _,_,i+1,.cons r t=>.cons r (aF.eraseIdx i t)
theorem aF.rep {xs:List V}{us:List Value} (h:aF xs us):∀ k:Nat,aF (List.replicate k xs).flatten (List.replicate k us).flatten
 | 0=>.nil
 | k+1=>by
  rw [at2,at2,aw1,aw1]
  exact aF.append h (aF.rep h k)
theorem oG (its:List Value):∀ (k:Nat) (acc:List Value),
  List.foldl (fun x1 x2=>x1 ++ x2) acc.toArray (List.replicate k its.toArray)=(acc ++ (List.replicate k its).flatten).toArray
 | 0,acc=>by simp
 | k+1,acc=>by
  have e:acc.toArray ++ its.toArray=(acc ++ its).toArray:=by simp
  have e2:(acc ++ its) ++ (List.replicate k its).flatten=acc ++ (List.replicate (k+1) its).flatten:=by
   rw [at2,aw1,aq1]
  rw [<- e2,<- oG its k (acc ++ its),<- e,at2,List.foldl_cons]
section
variable {X : Cx} {pins : List (Addr × Obj)} {σ : St} {H : Hp} {s : Shared} {l b : Addr} {xs ys zs : List V}
theorem a5.lset {its its':List Value}{n:Nat}{f:Array Value->Array Value}{t':Nat} (I:a5 X pins σ H s) (hH:H l=some (.lst xs))
  (e:s.heap.get? l=some { cls:=.type "list",data:=.seq its.toArray n }) (hf:f its.toArray=its'.toArray) (hv:aF ys its') (hz:ys.length<=sizeLine) :
  a5 X pins σ (upd H l (.lst ys)) { s with heap:=s.heap.update l (Obj.mapSeq f),toks:=t' }:=by
 have q:=PySem.IsL.update e f
 rw [hf] at q
 refine I.write (x:=l) (e:=l) (by rw [hH]; exact trivial) (.inl rfl) (fun b' u hb hu=>(Heap.get?_update_other s.heap (Obj.mapSeq f) (Ne.symm hb)).trans hu) ⟨_,q⟩ ?_
 exact⟨hz,its',_,hv,q⟩
theorem a5.lnew {its:List Value}{t':Nat} (I:a5 X pins σ H s) (hv:aF ys its) (hz:ys.length<=sizeLine) :
  a5 X pins σ (upd H s.heap.objs.size (.lst ys)) { s with heap:=s.heap.push { cls:=.type "list",data:=.seq its.toArray },toks:=t' }:=
 I.laid (fun _ _ q=>ao3 _ q) (ao8 _) ⟨hz,its,0,hv,aq8 _ rfl⟩
theorem a5.fresh (I:a5 X pins σ H s):H s.heap.objs.size=none:=I.hok.fresh (ao8 _)
theorem a5.lstM (I:a5 X pins σ H s) (hH:H l=some (.lst xs)):xs.length<=sizeLine/\∃ (its:List Value) (n:Nat),aF xs its/\xs.length=its.length/\s.heap.get? l=some { cls:=.type "list",data:=.seq its.toArray n }:=by
 obtain ⟨z,its,n,r,e⟩:=I.hok l _ hH
 exact⟨z,its,n,r,r.length,e⟩
theorem t8 {n:Nat} (h:n<=sizeLine):Builtin.List.listTooLong n=false:=by
 unfold Builtin.List.listTooLong
 exact ao5 (by lia)
end
section
variable {X : Cx}
noncomputable def t9:V->List V->Hp->VK->Prop:=fun x vs H Q=>∃ l xs y,x = .ref l/\vs = [y]/\H l=some (.lst xs)/\xs.length < sizeLine/\Q .non (upd H l (.lst (xs ++ [y])))
theorem tD:t7 X "list.append" t9:=by
 intro pins s σ H x vs v us Q I rx rv h
 obtain ⟨l,xs,y,rfl,rfl,hH,hz,q⟩:=h
 cases rx
 obtain ⟨u,rfl,ru⟩:=rv.one
 obtain ⟨z,its,n,r,hl,e⟩:=I.lstM hH
 refine aB3 F.slot_list_append ⟨_,e,rfl⟩ F.entry_list_append (F.args_list_append_2 _ _) (PySem.list_append l its.toArray n u (by rw [ao4]; lia)) ⟨e,?_⟩
 refine⟨.non,_,I.lset (its':=its ++ [u]) hH e (by simp) (r.append (.cons ru .nil)) ?_,rfl,q⟩
 rw [ar4,List.length_singleton]
 lia
noncomputable def J6:V->List V->Hp->VK->Prop:=fun x vs H Q=>∃ l b xs zs,x = .ref l/\vs = [.ref b]/\H l=some (.lst xs)/\H b=some (.lst zs)/\xs.length+zs.length<=sizeLine/\Q .non (upd H l (.lst (xs ++ zs)))
theorem an8:t7 X "list.extend" J6:=by
 intro pins s σ H x vs v us Q I rx rv h
 obtain ⟨l,b,xs,zs,rfl,rfl,hH,hB,hz,q⟩:=h
 cases rx
 obtain ⟨u,rfl,ru⟩:=rv.one
 cases ru
 obtain ⟨z,its,n,r,hl,e⟩:=I.lstM hH
 obtain ⟨z2,its2,n2,r2,hl2,e2⟩:=I.lstM hB
 have hsz:its.toArray.size+its2.toArray.size<=sizeLine:=by rw [ao4,ao4]; lia
 have hlong : ¬ (!its.toArray.isEmpty && Builtin.List.listTooLong (its.toArray.size+its2.toArray.size))=true:=by
  rw [t8 hsz,Bool.and_false]
  exact aq5
 refine aB3 F.slot_list_extend ⟨_,e,rfl⟩ F.entry_list_extend (F.args_list_extend_2 _ _)
  (AutoSeq1.list_extend_list_list_0 l its.toArray n b its2.toArray n2 hlong (by rw [ao4]; lia) (by lia)) ⟨e,e2,?_⟩
 refine⟨.non,_,I.lset (its':=its ++ its2) hH e (by simp) (r.append r2) ?_,rfl,q⟩
 rw [ar4]
 lia
noncomputable def tE:R2:=fun x y H Q=>∃ l b xs zs,x = .ref l/\y = .ref b/\H l=some (.lst xs)/\H b=some (.lst zs)/\xs.length+zs.length<=sizeLine/\∀ p,H p=none->Q (.ref p) (upd H p (.lst (xs ++ zs)))
theorem J7:bA X (binaryOp .Add) tE:=by
 intro pins s σ H x y v u Q I rx ry h
 obtain ⟨l,b,xs,zs,rfl,rfl,hH,hB,hz,q⟩:=h
 cases rx
 cases ry
 obtain ⟨z,its,n,r,hl,e⟩:=I.lstM hH
 obtain ⟨z2,its2,n2,r2,hl2,e2⟩:=I.lstM hB
 refine PySem.P.add_list e e2 ?_ (by rw [ao4,ao4]; lia)
 have ea:its.toArray ++ its2.toArray=(its ++ its2).toArray:=by simp
 rw [ea]
 exact⟨.ref _,_,I.lnew (t':=s.toks) (r.append r2) (by rw [ar4]; lia),rfl,q _ I.fresh⟩
noncomputable def tF:R2:=fun x y H Q=>∃ l k xs,x = .ref l/\y = .int k/\H l=some (.lst xs)/\-(2 ^ 63)<=k/\k < 2 ^ 63/\xs.length * k.toNat<=sizeLine/\
 ∀ p,H p=none->Q (.ref p) (upd H p (.lst (List.replicate k.toNat xs).flatten))
theorem oH {α:Type} (xs:List α) (k:Nat):(List.replicate k xs).flatten.length=k * xs.length:=by
 induction k with
 | zero=>simp
 | succ k ih=>rw [at2,aw1,ar4,ih,Nat.succ_mul,Nat.add_comm]
theorem J8:bA X (binaryOp .Mult) tF:=by
 intro pins s σ H x y v u Q I rx ry h
 obtain ⟨l,k,xs,rfl,rfl,hH,h1,h2,hz,q⟩:=h
 cases rx
 obtain ⟨t,rfl⟩:=ry
 obtain ⟨z,its,n,r,hl,e⟩:=I.lstM hH
 have hlen:its.toArray.size * k.toNat<=sizeLine:=by rw [ao4,<- hl]; exact hz
 have hcap : ¬ its.toArray.size * k.toNat > (2 ^ 63 - 1) / 8:=by
  have:(sizeLine:Nat)<=(2 ^ 63 - 1) / 8:=by decide
  lia
 have hfit : ¬ (!Builtin.List.listFitsIndex k)=true:=by
  rw [fitsIndex_both h1 h2]
  exact aq5
 have hlong : ¬ Builtin.List.listTooLong (its.toArray.size * k.toNat)=true:=by
  rw [t8 hlen]
  exact aq5
 have hnew:List.foldl (fun x1 x2=>x1 ++ x2) #[] (List.replicate (if its.toArray.isEmpty=true then 0 else k.toNat) its.toArray)=(List.replicate k.toNat its).flatten.toArray:=by
  have f0:∀ m:Nat,List.foldl (fun x1 x2=>x1 ++ x2) #[] (List.replicate m its.toArray)=(List.replicate m its).flatten.toArray:=fun m=>by
   have:=oG its m []
   rw [List.nil_append] at this
   exact this
  rw [f0]
  cases its with
  | nil=>simp
  | cons a r'=>rw [if_neg (by simp)]
 refine wpAny_binaryOp_repeat_ref (T:="list") (U:="int") (by decide) ⟨_,e,rfl⟩ (fun s'=>typeIs_int s' k t) noFill_list_mul F.fills_int_mul ay0 repeat_list F.slot_int_index.lookup
  (aB3 ay0 (typeIs_int s k t) F.entry_int_rmul (F.args_int_rmul_2 _ _) (int___rmul___int_list k t l its.toArray n)
   ⟨e,rfl,⟨_,e,rfl⟩,aB3 F.slot_list_mul ⟨_,e,rfl⟩ F.entry_list_mul (F.args_list_mul_2 _ _) (AutoListH.list___mul___list_int_3 l its.toArray n k t hfit hcap hlong) ⟨e,?_⟩⟩)
 rw [hnew]
 exact⟨.ref _,_,I.lnew (t':=s.toks) (r.rep k.toNat) (by rw [oH,Nat.mul_comm]; exact hz),rfl,q _ I.fresh⟩
end
section
variable {κ : Type} [DecidableEq κ]
theorem KV.length {kvs:List (κ × V)}{vs:List (κ × Value)} (r:KV kvs vs):kvs.length=vs.length:=Paired.length r
end
section
variable {P : Program} {w : World} {H : Hp} {h : Heap} {a : Addr}
theorem K0 {u:HO} (ok:bD P w H h) (e:Rd H a u):bM P w H h a u:=e.ok ok
theorem K1 {kvs:List (aZ × V)} (ok:bD P w H h) (e:Rd H a (.dK kvs)):kvs.length<=sizeLine/\(a == sysModules)=false/\∃ vs,KV kvs vs/\h.DictOf (nN P w) a vs:=
 show bM P w H h a (.dK kvs) from K0 ok e
end
section
variable {X : Cx} {pins : List (Addr × Obj)} {σ : St} {H : Hp} {s : Shared} {a : Addr} {kvs : List (aZ × V)} {k : aZ} {u : Value} {A : Around} {E : Value → Shared → Prop}
theorem K2 {Q:Value->Shared->Prop} (I:a5 X pins σ H s) (e:Rd H a (.dK kvs)) (h:∀ t s',a5 X pins σ H s'->Q (.int kvs.length t) s'):wpAny (model X.prog X.w) A (call (.builtin "len") [.ref a]) Q E s:=by
 obtain ⟨z,hd,vs,rel,dd⟩:=K1 I.hok e
 refine call_len_dict hd dd (by rw [<- rel.length]; rw [sizeLine_eq] at z; lia) ?_
 rw [<- rel.length]
 exact h _ _ (I.tok _)
end
structure M1 (X:Cx) (o:Expr) (m:Str) (apos:Pos) (e:Expr) (cpos:Pos):Prop where
 base:attributeBase o m X.env (eval o X.env)=eval o X.env
 few:((backTo cpos (starEach [e] X.env)).all (fun x=>!x.1) && (backToKw cpos (keywordEach [] X.env)).all (fun x=>x.1.isSome)
  && decide (([e]:List Expr).length+([]:List Keyword).length+(if ([]:List Keyword).isEmpty then 0 else 1) < 30))=true
 line:(apos.endLine == cpos.line)=true
 trees:backTo cpos (starEach [e] X.env) = [(false,eval e X.env)]
structure M2 (X:Cx) (o:Expr) (m:Str) (apos:Pos) (e f:Expr) (cpos:Pos):Prop where
 base:attributeBase o m X.env (eval o X.env)=eval o X.env
 few:((backTo cpos (starEach [e,f] X.env)).all (fun x=>!x.1) && (backToKw cpos (keywordEach [] X.env)).all (fun x=>x.1.isSome)
  && decide (([e,f]:List Expr).length+([]:List Keyword).length+(if ([]:List Keyword).isEmpty then 0 else 1) < 30))=true
 line:(apos.endLine == cpos.line)=true
 trees:backTo cpos (starEach [e,f] X.env) = [(false,eval e X.env),(false,eval f X.env)]
end L2
namespace Att
open PySem PySem.W PySem.Calls PyProof.Rows
theorem K3 {P:Params}{h:Heap}:∀ (ns:List Int) (vs:List Value),WellAll P h vs (ns.map WData.int)->IntsAre vs ns:=by
 intro ns
 induction ns with
 | nil=>
  intro vs w
  rw [List.map_nil] at w
  cases w
  exact .nil
 | cons n ns ih=>
  intro vs w
  rw [List.map_cons] at w
  cases w with
  | cons a b=>
   cases a
   exact .cons _ _ (ih _ b)
theorem tG {l:OpenLaw}{n:Nat} (hn:l.most=some n) {P:Params}{h:Heap}{args:List WData}{vals:List Value}
  (hpre:l.row.toRowW.claim.pre args=true) (hwl:WellAll P h vals args) :
  ∃ a vs ns,vals = [Value.ref a]/\args = [WData.list (ns.map WData.int)]/\h.get? a=some { cls:=.type "list",data:=.seq vs.toArray }/\IntsAre vs ns/\ns.length<=n:=by
 have hsh:WShape.hasAll [] args [.list .int]=true:=(pre_splitW hpre).1
 have hc:l.pre.holds [] { args:=args }=true:=(pre_splitW hpre).2
 obtain ⟨d,r,rfl,h1,h2⟩:=hasAllW_cons hsh
 obtain rfl:=hasAllW_nil h2
 obtain ⟨xs,rfl,h3⟩:=hasW_list h1
 obtain ⟨ns,rfl⟩:=items_int h3
 have hlen:ns.length<=n:=by
  unfold OpenLaw.pre at hc
  have h4:(WTm.not (.lt (.lit (.int (n:Int))) (.len (.arg 0)))).holds [] { args:=[.list (ns.map .int)] }=true:=by
   have h4:=(holds_andW hc).1
   rw [hn] at h4
   exact h4
  have h5:=condW_of h4 (w_not (w_lt w_lit (w_len_list (w_arg rfl))))
  rw [ap9] at h5
  refine Nat.le_of_not_lt fun q=>?_
  have q':(n:Int) < ((ns.length:Nat):Int):=by lia
  first
   | (rw [ap7 q'] at h5; exact absurd h5 (by decide))
   | (simp at h5; lia)
 cases hwl with
 | cons w1 w2=>
  cases w2
  cases w1 with
  | list ho hall=>exact⟨_,_,ns,rfl,rfl,ho,K3 ns _ hall,hlen⟩
theorem tH (l:OpenLaw) (args:List WData):l.row.toRowW.claim.post args (.bool true) args=true:=
 postW_of (r:=l.row.toRowW) (X:=(true == true))
  (show WShape.has [] (.bool true) .bool=true by first | rfl | decide | simp [WShape.has,WShape.arms,WShape.armsAll])
  (show (WTm.eq .res (.lit (.bool true))).value [] { args:=args,res:=some (.bool true),after:=args }=some (.bool (true == true)) from w_eq_bool (w_res rfl) w_lit) rfl
theorem an9 {l:OpenLaw}{n:Nat}{q:Program}{loose:List Str}{XP:(Str->Option Value)->Heap->Prop}{YP:World->Heap->Prop}{d:DefRec}{x:Str}
  (hn:l.most=some n) (hdf:d.params.defaults = [])
  (hbind:∀ pm cd doc v:Value,bindArgs (docDef d.name d.params d.body d.scope pm cd doc) ⟨[v],[]⟩=pure [(x,v)])
  (hx:d.scope.names.lookup x=some .local ∨ d.scope.names.lookup x=some .cell)
  (hk:d.scope.kind = .function) (hco:d.scope.isCoroutine=false) (hgen:d.scope.isGenerator=false)
  (body:∀ (w:World) (s₀ s₁ s:Shared) (mg mb:Str->Option Value) (fa:Addr) (o:Obj) (pm cd doc:Value) (a:Addr) (vs:List Value) (ns:List Int),
   Ground q loose [] XP w s₀ mg mb s₁.heap->YP w s₁.heap->
   s₁.heap.get? fa=some o->o.data = .func (docDef d.name d.params d.body d.scope pm cd doc)->s₁.heap.CodeRec cd d.name->mg d.name=some (.ref fa)->
   s₁.heap.get? a=some { cls:=.type "list",data:=.seq vs.toArray }->IntsAre vs ns->ns.length<=n->
   s.gens = #[]->s.os=s₁.os->
   Fr s₁.heap s₁.heap.objs.size s.heap (bindL (envOfC d.name d.scope s₁.heap.objs.size fa cd).kindOf [(x,.ref a)] fun _=>none)->
   Cl s₁.heap.objs.size (cellsFrom (s₁.heap.objs.size+1) d.scope.names []) s.heap (bindC (envOfC d.name d.scope s₁.heap.objs.size fa cd).kindOf [(x,.ref a)] fun _=>none)->
   wpAny (model l.prog w) (callerA.deeper (envOfC d.name d.scope s₁.heap.objs.size fa cd)) (execs d.body (envOfC d.name d.scope s₁.heap.objs.size fa cd))
    (fun f s'=>f = .ret (.bool true)/\OldK s₁.heap s'.heap/\s'.os=s₁.os/\AllBare s'.gens) (fun _ _=>False) s) :
  WalkO q loose XP YP l.row.toRowW d [] (fun f vs=>PySem.call f vs):=by
 intro w s₀ s₁ mg mb G Y fa o pm cd doc dV kV ho hd hcd hD hmg hg args vals as hpre hlay hrd hwl hlo
 obtain rfl:dV = .none:=Dflts.none hD hdf
 obtain rfl:kV = .none:=Dflts.noKw hD
 obtain ⟨a,vs,ns,rfl,rfl,hobj,hints,hlen⟩:=tG hn hpre hwl
 refine enter_call ?_
 refine call_cells_ret (o:=o) (by rw [depth_caller]; decide) ho (fd_plain hd) G.T.nolimit hcd (hbind pm cd doc (.ref a)) (fun y hy=>?_) (fun h₁ tk F X=>?_) hco hgen hk
 ·obtain rfl:y=(x,Value.ref a):=aq3.mp hy
  rcases hx with e | e
  ·exact .inl e
  ·exact .inr ⟨e,cellsFrom_some _ _ _ (.inl e)⟩
 ·refine au5 (body w s₀ s₁ { s₁ with heap:=h₁,toks:=tk } mg mb fa o pm cd doc a vs ns G Y ho (fd_plain hd) hcd hmg hobj hints hlen hg rfl F X) (fun f s' hq=>?_) (fun _ _ hq=>hq)
  obtain ⟨rfl,h2,h3,h4⟩:=hq
  exact⟨.inl ⟨.bool true,.bool true,[],rfl,fun _=>rfl,.bool true,tH l _,fun _=>⟨List.Pairwise.nil,fun _ hm=>(nomatch hm)⟩⟩,h2,h3,h4⟩
theorem K4 {l:OpenLaw}{n:Nat}{q:Program}{loose:List Str}{XP:(Str->Option Value)->Heap->Prop}{YP:World->Heap->Prop}{d:DefRec}
  (hn:l.most=some n) (hdf:d.params.defaults = [])
  (call:∀ (w:World) (s₀ s₁:Shared) (mg mb:Str->Option Value) (fa:Addr) (o:Obj) (pm cd doc:Value) (a:Addr) (vs:List Value) (ns:List Int),
   Ground q loose [] XP w s₀ mg mb s₁.heap->YP w s₁.heap->
   s₁.heap.get? fa=some o->o.data = .func (docDef d.name d.params d.body d.scope pm cd doc)->s₁.heap.CodeRec cd d.name->mg d.name=some (.ref fa)->
   s₁.heap.get? a=some { cls:=.type "list",data:=.seq vs.toArray }->IntsAre vs ns->ns.length<=n->s₁.gens = #[]->
   codeAny (model l.prog w) callerA (.call (.ref fa) ⟨[.ref a],[]⟩) (fun r s'=>r = .ok (.ret (.bool true))/\OldK s₁.heap s'.heap/\s'.os=s₁.os/\AllBare s'.gens) s₁) :
  WalkO q loose XP YP l.row.toRowW d [] (fun f vs=>PySem.call f vs):=by
 intro w s₀ s₁ mg mb G Y fa o pm cd doc dV kV ho hd hcd hD hmg hg args vals as hpre hlay hrd hwl hlo
 obtain rfl:dV = .none:=Dflts.none hD hdf
 obtain rfl:kV = .none:=Dflts.noKw hD
 obtain ⟨a,vs,ns,rfl,rfl,hobj,hints,hlen⟩:=tG hn hpre hwl
 refine enter_call (codeAny_mono (call w s₀ s₁ mg mb fa o pm cd doc a vs ns G Y ho (fd_plain hd) hcd hmg hobj hints hlen hg) fun r s' hq=>?_)
 obtain ⟨rfl,h2,h3,h4⟩:=hq
 exact⟨.inl ⟨.bool true,.bool true,[],rfl,fun _=>rfl,.bool true,tH l _,fun _=>⟨List.Pairwise.nil,fun _ hm=>(nomatch hm)⟩⟩,h2,h3,h4⟩
end Att
namespace L2
open PySem PySem.Spec PyProof.Rows
theorem tI:∀ {vs:List Value}{ns:List Int},IntsAre vs ns->aF (ns.map V.int) vs
 | _,_,.nil=>.nil
 | _,_,.cons n t h=>.cons ⟨t,rfl⟩ (tI h)
noncomputable def lA (H:Hp):Prop:=∀ b,H b=none ∨ ∃ o xs,H b=some (.frz o (.lst xs))
theorem K5 {P:Program}{w:World}{K:PySem.W.Frag}{mg mb:Str->Option Value}{CX:dZ}{k:Nat}{fa a:Addr}{fd:FuncData}{x:Str}{sp:Sp}{s₁:Shared}{vs:List Value}{ns:List Int}
  (KX:K.In s₁.heap) (hns:s₁.heap.Ns mainGlobals mg) (hb:s₁.heap.Ns builtinsNs mb) (hbb:∀ x:Str,x ≠ "__name__"->mb x=bootBuiltins x) (hlim:s₁.heap.NoLimit) (hg:s₁.gens = #[])
  (ha:s₁.heap.get? a=some { cls:=.type "list",data:=.seq vs.toArray }) (hi:IntsAre vs ns) (hl:ns.length<=sizeLine) (hr:bB k callerA)
  (F:∀ base:Heap,K.In base->base.Ns mainGlobals mg->bZ P w K mg base CX k fa fd [x] sp) (hbind:∀ (s:Shared) (u:Value),BindsTo s fd ⟨[u],[]⟩ [(x,u)])
  (hsp:∀ H:Hp,lA H->aG K H a (ns.map V.int)->sp [.ref a] H (fun v _=>v = .bl true) fun _ _ _=>False)
  (hCX:∀ H e s',CX [] H s₁ (fun _ _ _=>False) e s'->False) :
  codeAny (model P w) callerA (.call (.ref fa) ⟨[.ref a],[]⟩) (fun r s'=>r = .ok (.ret (.bool true))/\OldK s₁.heap s'.heap/\s'.os=s₁.os/\AllBare s'.gens) s₁:=by
 have rv:=tI hi
 have lenV:=hi.length
 have core:∀ H:Hp,lA H->aG K H a (ns.map V.int)->bD P w H s₁.heap->(∀ b,H b ≠ none->b=a)->(H a ≠ none->K.lookup a=none)->
   codeAny (model P w) callerA (.call (.ref fa) ⟨[.ref a],[]⟩) (fun r s'=>r = .ok (.ret (.bool true))/\OldK s₁.heap s'.heap/\s'.os=s₁.os/\AllBare s'.gens) s₁:=by
  intro H hO hS hok hA hK
  have base_of:∀ {b:Addr}{o:Obj},s₁.heap.get? b=some o->H b=none->(fN s₁.heap H).get? b=some o:=fun e n=>yR e n
  have noA:∀ {b:Addr}{o:Obj}{es:Array DictEntry}{ep:Nat},s₁.heap.get? b=some o->o.data = .dict es ep->H b=none:=fun {b o es ep} e d=>by
   cases q:H b with
   | none=>rfl
   | some u=>
    have e':b=a:=hA b (by rw [q]; simp)
    subst e'
    rw [ha] at e; cases e
    have d':Data.seq vs.toArray _=Data.dict es ep:=d
    cases d'
  have nsK:∀ {b:Addr}{m:Str->Option Value},s₁.heap.Ns b m->(fN s₁.heap H).Ns b m:=fun {b m} ⟨o,es,ep,e,d,r⟩=>⟨o,es,ep,base_of e (noA e d),d,r⟩
  have hKb:K.In (fN s₁.heap H):=fun b o e=>base_of (KX b o e) (by
   cases q:H b with
   | none=>rfl
   | some u=>
    have e':b=a:=hA b (by rw [q]; simp)
    subst e'
    rw [hK (by rw [q]; simp)] at e; cases e)
  have hM:Mod K mg (fN s₁.heap H):=⟨hKb,nsK hns,⟨mb,nsK hb,hbb⟩,let ⟨mc,h1,h2⟩:=hlim; ⟨mc,nsK h1,h2⟩⟩
  have e0:l9 P w K mg (fN s₁.heap H) callerA [] s₁ H:=⟨rfl,hM,fun b o e=>yS e,Nat.le_of_eq (yQ _ _),trivial,fun b hb=>absurd (show b ∈ ([]:List Addr) from hb) (by simp),hok,.of_eq hg⟩
  refine codeAny_mono ((F _ hKb (nsK hns)).run callerA [] s₁ H ⟨[.ref a],[]⟩ [.ref a] [.ref a] _ _ hr e0 (hbind s₁ (.ref a)) (.cons rfl .nil) (hsp H hO hS)) fun r s' h=>?_
  cases r with
  | error e=>exact (hCX H e s' h).elim
  | ok fl=>
   cases fl with
   | next=>exact False.elim h
   | brk=>exact False.elim h
   | cont=>exact False.elim h
   | ret u=>
    obtain ⟨v,H',os,bare,un,hok',r',q⟩:=h
    have q':v = .bl true:=q
    subst q'
    obtain rfl:u=Value.bool true:=r'
    refine⟨rfl,OldK.of_keep fun b o e=>?_,os,bare⟩
    cases q:H b with
    | none=>exact un.keep b o e q (by intro z; exact absurd (show b ∈ ([]:List Addr) from z) (by simp)) (by simp)
    | some u=>
     rcases hO b with z | ⟨ob,xs,z⟩
     ·rw [q] at z; cases z
     ·have z2:=un.frzs b ob _ z
      obtain ⟨e1,_⟩:=hok b _ z
      obtain ⟨e2,_⟩:=hok' b _ z2
      rw [e] at e1; cases e1
      exact e2
 cases hk:K.lookup a with
 | some o=>
  have e:=KX a o hk
  rw [ha] at e
  cases e
  refine core (fun _=>none) (fun _=>.inl rfl) (.inr ⟨_,vs.toArray,_,hk,rfl,rfl,rfl,by rw [ao4,lenV]; exact hl,by simpa using rv⟩) (fun b u z=>by have z':(none:Option HO)=some u:=z; cases z') (fun b z=>absurd rfl z) fun z=>absurd rfl z
 | none=>
  refine core (fun b=>if b=a then some (.frz { cls:=.type "list",data:=.seq vs.toArray } (.lst (ns.map V.int))) else none) (fun b=>?_) (.inl (.inr ⟨{ cls:=.type "list",data:=.seq vs.toArray },if_pos rfl⟩)) (fun b u z=>?_) (fun b z=>?_) fun _=>hk
  ·by_cases hb:b=a
   ·exact .inr ⟨_,_,if_pos hb⟩
   ·exact .inl (if_neg hb)
  ·by_cases hb:b=a
   ·have z':=(if_pos hb).symm.trans z
    cases z'
    subst hb
    exact⟨ha,by rw [ap9]; exact hl,vs,_,rv,ha⟩
   ·have z':=(if_neg hb).symm.trans z
    cases z'
  ·by_cases hb:b=a
   ·exact hb
   ·exact absurd (if_neg hb) z
theorem K6 {l:PySem.W.OpenLaw}{n k:Nat}{q:Program}{loose:List Str}{XP:(Str->Option Value)->Heap->Prop}{YP:World->Heap->Prop}{d:DefRec}{K:Params->PySem.W.Frag}{CX:World->dZ}{sp:World->Sp}{x:Str}
  (hn:l.most=some n) (hn2:n<=sizeLine) (hdf:d.params.defaults = []) (hr:bB k callerA)
  (hY:∀ (w:World) (h:Heap),YP w h->(K w.params).In h)
  (F:∀ (w:World) (mg:Str->Option Value) (fa:Addr) (h:Heap),(K w.params).In h->h.Ns mainGlobals mg->mg d.name=some (.ref fa)->
   ∃ fd:FuncData,(∀ (s:Shared) (u:Value),BindsTo s fd ⟨[u],[]⟩ [(x,u)])/\
    ∀ base:Heap,(K w.params).In base->base.Ns mainGlobals mg->bZ l.prog w (K w.params) mg base (CX w) k fa fd [x] (sp w))
  (hsp:∀ (w:World) (H:Hp) (a:Addr) (ns:List Int),ns.length<=n->lA H->aG (K w.params) H a (ns.map V.int)->sp w [.ref a] H (fun v _=>v = .bl true) fun _ _ _=>False)
  (hCX:∀ (w:World) (H:Hp) (s:Shared) (e:Value) (s':Shared),CX w [] H s (fun _ _ _=>False) e s'->False) :
  PySem.W.WalkO q loose XP YP l.row.toRowW d [] (fun f vs=>PySem.call f vs):=by
 refine Att.K4 hn hdf fun w s₀ s₁ mg mb fa o pm cd doc a vs ns G Y ho hd hcd hmg hobj hints hlen hg=>?_
 have KX:=hY w _ Y
 obtain ⟨fd,hb,hF⟩:=F w mg fa _ KX G.T.g hmg
 exact K5 KX G.T.g G.T.b G.T.builtins G.T.nolimit hg hobj hints (as7 hlen hn2) hr hF hb (fun H hO hS=>hsp w H a ns hlen hO hS) fun H e s'=>hCX w H s₁ e s'
noncomputable def fR (s:Stmt):Arguments:=match s with
 | .FunctionDef _ a _ _ _ _ _ _ _ _=>a
 | _=>{ posonlyargs:=[],args:=[],vararg:=none,kwonlyargs:=[],kw_defaults:=[],kwarg:=none,defaults:=[] }
noncomputable def cS (s:Stmt):List Stmt:=match s with
 | .FunctionDef _ _ b _ _ _ _ _ _ _=>b
 | _=>[]
noncomputable def aO (s:Stmt):Scope:=match s with
 | .FunctionDef _ _ _ _ _ _ sc _ _ _=>sc
 | _=>{ kind:=.function,names:=[],isGenerator:=false,isCoroutine:=false }
noncomputable abbrev dA:dZ:=fun _ _ _ _ _ _=>False
noncomputable abbrev E0:XK:=fun _ _ _=>False
theorem K7 {X:Cx}:jK dA X E0:=fun _ _ _ _ _ _ _ h=>h.elim
structure dJ (K:PySem.W.Frag) (x qual:Str) (st:Stmt) (f:Addr) (fd:FuncData):Prop where
 ex:∃ (oc:Value) (od:Option Addr) (kV doc pm:Value) (an:Option Addr) (cdv ct:Value) (osl:Array (Option Value)),
  fd=PySem.W.fnOf x qual (fR st) (cS st) (aO st) .none kV doc pm an cdv ct/\K.lookup f=some ⟨oc,od,.func fd,osl⟩/\PySem.W.codeIn K cdv qual=true
 kp:PySem.W.keepIn K (.ref f)=true
section
variable {P : Program} {w : World} {K : PySem.W.Frag} {mg : Str → Option Value} {base : Heap}
theorem dJ.ok {x qual:Str}{st:Stmt}{f:Addr}{fd:FuncData}{N ps:List Str}{k:Nat}{sp:Sp} (F:dJ K x qual st f fd) (S:FnScope N ps (aO st)) (len:∀ vs H Q E,sp vs H Q E->vs.length=ps.length)
  (hbody:∀ (cdv:Value) (A:Around) (outer:List Env) (s:Shared) (H:Hp) (vs:List V) (Q:VK) (E:XK),bB k (A.deeper (envOfC qual (aO st) s.heap.objs.size f cdv))->sp vs H Q E->
   ∃ t,cH (bW dA P w K mg base N qual (aO st) f cdv A outer s H E).nox (cS st) t/\t { nx:=fun _ H'=>Q .non H',rt:=Q } (e8 N vs) H):bZ P w K mg base dA (k+1) f fd ps sp:=by
 obtain ⟨oc,od,kV,doc,pm,an,cdv,ct,osl,rfl,lk,hcd⟩:=F.ex
 refine sR lk hcd S len fun A outer s H vs Q E hr hsp=>?_
 obtain ⟨t,h,q⟩:=hbody cdv A outer s H vs Q E hr hsp
 exact⟨t,h.nox,q⟩
theorem dJ.binds {x qual:Str}{st:Stmt}{f:Addr}{fd:FuncData}{ps:List Str} (F:dJ K x qual st f fd)
  (h:∀ (kV doc pm:Value) (an:Option Addr) (cdv ct:Value) (us:List Value),us.length=ps.length->bindArgs (PySem.W.fnOf x qual (fR st) (cS st) (aO st) .none kV doc pm an cdv ct) ⟨us,[]⟩=pure (ps.zip us)):fP K fd ps []:=by
 obtain ⟨oc,od,kV,doc,pm,an,cdv,ct,osl,rfl,lk,hcd⟩:=F.ex
 exact .all (h kV doc pm an cdv ct)
theorem K8 {x qual:Str}{st:Stmt}{f:Addr}{oc:Value}{od an:Option Addr}{osl:Array (Option Value)}{kV doc pm cdv ct:Value} (l:K.lookup f=some ⟨oc,od,.func (PySem.W.fnOf x qual (fR st) (cS st) (aO st) .none kV doc pm an cdv ct),osl⟩)
  (c:PySem.W.codeIn K cdv qual=true) (k:PySem.W.keepIn K (.ref f)=true):dJ K x qual st f (PySem.W.fnOf x qual (fR st) (cS st) (aO st) .none kV doc pm an cdv ct):=⟨⟨oc,od,kV,doc,pm,an,cdv,ct,osl,rfl,l,c⟩,k⟩
end
theorem K9 {A:Around}{k:Nat} (hr:bB k A):A.units+1 < cLine:=Nat.lt_of_le_of_lt (Nat.add_le_add_left (by decide:1<=64) _) hr.units
theorem L4 {n:Nat} (h:n<=1000):n < sizeLine:=Nat.lt_of_le_of_lt h (by decide)
section
variable {X : Cx}
theorem L5:bV X (.builtin "len") (fun xs H Q=>∃ a kvs,xs = [V.ref a]/\H a=some (.dK kvs)/\Q (.int kvs.length) H):=by
 intro pins s σ H xs us Q I r h
 obtain ⟨a,kvs,rfl,ha,q⟩:=h
 obtain ⟨u,rfl,ru⟩:=eW r
 cases ru
 exact K2 I (.inl ha) fun t s' I'=>⟨.int kvs.length,H,I',⟨t,rfl⟩,q⟩
end
theorem aS {A B:Prop} (h:B):if false=true then A else B:=by
 rw [if_neg aq5]
 exact h
theorem bI {A B:Prop} (h:A):if true=true then A else B:=by
 rw [if_pos rfl]
 exact h
noncomputable def a9 (H H':Hp):Prop:=∀ b o,H b=some o->H' b=some o
theorem a9.refl (H:Hp):a9 H H:=fun _ _ h=>h
theorem a9.trans {H H1 H2:Hp} (a:a9 H H1) (b:a9 H1 H2):a9 H H2:=fun c o h=>b c o (a c o h)
theorem a9.free {H H':Hp} (e:a9 H H') {l:Addr} (h:H' l=Option.none):H l=Option.none:=by
 cases q:H l with
 | none=>rfl
 | some o=>
  rw [e l o q] at h
  cases h
noncomputable def cN (cells:List (Str × Addr)):List (Str × NameKind)->List (Str × Addr)->List (Str × Addr)
 | [],cs=>cs
 | (n,k) :: r,cs=>cN cells r (if k == .free then (n,(cells.lookup n).getD 0) :: cs else cs)
theorem oI {env:Env}:∀ (ns:List (Str × NameKind)) (cs:List (Str × Addr)),(∀ x ∈ ns,x.2 = .free->∃ c,env.cells.lookup x.1=some c)->
  (forIn ns cs (fun (x:Str × NameKind) r=>(match x with
   | (name,kind)=>if (kind == .free)=true then (do let y <- cellOf env name; pure (ForInStep.yield ((name,y) :: r))) else pure (ForInStep.yield r)):_->_->Sem _))=(pure (cN env.cells ns cs):Sem (List (Str × Addr)))
 | [],cs,_=>by rw [List.forIn_nil]; rfl
 | (n,k) :: r,cs,h=>by
  rw [List.forIn_cons]
  have hr:∀ x ∈ r,x.2 = .free->∃ c,env.cells.lookup x.1=some c:=fun x hx=>h x (aq4 _ hx)
  cases hk:(k == NameKind.free) with
  | true=>
   have e:k = .free:=by simpa using hk
   obtain ⟨c,hc⟩:=h (n,k) aq9 e
   simp only [hk,if_true]
   have e1:cellOf env n=pure c:=by unfold cellOf; rw [hc]
   rw [e1]
   show ((pure c >>= fun y=>pure (ForInStep.yield ((n,y) :: cs))) >>= _:Sem _)=_
   rw [pure_bind,pure_bind]
   have:=oI (env:=env) r ((n,c) :: cs) hr
   refine this.trans ?_
   unfold cN
   simp only [hk,if_true,hc,Option.getD_some]
   cases r <;> rfl
  | false=>
   simp only [hk,as8,aA1]
   rw [pure_bind]
   have:=oI (env:=env) r cs hr
   refine this.trans ?_
   conv=>rhs; unfold cN
   simp only [hk,as8,aA1]
theorem tJ {scope:Scope}{env:Env} (h:∀ x ∈ scope.names,x.2 = .free->∃ c,env.cells.lookup x.1=some c):closureFor scope env=pure (cN env.cells scope.names []):=by
 have e:=oI (env:=env) scope.names [] h
 unfold closureFor
 rw [show (pure (cN env.cells scope.names []):Sem (List (Str × Addr)))=(pure (cN env.cells scope.names []) >>= pure) by rw [pure_bind]]
 rw [<- e]
theorem lB {cells:List (Str × Addr)}:∀ (ns:List (Str × NameKind)) (cs:List (Str × Addr)) {x:Str}{c:Addr},(∀ y ∈ ns,y.2 = .free->∃ c,cells.lookup y.1=some c)->
  (∀ x c,cs.lookup x=some c->cells.lookup x=some c)->(cN cells ns cs).lookup x=some c->cells.lookup x=some c
 | [],cs,x,c,_,hc,h=>hc x c h
 | (n,k) :: r,cs,x,c,hn,hc,h=>by
  unfold cN at h
  have hr:∀ y ∈ r,y.2 = .free->∃ c,cells.lookup y.1=some c:=fun y hy=>hn y (aq4 _ hy)
  cases hk:(k == NameKind.free) with
  | false=>
   simp only [hk,as8,aA1] at h
   exact lB r cs hr hc h
  | true=>
   simp only [hk,if_true] at h
   refine lB r _ hr (fun y d e=>?_) h
   obtain ⟨c0,h0⟩:=hn (n,k) aq9 (by simpa using hk)
   have h0:cells.lookup n=some c0:=h0
   rw [h0] at e
   rw [as6] at e
   by_cases hyn:y=n
   ·subst hyn
    simp only [at7,Option.getD_some] at e
    rw [h0]; exact e
   ·have:(y == n)=false:=ay1.mpr hyn
    simp only [this] at e
    exact hc y d e
theorem oJ {cells:List (Str × Addr)}:∀ (ns:List (Str × NameKind)) (cs:List (Str × Addr)) {x:Str},((x,NameKind.free) ∈ ns ∨ ∃ c,cs.lookup x=some c)->∃ c,(cN cells ns cs).lookup x=some c
 | [],cs,x,h=>by
  rcases h with h | h
  ·simp at h
  ·exact h
 | (n,k) :: r,cs,x,h=>by
  unfold cN
  refine oJ r _ ?_
  rcases h with h | ⟨c,h⟩
  ·rcases ap0.mp h with e | e
   ·cases e
    exact .inr ⟨_,by simp [as6]; rfl⟩
   ·exact .inl e
  ·right
   cases hk:(k == NameKind.free) with
   | false=>exact⟨c,by simpa [hk] using h⟩
   | true=>
    simp only [if_true]
    rw [as6]
    by_cases hxn:(x == n)=true
    ·simp only [hxn]; exact⟨_,rfl⟩
    ·simp only [Bool.eq_false_iff.mpr hxn]; exact⟨c,h⟩
theorem lC {env:Env}:∀ {names:List (Str × NameKind)}{x:Str}{k:NameKind},(names.map fun (n,k)=>if (k == NameKind.free && env.scope.kind == .function && env.kindOf n == some .cell) then (n,NameKind.cell) else (n,k)).lookup x=some k->
  names.lookup x=some k ∨ (names.lookup x=some .free/\k = .cell)
 | [],_,_,h=>by simp at h
 | (n,q) :: r,x,k,h=>by
  have ih:=@lC env r x k
  rw [List.map_cons] at h
  by_cases hx:(x == n)=true
  ·have e:x=n:=by simpa using hx
   subst e
   by_cases hc:(q == NameKind.free && env.scope.kind == .function && env.kindOf x == some .cell)=true
   ·simp only [hc,if_true,as6,at7] at h
    have hq:q = .free:=by simp at hc; exact hc.1.1
    exact .inr ⟨by simp [as6,hq],(ar1 h).symm⟩
   ·simp only [hc,as8,aA1,as6,at7] at h
    exact .inl (by simp [as6]; exact ar1 h)
  ·have hx':(x == n)=false:=Bool.eq_false_iff.mpr hx
   have h':(r.map fun (n,k)=>if (k == NameKind.free && env.scope.kind == .function && env.kindOf n == some .cell) then (n,NameKind.cell) else (n,k)).lookup x=some k:=by
    by_cases hc:(q == NameKind.free && env.scope.kind == .function && env.kindOf n == some .cell)=true
    ·simp only [hc,if_true,as6,hx'] at h; exact h
    ·simp only [hc,as8,aA1,as6,hx'] at h; exact h
   simp only [as6,hx']
   exact ih h'
noncomputable def dL (fr:List (Option Nat)) (σ:St):St:=fr.map fun o=>o.bind fun j=>(σ[j]?).join
noncomputable def Wk (σ₁ σ₂:St):Prop:=σ₁.length=σ₂.length/\∀ (i:Nat) v,σ₁[i]? = some (some v)->σ₂[i]? = some (some v)
theorem fS:∀ (ns:List (Str × NameKind)) (n:Nat) (cs:List (Str × Addr)),cellsFrom n ns cs=cellsFrom n ns [] ++ cs
 | [],_,_=>rfl
 | (x,k) :: r,n,cs=>by
  unfold cellsFrom
  split
  ·rw [fS r (n+1) ((x,n) :: cs),fS r (n+1) [(x,n)]]; simp
  ·exact fS r n cs
theorem oK:∀ (ns:List (Str × NameKind)) (n:Nat) {x:Str}{c:Addr},(x,c) ∈ cellsFrom n ns []->(x,NameKind.cell) ∈ ns
 | [],_,_,_,h=>by simp [cellsFrom] at h
 | (y,k) :: r,n,x,c,h=>by
  unfold cellsFrom at h
  split at h
  ·rename_i hk
   rw [fS] at h
   rcases au2.mp h with z | z
   ·exact aq4 _ (oK r _ z)
   ·rw [aq3] at z
    cases z
    have:k = .cell:=by simpa using hk
    rw [this]; exact aq9
  ·exact aq4 _ (oK r _ h)
theorem lD:∀ (ns:List (Str × NameKind)) (n:Nat) {x:Str},(x,NameKind.cell) ∈ ns->∃ c,(x,c) ∈ cellsFrom n ns []
 | (y,k) :: r,n,x,h=>by
  unfold cellsFrom
  rcases ap0.mp h with z | z
  ·cases z
   rw [if_pos (by rfl),fS]
   exact⟨n,ar0 _ (by simp)⟩
  ·split
   ·obtain ⟨c,hc⟩:=lD r (n+1) z
    rw [fS]
    exact⟨c,ax4 _ hc⟩
   ·exact lD r n z
theorem oM {α:Type}:∀ {l:List (Str × α)}{x:Str}{c:α},(x,c) ∈ l->∃ d,l.lookup x=some d
 | (y,v) :: r,x,c,h=>by
  rw [as6]
  cases hb:x == y with
  | true=>exact⟨v,rfl⟩
  | false=>
   rcases ap0.mp h with z | z
   ·cases z; simp at hb
   ·exact oM z
theorem lE {α:Type}{x:Str}:∀ (l r:List (Str × α)),(l ++ r).lookup x=(match l.lookup x with | some v=>some v | none=>r.lookup x)
 | [],_=>rfl
 | (y,v) :: l,r=>by
  rw [List.cons_append,as6,as6]
  cases hb:x == y with
  | true=>rfl
  | false=>exact lE l r
noncomputable def e9 (X:Cx) (scope:Scope) (C:Addr):List (Str × Addr):=cellsFrom (C+1) scope.names (cN X.env.cells scope.names [])
theorem gV {X:Cx}{scope:Scope}{C:Addr}{x:Str}{c:Addr} (h:(e9 X scope C).lookup x=some c) :
  (x,c) ∈ cellsFrom (C+1) scope.names [] ∨ ((∀ d,(x,d) ∉ cellsFrom (C+1) scope.names [])/\(cN X.env.cells scope.names []).lookup x=some c):=by
 unfold e9 at h
 rw [fS,lE] at h
 cases e:(cellsFrom (C+1) scope.names []).lookup x with
 | some v=>rw [e] at h; cases h; exact .inl (ar9 e)
 | none=>
  rw [e] at h
  refine .inr ⟨fun d hd=>?_,h⟩
  obtain ⟨d',z⟩:=oM hd
  rw [e] at z; cases z
theorem L6 {X:Cx}{scope:Scope}{C:Addr}{x:Str}{c:Addr} (hn:(x,NameKind.cell) ∉ scope.names) (h:(cN X.env.cells scope.names []).lookup x=some c):(e9 X scope C).lookup x=some c:=by
 unfold e9
 rw [fS,lE]
 cases e:(cellsFrom (C+1) scope.names []).lookup x with
 | some v=>exact absurd (oK _ _ (ar9 e)) hn
 | none=>exact h
theorem tK {X:Cx}{scope:Scope}{C:Addr}{x:Str} (h:(x,NameKind.cell) ∈ scope.names ∨ ∃ c,(cN X.env.cells scope.names []).lookup x=some c):∃ c,(e9 X scope C).lookup x=some c:=by
 unfold e9
 rw [fS,lE]
 cases e:(cellsFrom (C+1) scope.names []).lookup x with
 | some v=>exact⟨v,rfl⟩
 | none=>
  rcases h with h | h
  ·obtain ⟨c,hc⟩:=lD scope.names (C+1) h
   obtain ⟨d,hd⟩:=oM hc
   rw [e] at hd; cases hd
  ·exact h
noncomputable def bE (X:Cx) (scope:Scope) (N:List Str) (s:Shared) (H:Hp) (C:Addr) (fp:List Addr) (E:Value->Shared->Prop):Cx:=
 { X with N:=N,s₀:=s,H₀:=H,env:=compEnvC scope (e9 X scope C) C X.env,outer:=X.stack,ex:=fp,fn:=fun x=>scope.names.lookup x == some .cell,pn:=[],xe:=E }
structure cT (X:Cx) (scope:Scope) (N:List Str) (fr:List (Option Nat)):Prop where
 kind:scope.kind = .function
 own:∀ y ∈ scope.names,y.2 = .cell->scope.names.lookup y.1=some .cell
 names:∀ y ∈ scope.names,y.2 = .local->scope.names.lookup y.1=some .local
 free:∀ y ∈ scope.names,y.2 = .free->X.env.scope.names.lookup y.1=some .cell ∨ X.env.scope.names.lookup y.1=some .free
 len:fr.length=N.length
 from_:∀ (i j:Nat),fr[i]? = some (some j)->∃ x,N[i]? = some x/\X.N[j]? = some x/\scope.names.lookup x=some .free
section
variable {X : Cx} {pins : List (Addr × Obj)} {σ : St} {H : Hp} {s : Shared} {scope : Scope} {N : List Str} {fr : List (Option Nat)}
theorem cT.cells (S:cT X scope N fr) (I:a5 X pins σ H s):∀ y ∈ scope.names,y.2 = .free->∃ c,X.env.cells.lookup y.1=some c:=fun y hy hk=>I.ok.has y.1 (S.free y hy hk)
theorem L7 {C D:Addr}{fp:List Addr}{E:Value->Shared->Prop}{h1:Heap}{tk:Nat}{m:Str->Option Value} (S:cT X scope N fr) (I:a5 X pins σ H s)
  (hf:∀ b ∈ fp,dI X pins H b) (hfl:∀ b ∈ fp,b < s.heap.objs.size) (hD:s.heap.objs.size<=D) (hC:s.heap.objs.size<=C) (hDC:D < C)
  (old:∀ b o,s.heap.get? b=some o->h1.get? b=some o) (hns:h1.Ns C m) (hacc:h1.get? D=some { cls:=.type "list",data:=.seq #[] 0 }) (hco:CellsOk h1 (C+1) (cellsFrom (C+1) scope.names [])) :
  a5 (bE X scope N s H C fp E) [] (dL fr σ) (upd H D (.lst [])) { s with heap:=h1,toks:=tk }:=by
 have hHD:H D=none:=I.hok.fresh hD
 have cl:=S.cells I
 have cs:∀ {x:Str}{c:Addr},(cN X.env.cells scope.names []).lookup x=some c->X.env.cells.lookup x=some c:=fun {x c} h=>lB scope.names [] cl (fun _ _ z=>by simp at z) h
 have clt:∀ {x:Str}{c:Addr},X.env.cells.lookup x=some c->c < s.heap.objs.size:=fun {x c} h=>by obtain ⟨v,z⟩:=I.cell x c h; exact z.lt
 have nge:∀ {x:Str}{c:Addr},(x,c) ∈ cellsFrom (C+1) scope.names []->C < c:=fun {x c} h=>(hco.empty x c h).2
 refine⟨⟨I.ok.mod,?_,I.ok.glob,I.ok.blt,hC,?_,?_,?_,I.ok.hd,I.ok.frames,.inl rfl,?_,I.bs,as7 I.ok.bsz I.sz,?_,?_,I.stack,I.stkFree⟩,rfl,I.bare,Un.laid old hD hHD,⟨m,hns,?_⟩,?_,?_,?_,fun p hp=>absurd (show p ∈ ([]:List (Addr × Obj)) from hp) (by simp),?_,?_⟩
 ·exact S.kind
 ·intro x y c h1 h2
  rcases gV h1 with a | ⟨_,a⟩ <;> rcases gV h2 with b | ⟨_,b⟩
  ·exact name_of_addr hco.apart a b
  ·exact absurd (ap1 (Nat.lt_trans (nge a) (clt (cs b))) hC) (at8 _)
  ·exact absurd (ap1 (Nat.lt_trans (nge b) (clt (cs a))) hC) (at8 _)
  ·exact I.ok.inj x y c (cs a) (cs b)
 ·intro x hx
  have hx:(relabel scope X.env).names.lookup x=some .cell ∨ (relabel scope X.env).names.lookup x=some .free:=hx
  have fin:(x,NameKind.free) ∈ scope.names->∃ c,(e9 X scope C).lookup x=some c:=fun z=>tK (.inr (oJ scope.names [] (.inl z)))
  rcases hx with hx | hx
  ·rcases lC hx with z | z
   ·exact tK (.inl (ar9 z))
   ·exact fin (ar9 z.1)
  ·rcases lC hx with z | z
   ·exact fin (ar9 z)
   ·exact absurd z.2 (by decide)
 ·intro x c hx h
  have hx:(scope.names.lookup x == some NameKind.cell)=true:=hx
  have hx:scope.names.lookup x=some .cell:=by simpa using hx
  rcases gV h with a | ⟨a,_⟩
  ·exact as7 hC (ax0 (nge a))
  ·obtain ⟨d,hd⟩:=lD scope.names (C+1) (ar9 hx)
   exact absurd hd (a d)
 ·intro b hb
  refine⟨as1 (ap1 (hfl b hb) hC),fun x c e=>?_⟩
  rcases gV e with a | ⟨_,a⟩
  ·exact ay2 (Nat.lt_trans (ap1 (hfl b hb) hC) (nge a))
  ·exact (hf b hb).2.2.2.2.1 x c (cs a)
 ·intro b o e hb
  rcases (hf b hb).2.2.2.1 with z | z
  ·exact I.ok.noex b o e z
  ·exact absurd (ap1 (ap3 e) (as7 I.ok.bsz z)) (at8 _)
 ·intro b hb z
  rcases ap0.mp (I.stkSub b z) with e | e
  ·exact (hf b hb).2.1 e
  ·exact (hf b hb).2.2.1 e
 ·intro i x v e1 e2 e3
  have e2:(fr.map fun o=>o.bind fun j=>(σ[j]?).join)[i]? = some (some v):=e2
  rw [ar2] at e2
  cases ef:fr[i]? with
  | none=>rw [ef] at e2; cases e2
  | some o=>
   rw [ef] at e2
   cases o with
   | none=>cases e2
   | some j=>
    have e2:some ((σ[j]?).join)=some (some v):=e2
    have ej:σ[j]? = some (some v):=by
     cases q:σ[j]? with
     | none=>rw [q] at e2; cases e2
     | some w=>rw [q] at e2; cases w with
      | none=>cases e2
      | some w=>cases e2; rfl
    obtain ⟨y,a1,a2,a4⟩:=S.from_ i j ef
    have e1:N[i]? = some x:=e1
    rw [e1] at a1
    cases a1
    have a3:(x,NameKind.free) ∈ scope.names:=ar9 a4
    have vis:iJ X.env.scope x:=(S.free _ a3 rfl).elim (fun z=>.inr (.inl z)) fun z=>.inr (.inr z)
    obtain ⟨m0,hn0,hl0⟩:=I.loc
    obtain ⟨u,r,l⟩:=hl0 j x v a2 ej vis
    refine⟨u,r,.inr ⟨?_,?_⟩⟩
    ·have e3:(relabel scope X.env).names.lookup x=some .local ∨ (relabel scope X.env).names.lookup x=some .cell ∨ (relabel scope X.env).names.lookup x=some .free:=e3
     rcases e3 with z | z | z
     ·rcases lC z with y | y
      ·rw [a4] at y; cases y
      ·exact absurd y.2 (by decide)
     ·exact .inl z
     ·exact .inr z
    ·obtain ⟨c,hc⟩:=oJ (cells:=X.env.cells) scope.names [] (x:=x) (.inl a3)
     refine⟨c,L6 (fun z=>by have:=S.own _ z rfl; rw [a4] at this; cases this) hc,?_⟩
     have hc':=cs hc
     have S1:=S.free (x,.free) a3 rfl
     rcases l with ⟨k,_⟩ | ⟨_,c2,hc2,z⟩
     ·have k:X.env.scope.names.lookup x=some .local:=k
      rcases S1 with q | q <;> (have q:X.env.scope.names.lookup x=_:=q; rw [k] at q; cases q)
     ·rw [hc'] at hc2; cases hc2
      obtain ⟨oc,ho,hd⟩:=z
      exact⟨oc,old c oc ho,hd⟩
 ·intro x c e
  rcases gV e with a | ⟨_,a⟩
  ·exact⟨_,(hco.empty x c a).1⟩
  ·obtain ⟨v,oc,ho,hd⟩:=I.cell x c (cs a)
   exact⟨v,oc,old c oc ho,hd⟩
 ·show upd H D (.lst []) C=none
  rw [aQ (ay2 hDC)]; exact I.hok.fresh hC
 ·intro x c e
  show upd H D (.lst []) c=none
  rcases gV e with a | ⟨_,a⟩
  ·rw [aQ (ay2 (Nat.lt_trans hDC (nge a)))]; exact I.hok.fresh (as7 hC (ax0 (nge a)))
  ·have q:=cs a
   rw [aQ (as1 (ap1 (clt q) hD))]
   exact I.freeC x c q
 ·exact I.hok.laid old hD ⟨av8 _,[],0,.nil,hacc⟩
 ·show (dL fr σ).length=N.length
  unfold dL; rw [ap9]; exact S.len
end
noncomputable def gW (X:Cx) (ifs:List Expr) (t:TT):Prop:=
 ∀ (pins:List (Addr × Obj)) (s:Shared) (σ:St) (H:Hp) (Q:Bool->Hp->Prop),a5 X pins σ H s->t σ H Q->
  wpAny (model X.prog X.w) X.A (forIn ifs true fun c r=>if r=true then do let ok <- isTrue c X.env (eval c X.env); pure (ForInStep.yield ok) else pure (ForInStep.yield r)) (TP X pins σ Q) X.xe s
noncomputable def tL:TT:=fun _ H Q=>Q true H
theorem L8 {X:Cx}:gW X [] tL:=fun _ _ _ H _ I h=>wpAny_tests_nil ⟨H,I,h⟩
theorem L9 {X:Cx}{c:Expr}{t:TT} (h:PT X c t):gW X [c] t:=fun pins s σ H Q I hq=>wpAny_tests_one (h pins s σ H Q I hq)
section
variable {prog : Program} {w : World} {A : Around}
noncomputable def oN (prog:Program) (w:World) (A:Around) (elt tg:Expr) (ifs:List Expr) (it acc:Value) (env:Env) (lost:Value->Shared->Prop) (stop next:Shared->Prop) (s:Shared):Prop:=
 let M:=model prog w
 let tests:Sem Bool:=forIn ifs true fun c r=>if r=true then do let ok <- isTrue c env (eval c env); pure (ForInStep.yield ok) else pure (ForInStep.yield r)
 let put:Shared->Prop:=wpAny M A (eval elt env) (fun x=>wpAny M A (call (.builtin "list.append") [acc,x]) (fun _=>next) lost) lost
 let taken:Value->Shared->Prop:=fun v=>wpAny M A (letOwnedTupleGo tg it v) (fun _=>wpAny M A (assign tg env v) (fun _=>wpAny M A tests (fun ok s'=>if ok=true then put s' else next s') lost) lost) lost
 wpAny M A (pyNext it) (fun r s'=>match r with
  | none=>stop s'
  | some v=>taken v s') lost s
theorem M0 {R:Result->Shared->Prop}{s:Shared}{elt tg iter:Expr}{ifs:List Expr}{scope:Scope}{pos:Pos}{it acc:Value}{env:Env} (I:Nat->Shared->Prop)
  (turn:∀ n s,I n s->oN prog w A elt tg ifs it acc env (notedBy (model prog w) A env fun e=>R (.error e)) (R (.ok .next)) (fun s'=>∃ m,m < n/\I m s') s) (n:Nat) (h:I n s) :
  codeAny (model prog w) A (.compLoop (.ListComp elt [⟨tg,iter,ifs,0⟩] scope pos) 0 it acc env) R s:=by
 apply codeAny_loop rfl I _ n h
 intro k s1 h1
 change wpAny _ A ((compTurn _ 0 it acc env).onRaise (fun x=>do noteFrame x env; theTreesLotGoes x)) _ _ s1
 apply wpAny_noted
 rw [compTurn_list]
 have t:=turn k s1 h1
 unfold oN at t
 apply ao2
 apply wpAny_standAt
 apply ao2
 refine au5 t (fun r s2 h2=>?_) fun _ _ z=>z
 cases r with
 | none=>exact ao9 h2
 | some v=>
  apply ao2
  refine au5 h2 (fun _ s3 h3=>?_) fun _ _ z=>z
  apply ao2
  refine au5 h3 (fun _ s4 h4=>?_) fun _ _ z=>z
  apply ao2
  refine au5 h4 (fun ok s5 h5=>?_) fun _ _ z=>z
  cases ok with
  | false=>exact ao9 ⟨rfl,h5⟩
  | true=>
   apply ao2
   apply ao2
   refine au5 h5 (fun x s6 h6=>?_) fun _ _ z=>z
   apply ao2
   exact au5 h6 (fun _ s7 h7=>ao9 (ao9 ⟨rfl,h7⟩)) fun _ _ z=>z
end
noncomputable def tM (g:TG) (tc:TT) (te:TE) (σ0:St) (J:It) (D:Addr) (Q:VK) (W:Nat->Nat->List V->Hp->Prop):Prop:=
 ∀ i m acc H',W i m acc H'->H' D=some (.lst acc)/\((J.stop i H'/\Q (.ref D) H') ∨ (J.go i H'/\∀ x H2,J.yld i H' x H2->g x σ0 H2 fun σ2 H3=>Wk σ0 σ2/\tc σ2 H3 fun b H4=>
  if b=true then te σ2 H4 fun v H5=>H5 D=some (.lst acc)/\acc.length < sizeLine/\∃ m',m' < m/\W (i+1) m' (acc ++ [v]) (upd H5 D (.lst (acc ++ [v]))) else ∃ m',m' < m/\W (i+1) m' acc H4))
section
variable {M : Model} {A : Around} {E : Value → Shared → Prop} {s : Shared}
theorem M3 {scope:Scope}{globals:Addr}{cl:List (Str × Addr)}{qual:Str}{func:Option Addr}{code:Value}{builtins:Addr}{outer:Env}{Q:Env->Shared->Prop}
  (hQ:∀ h',h'.Ns s.heap.objs.size (fun _=>none)->(∀ b o,s.heap.get? b=some o->h'.get? b=some o)->CellsOk h' (s.heap.objs.size+1) (cellsFrom (s.heap.objs.size+1) scope.names [])->
   Q (newEnv scope s.heap.objs.size globals (cellsFrom (s.heap.objs.size+1) scope.names cl) qual func code (some outer) builtins) { s with heap:=h' }) :
  wpAny M A (newFunctionEnv scope globals cl [] qual func code (some outer) builtins) Q E s:=by
 simp only [newFunctionEnv,Option.isSome_some,if_true]
 refine ao2 (wpAny_alloc ?_)
 refine ao2 (wpAny_layCells _ (fun name kind cells=>by cases hkc:kind == NameKind.cell <;> simp [hkc]) _ _ _ _ ?_)
 have ok:=cellsFrom_ok scope.names (s.heap.push { cls:=.type "dict",data:=.dict #[] }) (s.heap.objs.size+1) [] ⟨fun _ _ hm=>(nomatch hm),List.Pairwise.nil⟩ (by rw [az0]; exact ao8 _)
 rw [az0] at ok
 rw [show ({ s with heap:=s.heap.push { cls:=.type "dict",data:=.dict #[] } }:Shared).heap.objs.size=s.heap.objs.size+1 from az0 ..]
 rw [List.forIn_nil]
 refine ao2 (ao9 (ao9 (hQ _ ((Heap.Ns.new s.heap (.type "dict")).keeps (pushCells_keeps _ _)) (fun b o e=>pushCells_keeps _ _ b o (ao3 _ e)) ok)))
end
section
variable {X : Cx} {pins : List (Addr × Obj)} {σ : St} {H : Hp} {s : Shared} {scope : Scope} {N : List Str} {fr : List (Option Nat)} {tg iter elt : Expr} {ifs : List Expr} {pos : Pos} {wi : TI} {g : TG} {tc : TT} {te : TE}
structure jL (X:Cx) (scope:Scope) (N:List Str) (tg:Expr) (ifs:List Expr) (elt:Expr) (s:Shared) (H:Hp) (g:TG) (tc:TT) (te:TE):Prop where
 tg:∀ (C:Addr) (fp:List Addr),PG (bE X scope N s H C fp fun _ _=>False) tg g
 ifs:∀ (C:Addr) (fp:List Addr),gW (bE X scope N s H C fp fun _ _=>False) ifs tc
 elt:∀ (C:Addr) (fp:List Addr),PE (bE X scope N s H C fp fun _ _=>False) elt te
theorem M4 {C:Addr}{fp:List Addr}{E:Value->Shared->Prop}{pins':List (Addr × Obj)}{σ':St}{H':Hp}{s':Shared} (I:a5 X pins σ H s) (hf:∀ b ∈ fp,dI X pins H b) (I':a5 (bE X scope N s H C fp E) pins' σ' H' s'):a5 X pins σ H' s':=
 I.call' (ch:=fp) I'.os I'.base I'.hok I'.bare fun b hb=>⟨(hf b hb).2.2.2.1,(hf b hb).2.1,(hf b hb).2.2.2.2.1,(hf b hb).2.2.2.2.2⟩
theorem tN {Rr:Value->Addr->Result->Shared->Prop}{J:It}{fp:List Addr}{it:Addr}{tn:Nat->Heap->Prop}{Q:VK}
  (hc:X.calm=true) (S:cT X scope N fr) (B:jL X scope N tg ifs elt s H g tc te) (I:a5 X pins σ H s) (T:gF X.prog X.w X.K tg J fp it tn) (hst:tn 0 s.heap) (hf:∀ b ∈ fp,dI X pins H b)
  (h:∀ D,H D=none->∃ W:Nat->Nat->List V->Hp->Prop,(∃ m,W 0 m [] (upd H D (.lst [])))/\tM g tc te (dL fr σ) J D Q W)
  (hend:∀ (D C:Addr) (s':Shared) (H':Hp) (m:Str->Option Value),s.heap.objs.size<=C->s.heap.objs.size<=D->a5 X pins σ H' s'->s'.heap.Ns C m->H' C=none->Q (.ref D) H'->Rr (.ref D) C (.ok .next) s') :
  wpAny (model X.prog X.w) X.A (newList []) (fun acc s₃=>wpAny (model X.prog X.w) X.A (newFunctionEnv scope X.env.globals (cN X.env.cells scope.names []) [] X.env.qual none .none (some X.env)) (fun cenv s₄=>
   codeAny (model X.prog X.w) X.A (.compStart (.ListComp elt [⟨tg,iter,ifs,0⟩] scope pos) 0 (.ref it) acc { cenv with scope:=relabel scope X.env }) (Rr acc cenv.locals) s₄) X.xe s₃) X.xe s:=by
 refine ax7 (M3 (fun h₁ hns₁ keep₁ hco₁=>?_))
 dsimp only at hns₁ keep₁ hco₁ ⊢
 generalize hH2:s.heap.push { cls:=.type "list",dict:=none,data:=.seq ([]:List Value).toArray }=H2 at hns₁ keep₁ hco₁ ⊢
 have hC:H2.objs.size=s.heap.objs.size+1:=by rw [<- hH2,az0]
 have hDC:s.heap.objs.size < H2.objs.size:=by rw [hC]; exact Nat.lt_succ_self _
 have hCle:s.heap.objs.size<=H2.objs.size:=by rw [hC]; exact Nat.le_succ _
 have old:∀ b o,s.heap.get? b=some o->h₁.get? b=some o:=fun b o e=>keep₁ b o (hH2 ▸ ao3 _ e)
 have hacc:h₁.get? s.heap.objs.size=some { cls:=.type "list",data:=.seq #[] 0 }:=keep₁ _ _ (hH2 ▸ aq8 _ rfl)
 have hfl:∀ b ∈ fp,b < s.heap.objs.size:=fun b hb=>by obtain ⟨o,e,_⟩:=T.obj _ _ hst b hb; exact ap3 e
 obtain ⟨W,⟨m0,w0⟩,turn⟩:=h s.heap.objs.size (I.hok.fresh (ao8 _))
 have st1:tn 0 h₁:=T.keep _ _ _ hst fun b _ o e=>old b o e
 have fr0:∀ b ∈ fp,upd H s.heap.objs.size (.lst []) b=none:=fun b hb=>by rw [aQ (as1 (hfl b hb))]; exact (hf b hb).1
 have stat:∀ {H':Hp},(∀ b ∈ fp,H' b=none)->∀ b ∈ fp,dI (bE X scope N s H H2.objs.size fp fun _ _=>False) [] H' b:=fun {H'} hn b hb=>by
  have f:=hf b hb
  refine⟨hn b hb,as1 (ap1 (hfl b hb) hCle),fun z=>?_,.inl hb,fun x c e=>(gV e).elim (fun z=>ay2 (Nat.lt_trans (ap1 (hfl b hb) hCle) (hco₁.empty x c z).2)) fun z=>f.2.2.2.2.1 x c (lB scope.names [] (S.cells I) (fun _ _ z=>by simp at z) z.2),fun p hp=>absurd (show p ∈ ([]:List (Addr × Obj)) from hp) (by simp)⟩
  rcases ap0.mp (I.stkSub b z) with e | e
  ·exact f.2.1 e
  ·exact f.2.2.1 e
 generalize hX:bE X scope N s H H2.objs.size fp (fun _ _=>False)=Y at stat
 have I0:a5 Y [] (dL fr σ) (upd H s.heap.objs.size (.lst [])) { s with heap:=h₁ }:=hX ▸ L7 S I hf hfl (ao8 _) hCle hDC old hns₁ hacc hco₁
 have bt:PG Y tg g:=hX ▸ B.tg H2.objs.size fp
 have bi:gW Y ifs tc:=hX ▸ B.ifs H2.objs.size fp
 have be:PE Y elt te:=hX ▸ B.elt H2.objs.size fp
 have eP:Y.prog=X.prog:=by rw [<- hX]; rfl
 have ew:Y.w=X.w:=by rw [<- hX]; rfl
 have eK:Y.K=X.K:=by rw [<- hX]; rfl
 have eA:Y.A=X.A:=by rw [<- hX]; rfl
 have eE:Y.env=compEnvC scope (e9 X scope H2.objs.size) H2.objs.size X.env:=by rw [<- hX]; rfl
 have eX:Y.xe=fun _ _=>False:=by rw [<- hX]; rfl
 have ec:Y.calm=true:=by rw [<- hX]; exact hc
 have never:∀ {E:Value->Shared->Prop} (e:Value) (s':Shared),Y.xe e s'->E e s':=fun {E} e s' z=>by rw [eX] at z; exact z.elim
 have out:∀ {pins' σ' H' s'},a5 Y pins' σ' H' s'->a5 X pins σ H' s':=fun {_ _ _ _} I'=>M4 (C:=H2.objs.size) (E:=fun _ _=>False) (scope:=scope) (N:=N) I hf (hX ▸ I')
 have loop:codeAny (model X.prog X.w) X.A (.compLoop (.ListComp elt [⟨tg,iter,ifs,0⟩] scope pos) 0 (.ref it) (.ref s.heap.objs.size) (compEnvC scope (e9 X scope H2.objs.size) H2.objs.size X.env))
   (Rr (.ref s.heap.objs.size) H2.objs.size) { s with heap:=h₁ }:=by
  refine M0 (fun n s'=>∃ i acc H',a5 Y [] (dL fr σ) H' s'/\tn i s'.heap/\(∀ b ∈ fp,H' b=none)/\W i n acc H') ?_ m0 ⟨0,[],_,I0,st1,fr0,w0⟩
  rintro n s3 ⟨i,acc,H3,I3,st3,fr3,w3⟩
  unfold oN
  dsimp only
  obtain ⟨hD3,step⟩:=turn i n acc H3 w3
  rcases step with ⟨stop,qn⟩ | ⟨go,step⟩
  ·have z:=T.done Y eP ew eK ec i [] s3 _ H3 (notedBy (model X.prog X.w) X.A (compEnvC scope (e9 X scope H2.objs.size) H2.objs.size X.env) fun e s'=>Rr (.ref s.heap.objs.size) H2.objs.size (.error e) s') I3 (stat fr3) st3 stop
   rw [eA] at z
   refine aJ z fun r s4 ⟨hr,I4⟩=>?_
   subst hr
   obtain ⟨m4,hn4,_⟩:=I4.loc
   rw [eE] at hn4
   have f4:=I4.free
   rw [eE] at f4
   exact hend _ _ s4 H3 m4 hCle (ao8 _) (out I4) hn4 f4 qn
  ·have z:=T.item Y eP ew eK ec i [] s3 _ H3 (notedBy (model X.prog X.w) X.A (compEnvC scope (e9 X scope H2.objs.size) H2.objs.size X.env) fun e s'=>Rr (.ref s.heap.objs.size) H2.objs.size (.error e) s') I3 (stat fr3) st3 go
   rw [eA] at z
   refine aJ z fun r s4 ⟨u,hr,h4⟩=>?_
   subst hr
   refine aJ h4 fun _ s5 ⟨x,H5,I5,r5,y5,st5,fr5⟩=>?_
   have I5':=I5.pinned (stat fr5) (T.obj _ _ st5)
   have q1:=bt _ s5 _ H5 x u _ I5' r5 (step x H5 y5)
   rw [eP,ew,eA,eE] at q1
   refine au5 q1 (fun _ s6 ⟨σ6,H6,I6,wk,q6⟩=>?_) never
   have q2:=bi _ s6 σ6 H6 _ I6 q6
   rw [eP,ew,eA,eE] at q2
   refine au5 q2 (fun b s7 ⟨H7,I7,q7⟩=>?_) never
   have again:∀ {H8:Hp}{s8:Shared}{acc':List V},a5 Y ([] ++ jG fp s5.heap) σ6 H8 s8->(∃ m',m' < n/\W (i+1) m' acc' H8)->∃ m,m < n/\∃ i acc H',a5 Y [] (dL fr σ) H' s8/\tn i s8.heap/\(∀ b ∈ fp,H' b=none)/\W i m acc H':=fun {H8 s8 acc'} I8 n8=>by
    obtain ⟨m',hm,w8⟩:=n8
    refine⟨m',hm,i+1,acc',H8,(I8.unpinned).weak wk.1 wk.2,T.keep _ _ _ st5 fun b hb o e=>(I8.pin (b,o) (ar0 _ (ar0 _ (kY hb e)))).1,fun b hb=>?_,w8⟩
    obtain ⟨o,e,d⟩:=T.obj _ _ st5 b hb
    exact (I8.pin (b,o) (ar0 _ (ar0 _ (kY hb e)))).2.1
   cases b with
   | false=>
    rw [if_neg aq5] at q7 ⊢
    exact again I7 q7
   | true=>
    rw [if_pos rfl] at q7 ⊢
    have q3:=be _ s7 σ6 H7 _ I7 q7
    rw [eP,ew,eA,eE] at q3
    refine au5 q3 (fun v s8 ⟨y,H8,I8,r8,hD8,hz8,q8⟩=>?_) never
    have q4:=tD _ s8 σ6 H8 (.ref s.heap.objs.size) [y] (.ref s.heap.objs.size) [v] (fun _ H9=>∃ m',m' < n/\W (i+1) m' (acc ++ [y]) H9) I8 rfl (.cons r8 .nil) ⟨_,_,_,rfl,rfl,hD8,hz8,q8⟩
    rw [eP,ew,eA] at q4
    exact au5 q4 (fun _ s9 ⟨_,H9,I9,_,q9⟩=>again I9 q9) never
 exact codeAny_compStart_list loop (T.self _ 0 _ _ _ st1 loop)
end
section
variable {X : Cx} {scope : Scope} {N : List Str} {fr : List (Option Nat)} {tg iter elt : Expr} {ifs : List Expr} {pos : Pos} {wi : TI} {g : TG} {tc : TT} {te : TE}
theorem a5.drop {pins:List (Addr × Obj)}{σ:St}{H H':Hp}{s s':Shared}{C:Addr}{h':Heap} (I0:a5 X pins σ H s) (hC:s.heap.objs.size<=C) {σ':St} (I:a5 X pins σ' H' s') (hn:H' C=none) (sb:Heap.SameBut C s'.heap h'):a5 X pins σ' H' { s' with heap:=h' }:=by
 refine I.turned (t':=s'.toks) (it:=C) (fun b o hb e=>(sb.2 b hb).trans e) hn (ay2 (ap1 I0.lt hC)) (.inr (as7 I0.sz hC)) (fun x c e z=>?_) fun p hp z=>?_
 ·obtain ⟨v,q⟩:=I0.cell x c e
  exact absurd (ap1 q.lt (by rw [z]; exact hC)) (at8 _)
 ·exact absurd (ap1 (ap3 (I0.pin p hp).1) (by rw [z]; exact hC)) (at8 _)
variable {gh : Hp → TG} {tch : Hp → TT} {teh : Hp → TE}
noncomputable def oO (wi:TI) (fr:List (Option Nat)) (gh:Hp->TG) (tch:Hp->TT) (teh:Hp->TE):TE:=fun σ H Q=>wi σ H fun J H1=>∀ D,H1 D=none->
 ∃ W:Nat->Nat->List V->Hp->Prop,(∃ m,W 0 m [] (upd H1 D (.lst [])))/\tM (gh H1) (tch H1) (teh H1) (dL fr σ) J D Q W
theorem tO (hc:X.calm=true) (S:cT X scope N fr) (hi:PI X tg iter wi) (B:∀ (s:Shared) (H:Hp),jL X scope N tg ifs elt s H (gh H) (tch H) (teh H))
  (hs:∀ x,foldedSetIterable iter X.env x=pure x:=by intro _; rfl):PE X (.ListComp elt [⟨tg,iter,ifs,0⟩] scope pos) (oO wi fr gh tch teh):=by
 intro pins s σ H Q I h
 rw [eval_ListComp]
 refine wpAny_comprehension_free (use:=none) rfl hs (tJ (S.cells I)) S.kind S.names (aJ (hi pins s σ H _ I h) fun v s1 h1=>aJ h1 fun itv s2 h2=>?_)
 obtain ⟨it,fp,tn,J,H2,e,I2,T,st2,f2,hW⟩:=h2
 subst e
 refine tN (Rr:=fun acc C=>compPost (model X.prog X.w) X.A X.xe none (EP X pins σ Q) acc C) hc S (B _ _) I2 T st2 f2 hW ?_
 intro D C s' H' m hC hD I' hns hHC q
 exact⟨m,hns,fun h' sb=>⟨.ref D,H',I2.drop hC I' hHC sb,rfl,q⟩⟩
theorem tP {i:Nat}{x:Str}{px spos:Pos} (hc:X.calm=true) (S:cT X scope N fr) (hi:PI X tg iter wi) (B:∀ (s:Shared) (H:Hp),jL X scope N tg ifs elt s H (gh H) (tch H) (teh H)) (hN:X.N.Nodup) (hix:X.N[i]? = some x) (hx:X.env.scope.names.lookup x=some .local)
  (hsw:swapsWith (.ListComp elt [⟨tg,iter,ifs,0⟩] scope pos) (some (.Name x px)) spos.line X.env=pure true) (hs:∀ x,foldedSetIterable iter X.env x=pure x:=by intro _; rfl) :
  PS X (.Assign [.Name x px] (.ListComp elt [⟨tg,iter,ifs,0⟩] scope pos) spos) (kW (oO wi fr gh tch teh) (cR i)):=by
 intro pins s σ H D I h
 rw [exec_Assign_Name_used _ _ _ _ hsw]
 refine ao2 (wpAny_standAt (ao2 ?_))
 show wpAny _ _ (do let _ <- comprehension (.ListComp elt [⟨tg,iter,ifs,0⟩] scope pos) scope X.env _ (newList []) false (eval iter X.env) (some (assign (.Name x px) X.env))) _ _ s
 refine ao2 (au5 (wpAny_comprehension_free (Q:=fun _ s'=>SP X pins D .next s') (use:=some (assign (.Name x px) X.env)) rfl hs (tJ (S.cells I)) S.kind S.names (aJ (hi pins s σ H _ I h) fun v s1 h1=>aJ h1 fun itv s2 h2=>?_))
  (fun _ s' hq=>ao9 (ao9 hq)) fun _ _ e=>e)
 obtain ⟨it,fp,tn,J,H2,e,I2,T,st2,f2,hW⟩:=h2
 subst e
 refine tN (Rr:=fun acc C=>compPost (model X.prog X.w) X.A X.xe (some (assign (.Name x px) X.env)) (fun _ s'=>SP X pins D .next s') acc C) hc S (B _ _) I2 T st2 f2 hW ?_
 intro D' C s' H' m hC hD I' hns hHC q
 refine wpAny_assign_Name (rP I' hN hix (.inl hx) (v:=.ref D') rfl (fun s'' I'' sb=>?_) (.inr hx))
 obtain ⟨a,sb,ha⟩:=sb
 have hCa:C ≠ a:=by
  rcases ha with z | z
  ·rw [z]; exact ay2 (ap1 I2.lt hC)
  ·intro e; subst e
   obtain ⟨v,q⟩:=I2.cell x _ z
   exact absurd (ap1 q.lt hC) (at8 _)
 exact⟨m,hns.sameBut sb hCa,fun h' sb'=>⟨_,H',I2.drop hC I'' hHC sb',q⟩⟩
end
theorem b8 {H:Hp}{p:Addr} (h:H p=none) (o:HO):a9 H (upd H p o):=fun b u q=>by rw [aQ (eF q h)]; exact q
end L2
namespace Srt
open PySem PySem.W PyProof.Rows
noncomputable abbrev G (p:Array Nat) (i:Nat):Nat:=p.getD i 0
noncomputable def PP (n:Nat) (p:Array Nat):Prop:=p.toList.Perm (List.range n)
structure tQ (c:Nat->Nat->Bool):Prop where
 asym:∀ {i j},c i j=true->c j i=false
 ntr:∀ {i j k},c i j=false->c j k=false->c i k=false
section
variable {c : Nat → Nat → Bool} (O : tQ c)
noncomputable def Le (c:Nat->Nat->Bool) (i j:Nat):Prop:=c j i=false
include O
theorem le_refl (i:Nat):Le c i i:=by
 unfold Le
 cases h:c i i with
 | false=>rfl
 | true=>have:=O.asym h; rw [h] at this; exact this
theorem le_trans {i j k:Nat} (h1:Le c i j) (h2:Le c j k):Le c i k:=O.ntr h2 h1
end
end Srt
namespace L2
open PySem PySem.Spec PyProof.Rows
theorem oP:∀ {xs:List V}{us:List Value} (i:Nat),i < xs.length->aF xs us->aP (xs.getD i .non) (us.getD i Value.none)
 | _,_,_,h,.nil=>by simp at h
 | _,_,0,_,.cons r _=>by simpa using r
 | _,_,i+1,h,.cons _ t=>by
  have:=oP i (by simpa using h) t
  simpa using this
theorem lF {α:Type}:∀ l:List α,(l.zip l).map (·.2)=l
 | []=>rfl
 | a :: l=>by
  show a :: ((l.zip l).map (·.2))=a :: l
  rw [lF l]
theorem M5 {prog:Program}{w:World}{A:Around}{E:Value->Shared->Prop}{s:Shared}{a:Addr}{vs:List Value}{n:Nat}{P:PySem.Fin->Shared->Prop} (e:s.heap.get? a=some (seqObj "list" vs.toArray n)) (few:vs.length < 2)
  (q:P (.done (.ret .none)) { s with heap:=sortedHeap s.heap a vs vs.toArray }):wpAny (model prog w) A (Builtin.«list.sort» ⟨[.ref a],[]⟩) P E s:=by
 have big:vs.length<=sizeLine:=as7 (ax0 few) (by decide)
 have la:=ap3 e
 have c:vs.toArray.size < 2:=by simpa using few
 have same:(arrOf (SortSt.mk' general' (vs.toArray.zip vs.toArray) #[] 7 none)).map (·.2)=vs.toArray:=by
  change (vs.toArray.zip vs.toArray).map (·.2)=vs.toArray
  apply Array.ext'
  simpa using lF vs
 obtain ⟨k,ek⟩:∃ k,(s.heap.update a (Obj.mapSeq fun _=>#[])).get? a=some (seqObj "list" #[] k):=⟨_,get?_update_seq e fun _=>#[]⟩
 have there:(((s.heap.update a (Obj.mapSeq fun _=>#[])).push (seqObj "tuple" vs.toArray 0)).push (seqObj "list" #[] 0)).get? a=some (seqObj "list" #[] k):=
  ao3 _ (ao3 _ ek)
 rw [list_sort_plain]
 apply ao2
 apply listItems_at e rfl
 apply ao2
 refine listUpdate_at e rfl ?_ (by simpa using big) (av8 _)
 apply ao2
 apply seqEpoch_at ek rfl
 apply ao2
 refine wpAny_newTuple ?_ big
 apply ao2
 refine wpAny_newList ?_ (av8 _)
 apply ay5
 simp only [c,if_true,StateT.run_pure]
 apply ao2
 apply ao9
 apply ao2
 apply ao9
 apply ao2
 apply seqEpoch_at there rfl
 apply ao2
 refine listUpdate_at there rfl ?_ (av8 _) (by rw [same,ao4]; exact Nat.le_succ_of_le big)
 rw [same]
 simp only [bne_self_eq_false,as8,aA1]
 exact ao9 q
theorem M6 {prog:Program}{w:World}{A:Around}{E:Value->Shared->Prop}{s:Shared}{l:Addr}{vs:List Value}{Q:Value->Shared->Prop} (hl:s.heap.IsList l vs.toArray) (few:vs.length < 2)
  (q:Q (.ref (s.heap.objs.size+1)) { s with heap:=sortedAll s.heap vs vs.toArray }):wpAny (model prog w) A (call (.builtin "sorted") [.ref l]) Q E s:=by
 have big:vs.length<=sizeLine:=as7 (ax0 few) (by decide)
 apply Calls.call_function_entry kind_sorted plain_sorted entry_sorted (args_sorted1 _)
 simp only [Builtin.«sorted»]
 apply ao2 (m:=checkCount "sorted" 1 1 _)
 apply ao9
 apply ao2
 refine collect_list hl ?_ big
 apply ao2
 refine wpAny_newList ?_ big
 have one:((s.heap.push (seqObj "list" #[] 0)).update s.heap.objs.size (Obj.mapSeq (· ++ vs.toArray))).objs.size=s.heap.objs.size+1:=(Heap.size_update _ _ _).trans (size_push' _ _)
 have at1:(((s.heap.push (seqObj "list" #[] 0)).update s.heap.objs.size (Obj.mapSeq (· ++ vs.toArray))).push (seqObj "list" vs.toArray 0)).get? (s.heap.objs.size+1)=some (seqObj "list" vs.toArray 0):=one ▸ aq8 _ rfl
 change wpAny _ _ _ _ _ { s with heap:=((s.heap.push (seqObj "list" #[] 0)).update s.heap.objs.size (Obj.mapSeq (· ++ vs.toArray))).push (seqObj "list" vs.toArray 0) }
 rw [one]
 apply ao2
 apply ay5
 refine aw6 slot_list_sort ⟨_,at1,rfl⟩ entry_list_sort ?_ (args_list_sort _)
 refine M5 at1 few ⟨_,rfl,?_⟩
 exact ao9 ⟨_,rfl,q⟩
section
variable {prog : Program} {w : World} {A : Around} {s : Shared} {Q : Bool → Shared → Prop}
theorem tR:∀ {us ws:List Value}{xs ys:List Int} (i:Nat),IntsAre us xs->IntsAre ws ys->Q (HT.bF xs ys) s->PySem.W.KatLex prog w A true (decide (us.length < ws.length)) Q (us.zip ws) i s
 | _,_,_,_,_,.nil,.nil,h=>h
 | _,_,_,_,_,.nil,.cons _ _ _,h=>h
 | _,_,_,_,_,.cons _ _ _,.nil,h=>h
 | _,_,_,_,i,.cons (vs:=us) x t hx,.cons (vs:=ws) y u hy,h=>by
  refine PySem.W.kat_cons (wpAny_eqBool_int ?_)
  rw [HT.gG] at h
  by_cases e:x=y
  ·rw [if_pos e] at h
   have eb:(x == y)=true:=by simpa using e
   rw [eb]
   refine PySem.W.kat_yes ?_
   have e2:decide ((Value.int x t :: us).length < (Value.int y u :: ws).length)=decide (us.length < ws.length):=by simp
   rw [e2]
   exact tR (i+1) hx hy h
  ·rw [if_neg e] at h
   have eb:(x == y)=false:=by simpa using e
   rw [eb]
   refine PySem.W.kat_no ?_
   cases hi:(true && i == 0) with
   | true=>exact PySem.W.kat_lt_int h
   | false=>exact PySem.W.kat_one _ _ (lt_int h)
end
section
variable {X : Cx}
theorem M7:bV X (.builtin "isinstance") (fun xs H Q=>∃ x t n b,xs = [x,.ty n]/\dC X.K H x t/\PySem.W.kitOne X.K t (.type n)=some b/\Q (.bl b) H):=by
 intro pins s σ H xs us Q I r h
 obtain ⟨x,t,n,b,rfl,ty,e,q⟩:=h
 obtain ⟨u,u',rfl,ru,ru'⟩:=o4 r
 cases ru'
 exact B8 I ru ty e fun tk=>⟨.bl b,H,I.tok tk,rfl,q⟩
end
noncomputable def tS (outer:List (Str × NameKind)) (XN:List Str) (names:List (Str × NameKind)) (N:List Str) (fr:List (Option Nat)):Bool:=
 names.all (fun y=>!(y.2 == .cell) || names.lookup y.1 == some .cell) && names.all (fun y=>!(y.2 == .local) || names.lookup y.1 == some .local) &&
 names.all (fun y=>!(y.2 == .free) || (outer.lookup y.1 == some .cell || outer.lookup y.1 == some .free)) && fr.length == N.length &&
 (fr.zip N).all (fun p=>match p.1 with
  | none=>true
  | some j=>XN[j]? == some p.2 && names.lookup p.2 == some .free)
theorem cT.of {X:Cx}{scope:Scope}{N:List Str}{fr:List (Option Nat)} (hk:scope.kind = .function) (h:tS X.env.scope.names X.N scope.names N fr=true):cT X scope N fr:=by
 unfold tS at h
 simp only [aw7] at h
 obtain ⟨⟨⟨⟨h1,h2⟩,h3⟩,h4⟩,h5⟩:=h
 refine⟨hk,fun y hy e=>?_,fun y hy e=>?_,fun y hy e=>?_,by simpa using h4,fun i j e=>?_⟩
 ·have:=ay7.mp h1 y hy
  rw [e] at this; simpa using this
 ·have:=ay7.mp h2 y hy
  rw [e] at this; simpa using this
 ·have:=ay7.mp h3 y hy
  rw [e] at this; simpa using this
 ·have hl:fr.length=N.length:=by simpa using h4
  have hi:i < fr.length:=(aq7.mp e).1
  have m:(some j,N[i]'(by lia)) ∈ fr.zip N:=by
   have:(fr.zip N)[i]? = some (some j,N[i]'(by lia)):=by
    rw [List.getElem?_zip_eq_some]
    exact⟨e,by simp⟩
   exact aA0 this
  have:=ay7.mp h5 _ m
  simp only [aw7,beq_iff_eq] at this
  exact⟨N[i]'(by lia),by simp,this.1,this.2⟩
noncomputable def tT (ls:List (Int × Int)) (k:Int):List Int:=ls.flatMap fun l=>(if l.1=k then [l.2] else []) ++ (if l.2=k then [l.1] else [])
theorem M8 {α:Type}{xs:List α}{i:Int}{v:α} (h0:0<=i) (h:xs[i.toNat]? = some v):atI xs i=some v:=by
 have:=G0 h
 rwa [show ((i.toNat:Nat):Int)=i by lia] at this
theorem oQ {n:Nat} (h:n<=16000000):n < sizeLine:=by rw [sizeLine_eq]; lia
theorem M9 {K:PySem.W.Frag}{H:Hp}{p:Addr}{xs:List V} (h:aG K H p xs):eH K "list" (.ref p) H:=.inl ⟨rfl,xs,h⟩
end L2
namespace Zp
open PySem PyProof.Rows
section
variable {prog : Program} {w : World} {A : Around} {E : Value → Shared → Prop} {s : Shared}
theorem N0 {it t:Addr}{i:Nat}{items:Array Value}{x:Value}{Q:Value->Shared->Prop} (hi:s.heap.IsTupleIter it t i) (ht:s.heap.IsTuple t items) (hx:items[i]? = some x)
  (q:∀ h',h'.IsTupleIter it t (i+1)->Heap.SameBut it s.heap h'->Q x { s with heap:=h' }):wpAny (model prog w) A (Builtin.SmallTypes.nextOf (.ref it)) Q E s:=by
 have T:=hi.typeIs
 obtain ⟨o,e1,e2,e3⟩:=hi
 obtain ⟨u,f1,_,k,f3⟩:=ht
 have slot:=PySem.F.slot_tuple_iterator_next
 have isref:(Value.ref t == Value.none)=false:=rfl
 unfold Builtin.SmallTypes.nextOf
 apply ao2
 apply av7 (name:=Str.ofString "__next__") T slot
 apply aw6 slot T PySem.F.entry_tuple_iterator_next _ (PySem.F.args_tuple_iterator_next_1 _)
 change wpAny _ _ (field (.ref it) 0 >>= _) _ _ s
 apply ao2
 refine av1 e1 e3 (x:=.ref t) rfl ?_
 change wpAny _ _ (if (Value.ref t == Value.none)=true then _ else _) _ _ s
 simp only [isref,as8,aA1]
 change wpAny _ _ (field (.ref it) 1 >>= _) _ _ s
 apply ao2
 refine av1 e1 e3 (x:=.int i 0) rfl ?_
 change wpAny _ _ (seqItems? (.ref t) >>= _) _ _ s
 apply ao2
 apply az1 f1 f3
 simp only [Int.toNat_natCast,hx]
 apply ao2
 refine wpAny_setField e1 e3 (by simp) ?_
 apply ao9
 refine⟨x,rfl,ao9 (q _ ⟨_,Heap.get?_update_self _ e1 (Obj.isFreed_of_fields (Obj.data_mapFields e3 _)),?_,?_⟩ (Heap.SameBut.update ..))⟩
 ·rw [Obj.cls_mapFields]; exact e2
 ·rw [Obj.data_mapFields e3]; simp [rawInt]
theorem N1 {it t:Addr}{i:Nat}{items:Array Value}{Q:Value->Shared->Prop} (hh:A.handled=none) (hi:s.heap.IsTupleIter it t i) (ht:s.heap.IsTuple t items) (hx:items[i]? = none)
  (q:∀ h' e,Heap.ExtBut it s.heap h'->(∃ o,h'.get? e=some o/\o.cls = .type "StopIteration")->E (.ref e) { s with heap:=h' }):wpAny (model prog w) A (Builtin.SmallTypes.nextOf (.ref it)) Q E s:=by
 have T:=hi.typeIs
 obtain ⟨o,e1,e2,e3⟩:=hi
 obtain ⟨u,f1,_,k,f3⟩:=ht
 have slot:=PySem.F.slot_tuple_iterator_next
 have isref:(Value.ref t == Value.none)=false:=rfl
 unfold Builtin.SmallTypes.nextOf
 apply ao2
 apply av7 (name:=Str.ofString "__next__") T slot
 apply aw6 slot T PySem.F.entry_tuple_iterator_next _ (PySem.F.args_tuple_iterator_next_1 _)
 change wpAny _ _ (field (.ref it) 0 >>= _) _ _ s
 apply ao2
 refine av1 e1 e3 (x:=.ref t) rfl ?_
 change wpAny _ _ (if (Value.ref t == Value.none)=true then _ else _) _ _ s
 simp only [isref,as8,aA1]
 change wpAny _ _ (field (.ref it) 1 >>= _) _ _ s
 apply ao2
 refine av1 e1 e3 (x:=.int i 0) rfl ?_
 change wpAny _ _ (seqItems? (.ref t) >>= _) _ _ s
 apply ao2
 apply az1 f1 f3
 simp only [Int.toNat_natCast,hx]
 apply ao2
 apply az2
 apply ao2
 refine wpAny_setField e1 e3 (by simp) ?_
 apply ao2
 simp only [newExc,newTuple]
 apply ao2
 refine ax7 ?_ (by size_fits)
 apply ao2
 refine wpAny_of_eq (a:=Value.none) (by first | rfl | (simp only [firstArgMember]; rfl)) ?_
 refine ax7 ?_ (by size_fits)
 unfold raiseNew
 apply ao2
 apply wpAny_handled
 have quiet:A.in1.handled=none:=hh
 rw [quiet]
 refine wpAny_throw ?_
 exact q _ _ (((Heap.SameBut.update ..).extBut.push _).push _) ⟨_,aq8 _ rfl,rfl⟩
theorem N2 (hh:A.handled=none) (it t:Addr) (ne:t ≠ it) (items:Array Value):Draws prog w A it [it,t] items.size (fun i v=>items[i]? = some v) (fun i h=>h.IsTupleIter it t i/\h.IsTuple t items) where
 live:=fun _ _ st=>st.1.elim fun o y=>⟨o,y.1⟩
 frame:=fun _ _ _ st k=>⟨st.1.at fun o e=>k it aq9 o e,st.2.elim fun o y=>⟨o,k t (aq4 _ aq9) o y.1,y.2⟩⟩
 item:=fun i s Q E lt st q=>N0 st.1 st.2 (Array.getElem?_eq_getElem lt) fun h' again sb=>q _ h' s.toks (Array.getElem?_eq_getElem lt) ⟨again,st.2.elim fun o y=>⟨o,sb.extBut t o ne y.1,y.2⟩⟩ sb
 done:=fun s Q E st q=>N1 hh st.1 st.2 (Array.getElem?_eq_none (ao8 _)) q
end
structure Ap (z TI TO i1 i2:Addr) (fp1 fp2:List Addr):Prop where
 TIz:TI ≠ z
 TOz:TO ≠ z
 TITO:TI ≠ TO
 z1:z ∉ fp1
 z2:z ∉ fp2
 o1:TO ∉ fp1
 o2:TO ∉ fp2
 t1:TI ∉ fp1
 t2:TI ∉ fp2
 m1:i1 ∈ fp1
 m2:i2 ∈ fp2
 n1:i1 ∉ fp2
 n2:i2 ∉ fp1
structure oR (z TI TO i1 i2:Addr) (St1 St2:Nat->Heap->Prop) (f0:Value) (i j:Nat) (h:Heap):Prop where
 zz:IsZip h z TI TO f0
 ti:IsPair h TI (.ref i1) (.ref i2)
 to_:∃ a b,IsPair h TO a b
 s1:St1 i h
 s2:St2 j h
section
variable {prog : Program} {w : World} {A : Around} {E : Value → Shared → Prop} {s : Shared} {z TI TO i1 i2 : Addr} {fp1 fp2 : List Addr} {n1 n2 : Nat} {P1 P2 : Nat → Value → Prop} {St1 St2 : Nat → Heap → Prop}
theorem iN (ap:Ap z TI TO i1 i2 fp1 fp2) {b:Addr} (h:b ∉ fp1):b ≠ i1:=fun e=>h (e ▸ ap.m1)
theorem lG (ap:Ap z TI TO i1 i2 fp1 fp2) {b:Addr} (h:b ∉ fp2):b ≠ i2:=fun e=>h (e ▸ ap.m2)
theorem item (D1:Draws prog w A.in1 i1 fp1 n1 P1 St1) (D2:Draws prog w A.in1 i2 fp2 n2 P2 St2) (ap:Ap z TI TO i1 i2 fp1 fp2) {i:Nat} (l1:i < n1) (l2:i < n2) (st:oR z TI TO i1 i2 St1 St2 .none i i s.heap) {Q:Option Value->Shared->Prop}
  (q:∀ x y h' tk,P1 i x->P2 i y->oR z TI TO i1 i2 St1 St2 (rawInt s.heap.objs.size) (i+1) (i+1) h'->IsPair h' s.heap.objs.size x y->(∀ c o,c ≠ z->c ≠ TO->c ≠ i1->c ≠ i2->s.heap.get? c=some o->h'.get? c=some o)->
   h'.objs.size=s.heap.objs.size+1->Q (some (.ref s.heap.objs.size)) { s with heap:=h',toks:=tk }):wpAny (model prog w) A (pyNext (.ref z)) Q E s:=by
 obtain ⟨hz,hti,⟨a,b,hto⟩,h1,h2⟩:=st
 have T:s.TypeIs (.ref z) "zip":=⟨_,hz,rfl⟩
 have slot:=PySem.F.slot_zip_next
 unfold pyNext
 apply ao2
 apply wpAny_attempt
 apply av7 (name:=Str.ofString "__next__") T slot
 apply aw6 slot T PySem.F.entry_zip_next _ (PySem.F.args_zip_next_1 _)
 change wpAny _ _ (field (.ref z) 2 >>= _) _ _ _
 apply ao2
 refine av1 hz rfl (x:=.bool false) rfl ?_
 change wpAny _ _ (field (.ref z) 3 >>= _) _ _ _
 apply ao2
 refine av1 hz rfl (x:=.ref TI) rfl ?_
 apply ao2
 apply az1 hti rfl
 change wpAny _ _ (Builtin.SmallTypes.ownedTupleIsFree (.ref z) >>= _) _ _ _
 apply ao2
 unfold Builtin.SmallTypes.ownedTupleIsFree
 apply ao2
 refine av1 hz rfl (x:=.none) rfl (ao9 ?_)
 simp only [if_true]
 apply ao2
 apply az2
 apply ao2
 refine av1 hz rfl (x:=.ref TO) rfl ?_
 apply ao2
 refine az3 hz (by simp) fun g1 hz1 sb1=>?_
 have k1:∀ c o,c ≠ z->s.heap.get? c=some o->g1.get? c=some o:=fun c o c1 e=>sb1.extBut c o c1 e
 apply ao2
 simp only [List.zipIdx_cons,List.zipIdx_nil,List.forIn_cons,List.forIn_nil]
 apply ao2
 apply ao2
 apply wpAny_onRaise
 change wpAny _ _ (Builtin.SmallTypes.nextOf (.ref i1) >>= _) _ _ _
 apply ao2
 refine D1.item i { s with heap:=g1 } _ _ l1 (D1.frame _ _ _ h1 fun c hc o e=>k1 c o (fun y=>ap.z1 (y ▸ hc)) e) fun x g2 tk2 px st1 sb2=>ao9 ?_
 have k2:∀ c o,c ≠ z->c ≠ i1->s.heap.get? c=some o->g2.get? c=some o:=fun c o c1 c2 e=>sb2.extBut c o c2 (k1 c o c1 e)
 have to2:IsPair g2 TO a b:=k2 _ _ ap.TOz (iN ap ap.o1) hto
 apply ao2
 apply az1 to2 rfl
 apply ao2
 refine wpAny_updateSeq_pair to2 fun g3 to3 sb3=>?_
 have to3:IsPair g3 TO x b:=to3
 apply ao2
 apply wpAny_letGo
 apply ao9
 apply ao2
 apply ao2
 apply wpAny_onRaise
 change wpAny _ _ (Builtin.SmallTypes.nextOf (.ref i2) >>= _) _ _ _
 apply ao2
 have k3:∀ c o,c ≠ z->c ≠ i1->c ≠ TO->s.heap.get? c=some o->g3.get? c=some o:=fun c o c1 c2 c3 e=>sb3.extBut c o c3 (k2 c o c1 c2 e)
 refine D2.item i { s with heap:=g3,toks:=tk2 } _ _ l2 (D2.frame _ _ _ h2 fun c hc o e=>k3 c o (fun y=>ap.z2 (y ▸ hc)) (fun y=>ap.n1 (y ▸ hc)) (fun y=>ap.o2 (y ▸ hc)) e) fun y g4 tk4 py st2 sb4=>ao9 ?_
 have to4:IsPair g4 TO x b:=sb4.extBut _ _ (lG ap ap.o2) to3
 apply ao2
 apply az1 to4 rfl
 apply ao2
 refine wpAny_updateSeq_pair to4 fun g5 to5 sb5=>?_
 have to5:IsPair g5 TO x y:=to5
 apply ao2
 apply wpAny_letGo
 apply ao9
 apply ao9
 apply ao2
 apply az1 to5 rfl
 apply ao2
 refine wpAny_newTuple ?_ (by show 2<=sizeLine; decide)
 have size:g5.objs.size=s.heap.objs.size:=by rw [sb5.1,sb4.1,sb3.1,sb2.1,sb1.1]
 have k5:∀ c o,c ≠ z->c ≠ TO->c ≠ i1->c ≠ i2->s.heap.get? c=some o->g5.get? c=some o:=fun c o c1 c2 c3 c4 e=>sb5.extBut c o c2 (sb4.extBut c o c4 (k3 c o c1 c3 c2 e))
 have z5:IsZip g5 z TI TO .ellipsis:=sb5.extBut _ _ (Ne.symm ap.TOz) (sb4.extBut _ _ (lG ap ap.z2) (sb3.extBut _ _ (Ne.symm ap.TOz) (sb2.extBut _ _ (iN ap ap.z1) hz1)))
 change wpAny _ _ (Builtin.SmallTypes.ownedTupleHandOut (.ref z) (.ref g5.objs.size) >>= _) _ _ _
 apply ao2
 unfold Builtin.SmallTypes.ownedTupleHandOut
 apply ao2
 have z6:IsZip (g5.push { cls:=.type "tuple",data:=.seq #[x,y] }) z TI TO .ellipsis:=ao3 _ z5
 refine az3 z6 (by simp) fun g7 z7 sb7=>?_
 have z7:IsZip g7 z TI TO (rawInt g5.objs.size):=z7
 refine az3 z7 (by simp) fun g8 z8 sb8=>?_
 have z8:IsZip g8 z TI TO (rawInt g5.objs.size):=z8
 have zlt:z < g5.objs.size:=ap3 z5
 have up:∀ c o,c ≠ z->g5.get? c=some o->g8.get? c=some o:=fun c o c1 e=>sb8.extBut c o c1 (sb7.extBut c o c1 (ao3 _ e))
 have p8:IsPair g8 g5.objs.size x y:=sb8.extBut _ _ (ay2 zlt) (sb7.extBut _ _ (ay2 zlt) (aq8 _ rfl))
 have s8:g8.objs.size=g5.objs.size+1:=by rw [sb8.1,sb7.1,az0]
 have f1:St1 (i+1) g8:=D1.frame _ _ _ st1 fun c hc o e=>up c o (fun y=>ap.z1 (y ▸ hc)) (sb5.extBut c o (fun y=>ap.o1 (y ▸ hc)) (sb4.extBut c o (fun y=>ap.n2 (y ▸ hc)) (sb3.extBut c o (fun y=>ap.o1 (y ▸ hc)) e)))
 have f2:St2 (i+1) g8:=D2.frame _ _ _ st2 fun c hc o e=>up c o (fun y=>ap.z2 (y ▸ hc)) (sb5.extBut c o (fun y=>ap.o2 (y ▸ hc)) e)
 have ti8:IsPair g8 TI (.ref i1) (.ref i2):=up _ _ ap.TIz (k5 _ _ ap.TIz ap.TITO (iN ap ap.t1) (lG ap ap.t2) hti)
 rw [size] at z8 p8 s8
 apply ao9
 refine⟨_,rfl,ao9 ?_⟩
 change Q (some (.ref g5.objs.size)) _
 rw [size]
 exact q x y g8 tk4 px py ⟨z8,ti8,⟨x,y,up _ _ ap.TOz to5⟩,f1,f2⟩ p8 (fun c o c1 c2 c3 c4 e=>up c o c1 (k5 c o c1 c2 c3 c4 e)) s8
theorem fin (D1:Draws prog w A.in1 i1 fp1 n1 P1 St1) (D2:Draws prog w A.in1 i2 fp2 n2 P2 St2) (ap:Ap z TI TO i1 i2 fp1 fp2) {i:Nat} (le:i=n1 ∨ (i < n1/\i=n2)) (st:oR z TI TO i1 i2 St1 St2 .none i i s.heap) {Q:Option Value->Shared->Prop}
  (q:∀ h' tk,(∀ c o,c ≠ z->c ≠ TO->c ≠ i1->c ≠ i2->s.heap.get? c=some o->h'.get? c=some o)->Q none { s with heap:=h',toks:=tk }):wpAny (model prog w) A (pyNext (.ref z)) Q E s:=by
 obtain ⟨hz,hti,⟨a,b,hto⟩,h1,h2⟩:=st
 have T:s.TypeIs (.ref z) "zip":=⟨_,hz,rfl⟩
 have slot:=PySem.F.slot_zip_next
 unfold pyNext
 apply ao2
 apply wpAny_attempt
 apply av7 (name:=Str.ofString "__next__") T slot
 apply aw6 slot T PySem.F.entry_zip_next _ (PySem.F.args_zip_next_1 _)
 change wpAny _ _ (field (.ref z) 2 >>= _) _ _ _
 apply ao2
 refine av1 hz rfl (x:=.bool false) rfl ?_
 change wpAny _ _ (field (.ref z) 3 >>= _) _ _ _
 apply ao2
 refine av1 hz rfl (x:=.ref TI) rfl ?_
 apply ao2
 apply az1 hti rfl
 change wpAny _ _ (Builtin.SmallTypes.ownedTupleIsFree (.ref z) >>= _) _ _ _
 apply ao2
 unfold Builtin.SmallTypes.ownedTupleIsFree
 apply ao2
 refine av1 hz rfl (x:=.none) rfl (ao9 ?_)
 simp only [if_true]
 apply ao2
 apply az2
 apply ao2
 refine av1 hz rfl (x:=.ref TO) rfl ?_
 apply ao2
 refine az3 hz (by simp) fun g1 hz1 sb1=>?_
 have k1:∀ c o,c ≠ z->s.heap.get? c=some o->g1.get? c=some o:=fun c o c1 e=>sb1.extBut c o c1 e
 apply ao2
 simp only [List.zipIdx_cons,List.zipIdx_nil,List.forIn_cons,List.forIn_nil]
 apply ao2
 apply ao2
 apply wpAny_onRaise
 change wpAny _ _ (Builtin.SmallTypes.nextOf (.ref i1) >>= _) _ _ _
 apply ao2
 have z1:IsZip g1 z TI TO .ellipsis:=hz1
 rcases le with rfl | ⟨lt,rfl⟩
 ·refine D1.done { s with heap:=g1 } _ _ (D1.frame _ _ _ h1 fun c hc o e=>k1 c o (fun y=>ap.z1 (y ▸ hc)) e) fun g2 e eb ex=>?_
  have z2:IsZip g2 z TI TO .ellipsis:=eb _ _ (iN ap ap.z1) z1
  refine az3 z2 (by simp) fun g3 z3 sb3=>?_
  obtain ⟨oe,eo,co⟩:=ex
  have ne:e ≠ z:=fun y=>by
   rw [y,z2] at eo
   have:=ar1 eo
   rw [<- this] at co; exact absurd (show Value.type "zip" = Value.type "StopIteration" from co) (by decide)
  apply ao2
  refine wpAny_isInstance (T:="StopIteration") (b:=true) ⟨oe,sb3.extBut _ _ ne eo,co⟩ isSubtype_stop ?_
  exact ao9 (q g3 s.toks fun c o c1 _ c3 _ e=>sb3.extBut c o c1 (eb c o c3 (k1 c o c1 e)))
 ·refine D1.item i { s with heap:=g1 } _ _ lt (D1.frame _ _ _ h1 fun c hc o e=>k1 c o (fun y=>ap.z1 (y ▸ hc)) e) fun x g2 tk2 px st1 sb2=>ao9 ?_
  have k2:∀ c o,c ≠ z->c ≠ i1->s.heap.get? c=some o->g2.get? c=some o:=fun c o c1 c2 e=>sb2.extBut c o c2 (k1 c o c1 e)
  have to2:IsPair g2 TO a b:=k2 _ _ ap.TOz (iN ap ap.o1) hto
  apply ao2
  apply az1 to2 rfl
  apply ao2
  refine wpAny_updateSeq_pair to2 fun g3 to3 sb3=>?_
  apply ao2
  apply wpAny_letGo
  apply ao9
  apply ao2
  apply ao2
  apply wpAny_onRaise
  change wpAny _ _ (Builtin.SmallTypes.nextOf (.ref i2) >>= _) _ _ _
  apply ao2
  have k3:∀ c o,c ≠ z->c ≠ i1->c ≠ TO->s.heap.get? c=some o->g3.get? c=some o:=fun c o c1 c2 c3 e=>sb3.extBut c o c3 (k2 c o c1 c2 e)
  refine D2.done { s with heap:=g3,toks:=tk2 } _ _ (D2.frame _ _ _ h2 fun c hc o e=>k3 c o (fun y=>ap.z2 (y ▸ hc)) (fun y=>ap.n1 (y ▸ hc)) (fun y=>ap.o2 (y ▸ hc)) e) fun g4 e eb ex=>?_
  have z4:IsZip g4 z TI TO .ellipsis:=eb _ _ (lG ap ap.z2) (sb3.extBut _ _ (Ne.symm ap.TOz) (sb2.extBut _ _ (iN ap ap.z1) z1))
  refine az3 z4 (by simp) fun g5 z5 sb5=>?_
  obtain ⟨oe,eo,co⟩:=ex
  have ne:e ≠ z:=fun y=>by
   rw [y,z4] at eo
   have:=ar1 eo
   rw [<- this] at co; exact absurd (show Value.type "zip" = Value.type "StopIteration" from co) (by decide)
  apply ao2
  refine wpAny_isInstance (T:="StopIteration") (b:=true) ⟨oe,sb5.extBut _ _ ne eo,co⟩ isSubtype_stop ?_
  exact ao9 (q g5 tk2 fun c o c1 c2 c3 c4 e=>sb5.extBut c o c1 (eb c o c4 (k3 c o c1 c3 c2 e)))
end
noncomputable def dM (h:Heap) (t u:Addr):Heap:=
 ((((h.push { cls:=.type "tuple_iterator",data:=.fields #[.ref t,.int 0 0] }).push { cls:=.type "tuple_iterator",data:=.fields #[.ref u,.int 0 0] }).push { cls:=.type "tuple",data:=.seq #[.ref h.objs.size,.ref (h.objs.size+1)] }).push
  { cls:=.type "tuple",data:=.seq #[.none,.none] }).push { cls:=.type "zip",data:=.fields #[.none,.bool false,.bool false,.ref (h.objs.size+2),.ref (h.objs.size+3)] }
theorem N3 (t u:Addr) (xs ys:Array Value):Meets (Builtin.«zip.__new__» ⟨[.type "zip",.ref t,.ref u],[]⟩) (fun _ R s=>s.heap.IsTuple t xs/\s.heap.IsTuple u ys/\R (.ok (.ret (.ref (s.heap.objs.size+4)))) { s with heap:=dM s.heap t u }):=
 .of_wp fun prog w A R s h=>by
  obtain ⟨hp,g,d,tk,os⟩:=s
  obtain ⟨ht,hu,h⟩:=h
  have sub:=sub_zip
  have a1:Heap.IsTuple (Shared.heap ⟨hp,g,d,tk,os⟩) t xs:=ht
  have a2:Heap.IsTuple (Shared.heap ⟨hp.push { cls:=.type "tuple_iterator",data:=.fields #[.ref t,.int 0 0] },g,d,tk,os⟩) u ys:=hu.elim fun o y=>⟨o,ao3 _ y.1,y.2⟩
  wp_walk using wpAny_pyIter_tuple a1,wpAny_pyIter_tuple a2
  have e:∀ (o:Obj) (k:Heap),(k.push o).objs.size=k.objs.size+1:=fun o k=>az0 ..
  refine⟨_,rfl,?_⟩
  simp only [dM,e] at h ⊢
  exact h
section
variable {prog : Program} {w : World} {A : Around} {E : Value → Shared → Prop} {s : Shared}
theorem N4 {t u:Addr}{xs ys:Array Value}{Q:Value->Shared->Prop} (ht:s.heap.IsTuple t xs) (hu:s.heap.IsTuple u ys)
  (q:∀ h',IsZip h' (s.heap.objs.size+4) (s.heap.objs.size+2) (s.heap.objs.size+3) .none->IsPair h' (s.heap.objs.size+2) (.ref s.heap.objs.size) (.ref (s.heap.objs.size+1))->
   IsPair h' (s.heap.objs.size+3) .none .none->h'.IsTupleIter s.heap.objs.size t 0->h'.IsTupleIter (s.heap.objs.size+1) u 0->(∀ c o,s.heap.get? c=some o->h'.get? c=some o)->Q (.ref (s.heap.objs.size+4)) { s with heap:=h' }) :
  wpAny (model prog w) A (call (.type "zip") [.ref t,.ref u]) Q E s:=by
 refine callType_new PySem.F.called_zip (by decide) (PySem.F.typeCall_zip_2 _ _) (PySem.F.newCall_zip_2 _ _) (fun obj=>PySem.F.args_object_init_3 obj _ _) PySem.F.entry_zip_new (N3 t u xs ys) ⟨ht,hu,?_⟩
 have e:∀ (o:Obj) (k:Heap),(k.push o).objs.size=k.objs.size+1:=fun o k=>az0 ..
 have p0:∀ (k:Heap) (o:Obj) (m:Nat),o.isFreed=false->m=k.objs.size->(k.push o).get? m=some o:=fun k o m f z=>by rw [z]; exact aq8 _ f
 have g0:(dM s.heap t u).get? s.heap.objs.size=some { cls:=.type "tuple_iterator",data:=.fields #[.ref t,.int 0 0] }:=by
  unfold dM
  exact ao3 _ (ao3 _ (ao3 _ (ao3 _ (p0 _ _ _ rfl rfl))))
 have g1:(dM s.heap t u).get? (s.heap.objs.size+1)=some { cls:=.type "tuple_iterator",data:=.fields #[.ref u,.int 0 0] }:=by
  unfold dM
  exact ao3 _ (ao3 _ (ao3 _ (p0 _ _ _ rfl (by simp only [e]))))
 have g2:(dM s.heap t u).get? (s.heap.objs.size+2)=some { cls:=.type "tuple",data:=.seq #[.ref s.heap.objs.size,.ref (s.heap.objs.size+1)] }:=by
  unfold dM
  exact ao3 _ (ao3 _ (p0 _ _ _ rfl (by simp only [e])))
 have g3:(dM s.heap t u).get? (s.heap.objs.size+3)=some { cls:=.type "tuple",data:=.seq #[.none,.none] }:=by
  unfold dM
  exact ao3 _ (p0 _ _ _ rfl (by simp only [e]))
 have g4:(dM s.heap t u).get? (s.heap.objs.size+4)=some { cls:=.type "zip",data:=.fields #[.none,.bool false,.bool false,.ref (s.heap.objs.size+2),.ref (s.heap.objs.size+3)] }:=by
  unfold dM
  exact p0 _ _ _ rfl (by simp only [e])
 refine⟨⟨_,g4,rfl⟩,q _ g4 g2 g3 ⟨_,g0,rfl,rfl⟩ ⟨_,g1,rfl,rfl⟩ fun c o z=>?_⟩
 unfold dM
 exact ao3 _ (ao3 _ (ao3 _ (ao3 _ (ao3 _ z))))
end
end Zp
namespace L2
open PySem PySem.Spec PyProof.Rows
noncomputable def oS (K:PySem.W.Frag) (a b:Addr):It:=
  ⟨fun i H=>∃ xs ys x y,aE K H a xs/\aE K H b ys/\xs[i]? = some x/\ys[i]? = some y,
   fun i H v H'=>∃ T x y,H T=none/\v = .ref T/\H'=upd H T (.tup [x,y])/\∀ xs ys,aE K H a xs->aE K H b ys->xs[i]? = some x/\ys[i]? = some y,
   fun i H=>∃ xs ys,aE K H a xs/\aE K H b ys/\(i=xs.length ∨ (i < xs.length/\i=ys.length))⟩
noncomputable def Sq (t:Bool) (K:PySem.W.Frag) (H:Hp) (a:Addr) (xs:List V):Prop:=match t with
 | true=>aE K H a xs
 | false=>aG K H a xs
noncomputable def dN (t:Bool) (h:Heap) (i a:Addr) (n:Nat):Prop:=match t with
 | true=>h.IsTupleIter i a n
 | false=>h.IsListIter i a n
noncomputable def tU (t:Bool) (h:Heap) (a:Addr) (xs:Array Value):Prop:=match t with
 | true=>h.IsTuple a xs
 | false=>h.IsList a xs
theorem dN.at {h h':Heap}{i a:Addr}{n:Nat}:∀ {t:Bool},dN t h i a n->(∀ o,h.get? i=some o->h'.get? i=some o)->dN t h' i a n
 | true,x,k=>Heap.IsTupleIter.at x k
 | false,x,k=>Heap.IsListIter.at x k
theorem dN.ob {h:Heap}{i a:Addr}{n:Nat}:∀ {t:Bool},dN t h i a n->∃ o,h.get? i=some o/\∀ v,o.data ≠ .cell v
 | true,⟨o,f,_,d⟩=>⟨o,f,fun v q=>by rw [d] at q; cases q⟩
 | false,⟨o,f,_,d⟩=>⟨o,f,fun v q=>by rw [d] at q; cases q⟩
theorem dN.draws {prog:Program}{w:World}{A:Around}:∀ (t:Bool) (hh:A.handled=none) (it a:Addr) (ne:a ≠ it) (items:Array Value),Draws prog w A it [it,a] items.size (fun i v=>items[i]? = some v) (fun i h=>dN t h it a i/\tU t h a items)
 | true,hh,it,a,ne,items=>Zp.N2 hh it a ne items
 | false,hh,it,a,ne,items=>Draws.list hh it a ne items
section
variable {X : Cx} {pins : List (Addr × Obj)} {σ : St} {H : Hp} {s : Shared} {a : Addr} {xs ys : List V}
theorem Sq.get (I:a5 X pins σ H s):∀ {t:Bool},Sq t X.K H a xs->∃ us,aF xs us/\tU t s.heap a us.toArray
 | true,h=>by obtain ⟨us,r,p,_⟩:=I.tuple h; exact⟨us,r,p⟩
 | false,h=>by obtain ⟨us,r,p,_⟩:=I.list h; exact⟨us,r,p.isList⟩
theorem Sq.inj (I:a5 X pins σ H s):∀ {t:Bool},Sq t X.K H a xs->Sq t X.K H a ys->xs=ys
 | true,h,g=>I.tuple_inj h g
 | false,h,g=>I.list_inj h g
theorem Sq.off (I:a5 X pins σ H s) (he:H a=none) (hb:X.base.get? a=none):∀ {t:Bool},Sq t X.K H a xs->False
 | true,h=>by
  rcases h with (h | ⟨_,h⟩) | ⟨o,_,_,h,_⟩
  ·rw [he] at h; cases h
  ·rw [he] at h; cases h
  ·have:=I.ok.mod.kin a o h
   rw [hb] at this; cases this
 | false,h=>by
  rcases h with (h | ⟨_,h⟩) | ⟨o,_,_,h,_⟩
  ·rw [he] at h; cases h
  ·rw [he] at h; cases h
  ·have:=I.ok.mod.kin a o h
   rw [hb] at this; cases this
end
noncomputable def N5 (t1 t2:Bool) (K:PySem.W.Frag) (a b:Addr):It:=
  ⟨fun i H=>∃ xs ys x y,Sq t1 K H a xs/\Sq t2 K H b ys/\xs[i]? = some x/\ys[i]? = some y,
   fun i H v H'=>∃ T x y,H T=none/\v = .ref T/\H'=upd H T (.tup [x,y])/\∀ xs ys,Sq t1 K H a xs->Sq t2 K H b ys->xs[i]? = some x/\ys[i]? = some y,
   fun i H=>∃ xs ys,Sq t1 K H a xs/\Sq t2 K H b ys/\(i=xs.length ∨ (i < xs.length/\i=ys.length))⟩
structure oT (t1 t2:Bool) (z TI TO i1 i2 a b:Addr) (i:Nat) (h:Heap):Prop where
 zz:IsZip h z TI TO .none
 ti:IsPair h TI (.ref i1) (.ref i2)
 to_:∃ x y,IsPair h TO x y
 s1:dN t1 h i1 a i
 s2:dN t2 h i2 b i
theorem tV (t1 t2:Bool) {P:Program}{w:World}{K:PySem.W.Frag}{elts:List Expr}{k:Nat}{pos:Pos} (a b z TI TO i1 i2:Addr) (d : [z,TI,TO,i1,i2].Nodup) :
  gF P w K (.Tuple elts k pos) (N5 t1 t2 K a b) [z,TI,TO,i1,i2] z (oT t1 t2 z TI TO i1 i2 a b):=by
 have nd:z ≠ TI/\z ≠ TO/\z ≠ i1/\z ≠ i2/\TI ≠ TO/\TI ≠ i1/\TI ≠ i2/\TO ≠ i1/\TO ≠ i2/\i1 ≠ i2:=by
  simp only [List.nodup_cons,ap0,aq6,aw2,not_or] at d
  obtain ⟨⟨a1,a2,a3,a4⟩,⟨b1,b2,b3⟩,⟨c1,c2⟩,e1,_⟩:=d
  exact⟨a1,a2,a3,a4,b1,b2,b3,c1,c2,e1⟩
 obtain ⟨n1,n2,n3,n4,n5,n6,n7,n8,n9,n10⟩:=nd
 have offBase:∀ {X:Cx}{pins:List (Addr × Obj)}{σ:St}{H:Hp}{s:Shared},a5 X pins σ H s->(∀ c ∈ [z,TI,TO,i1,i2],dI X pins H c)->∀ c ∈ [z,TI,TO,i1,i2],X.base.get? c=none:=by
  intro X pins σ H s I hf c hc
  cases q:X.base.get? c with
  | none=>rfl
  | some o=>
   rcases (hf c hc).2.2.2.1 with h | h
   ·exact absurd h (I.ok.noex c o q)
   ·exact absurd (ap1 (ap3 q) (as7 I.ok.bsz h)) (at8 _)
 have off:∀ {t:Bool}{X:Cx}{pins:List (Addr × Obj)}{σ:St}{H:Hp}{s:Shared}{c:Addr}{zs:List V},a5 X pins σ H s->(∀ c ∈ [z,TI,TO,i1,i2],dI X pins H c)->Sq t X.K H c zs->c ∉ [z,TI,TO,i1,i2]:=by
  intro t X pins σ H s c zs I hf hc hm
  exact Sq.off I (hf c hm).1 (offBase I hf c hm) hc
 have ap:∀ {c e:Addr},c ∉ [z,TI,TO,i1,i2]->e ∉ [z,TI,TO,i1,i2]->Zp.Ap z TI TO i1 i2 [i1,c] [i2,e]:=fun {c e} hc he=>by
  simp only [ap0,aq6,aw2,not_or] at hc he
  obtain ⟨c1,c2,c3,c4,c5⟩:=hc
  obtain ⟨e1,e2,e3,e4,e5⟩:=he
  have two:∀ {q u v:Addr},q ≠ u->q ≠ v->q ∉ [u,v]:=fun {q u v} h1 h2 hm=>by
   simp only [ap0,aq6,aw2] at hm
   exact hm.elim h1 h2
  exact⟨n1.symm,n2.symm,n5,two n3 (Ne.symm c1),two n4 (Ne.symm e1),two n8 (Ne.symm c3),two n9 (Ne.symm e3),two n6 (Ne.symm c2),two n7 (Ne.symm e2),aq9,aq9,two n10 (Ne.symm e4),two n10.symm (Ne.symm c5)⟩
 refine⟨by simp,fun i h st c hc=>?_,fun i h h' st kp=>?_,?_,?_,fun A i s Q E st q=>wpAny_pyIter_zip st.zz q⟩
 ·simp only [ap0,aq6,aw2] at hc
  obtain ⟨x,y,to⟩:=st.to_
  rcases hc with rfl | rfl | rfl | rfl | rfl
  ·exact⟨_,st.zz,fun v q=>by cases q⟩
  ·exact⟨_,st.ti,fun v q=>by cases q⟩
  ·exact⟨_,to,fun v q=>by cases q⟩
  ·exact st.s1.ob
  ·exact st.s2.ob
 ·obtain ⟨x,y,to⟩:=st.to_
  exact⟨kp z (by simp) _ st.zz,kp TI (by simp) _ st.ti,⟨x,y,kp TO (by simp) _ to⟩,st.s1.at fun o e=>kp i1 (by simp) o e,st.s2.at fun o e=>kp i2 (by simp) o e⟩
 ·
  intro X hP hw hK hc i pins s σ H E I hf st hg
  subst hP hw hK
  obtain ⟨xs,ys,x,y,ha,hb,hx,hy⟩:=hg
  obtain ⟨us,ru,pu⟩:=Sq.get I ha
  obtain ⟨vs,rv,pv'⟩:=Sq.get I hb
  obtain ⟨ux,eux,rux⟩:=ru.get hx
  obtain ⟨vy,evy,rvy⟩:=rv.get hy
  have fa:=off I hf ha
  have fb:=off I hf hb
  have hh:X.A.in1.handled=none:=I.ok.hd hc
  have l1:i < us.toArray.size:=by simpa using (aq7.mp eux).1
  have l2:i < vs.toArray.size:=by simpa using (aq7.mp evy).1
  have fa':a ≠ i1:=fun q=>fa (by rw [q]; simp)
  have fb':b ≠ i2:=fun q=>fb (by rw [q]; simp)
  have D1:=dN.draws t1 (prog:=X.prog) (w:=X.w) hh i1 a fa' us.toArray
  have D2:=dN.draws t2 (prog:=X.prog) (w:=X.w) hh i2 b fb' vs.toArray
  refine Zp.item D1 D2 (ap fa fb) l1 l2 ⟨st.zz,st.ti,st.to_,⟨st.s1,pu⟩,⟨st.s2,pv'⟩⟩ fun p q h' tk hp hq st' pr kp sz=>⟨_,rfl,?_⟩
  obtain rfl:p=ux:=by
   have:us.toArray[i]? = some ux:=by simpa using eux
   rw [this] at hp; exact (ar1 hp).symm
  obtain rfl:q=vy:=by
   have:vs.toArray[i]? = some vy:=by simpa using evy
   rw [this] at hq; exact (ar1 hq).symm
  refine wpAny_letOwnedTupleGo_zip (s:={ s with heap:=h',toks:=tk }) st'.zz fun g zz sb=>?_
  have hzl:z < s.heap.objs.size:=ap3 st.zz
  have up:∀ c o,c ≠ z->c ≠ TO->c ≠ i1->c ≠ i2->s.heap.get? c=some o->g.get? c=some o:=fun c o c1 c2 c3 c4 e=>sb.extBut c o c1 (kp c o c1 c2 c3 c4 e)
  have hT:H s.heap.objs.size=none:=I.hok.fresh (ao8 _)
  have prG:IsPair g s.heap.objs.size p q:=sb.extBut _ _ (ay2 hzl) pr
  have fpn:∀ c u,H c=some u->c ∉ [z,TI,TO,i1,i2]:=fun c u e hm=>by rw [(hf c hm).1] at e; cases e
  have upH:∀ c o u,H c=some u->s.heap.get? c=some o->g.get? c=some o:=fun c o u e z=>by
   have:=fpn c u e
   simp only [ap0,aq6,aw2,not_or] at this
   exact up c o this.1 this.2.2.1 this.2.2.2.1 this.2.2.2.2 z
  have ns:∀ m,s.heap.Ns X.env.locals m->g.Ns X.env.locals m:=fun m hm=>by
   obtain ⟨o,es,ep,e1,e2⟩:=hm
   exact⟨o,es,ep,up _ o (Ne.symm (hf z (by simp)).2.1) (Ne.symm (hf TO (by simp)).2.1) (Ne.symm (hf i1 (by simp)).2.1) (Ne.symm (hf i2 (by simp)).2.1) e1,e2⟩
  have I2:a5 X pins σ (upd H s.heap.objs.size (.tup [x,y])) { s with heap:=g,toks:=tk }:=by
   refine I.step (g':=s.gens) (d':=s.drawn) (ch:=[z,TO,i1,i2]) (fun c hc'=>?_) (fun c o _ _ hc' e _=>?_) (fun c o _ _ hc' e _=>⟨o.slots,?_⟩) (fun c o _ e n=>?_) (fun c o hc' e=>⟨o,?_⟩)
    (fun c zs e=>by rw [aQ (eF e hT)]; exact e) (fun c u zs e=>by rw [aQ (eF e hT)]; exact e) (fun c ps e=>⟨#[],by rw [aQ (eF e hT),e]; simp⟩) ns (fun c u e=>?_) I.bare
   ·have hm:c ∈ [z,TI,TO,i1,i2]:=by
     simp only [ap0,aq6,aw2] at hc' ⊢
     rcases hc' with h | h | h | h <;> simp [h]
    exact⟨(hf c hm).2.2.2.1,(hf c hm).2.1,(hf c hm).2.2.2.2.1,(hf c hm).2.2.2.2.2⟩
   ·simp only [ap0,aq6,aw2,not_or] at hc'
    exact up c o hc'.1 hc'.2.1 hc'.2.2.1 hc'.2.2.2 e
   ·simp only [ap0,aq6,aw2,not_or] at hc'
    exact up c o hc'.1 hc'.2.1 hc'.2.2.1 hc'.2.2.2 e
   ·rw [aQ (as1 (ap3 e))]; exact n
   ·simp only [ap0,aq6,aw2,not_or] at hc'
    exact up c o hc'.1 hc'.2.1 hc'.2.2.1 hc'.2.2.2 e
   ·by_cases hcT:c=s.heap.objs.size
    ·subst hcT
     rw [bL] at e; cases e
     exact⟨by show 2<=sizeLine; decide,[p,q],.cons rux (.cons rvy .nil),⟨_,prG,rfl,_,rfl⟩,fun u e=>by rw [prG] at e; cases e; rfl⟩
    ·rw [aQ hcT] at e
     refine (I.hok c u e).stay (fun c' o' hc2 q'=>?_) (fun c' q'=>by rw [aQ (eF q' hT)]; exact q') fun c' zs q'=>by rw [aQ (eF q' hT)]; exact q'
     rcases hc2 with rfl | hc2
     ·exact upH _ _ _ e q'
     ·exact upH _ _ _ hc2 q'
  obtain ⟨x',y',to'⟩:=st'.to_
  refine⟨.ref s.heap.objs.size,_,I2,rfl,⟨_,x,y,hT,rfl,rfl,fun xs' ys' ha' hb'=>?_⟩,⟨zz,sb.extBut _ _ n1.symm st'.ti,⟨x',y',sb.extBut _ _ n2.symm to'⟩,st'.s1.1.at fun o e=>sb.extBut _ o n3.symm e,st'.s2.1.at fun o e=>sb.extBut _ o n4.symm e⟩,fun c hc'=>?_⟩
  ·rw [Sq.inj I ha' ha,Sq.inj I hb' hb]; exact⟨hx,hy⟩
  ·obtain ⟨o,e,_⟩:∃ o,s.heap.get? c=some o/\True:=by
    simp only [ap0,aq6,aw2] at hc'
    obtain ⟨x2,y2,to2⟩:=st.to_
    obtain ⟨o1,f1,_⟩:=st.s1.ob
    obtain ⟨o2,f2,_⟩:=st.s2.ob
    rcases hc' with rfl | rfl | rfl | rfl | rfl
    ·exact⟨_,st.zz,trivial⟩
    ·exact⟨_,st.ti,trivial⟩
    ·exact⟨_,to2,trivial⟩
    ·exact⟨_,f1,trivial⟩
    ·exact⟨_,f2,trivial⟩
   rw [aQ (as1 (ap3 e))]; exact (hf c hc').1
 ·
  intro X hP hw hK hc i pins s σ H E I hf st hg
  subst hP hw hK
  obtain ⟨xs,ys,ha,hb,hi⟩:=hg
  obtain ⟨us,ru,pu⟩:=Sq.get I ha
  obtain ⟨vs,rv,pv'⟩:=Sq.get I hb
  have fa:=off I hf ha
  have fb:=off I hf hb
  have hh:X.A.in1.handled=none:=I.ok.hd hc
  have fa':a ≠ i1:=fun q=>fa (by rw [q]; simp)
  have fb':b ≠ i2:=fun q=>fb (by rw [q]; simp)
  have D1:=dN.draws t1 (prog:=X.prog) (w:=X.w) hh i1 a fa' us.toArray
  have D2:=dN.draws t2 (prog:=X.prog) (w:=X.w) hh i2 b fb' vs.toArray
  have e1:=ru.length
  have e2:=rv.length
  refine Zp.fin D1 D2 (ap fa fb) (by simp only [ao4]; lia) ⟨st.zz,st.ti,st.to_,⟨st.s1,pu⟩,⟨st.s2,pv'⟩⟩ fun g tk kp=>⟨rfl,?_⟩
  have fpn:∀ c u,H c=some u->c ∉ [z,TI,TO,i1,i2]:=fun c u e hm=>by rw [(hf c hm).1] at e; cases e
  have upH:∀ c o u,H c=some u->s.heap.get? c=some o->g.get? c=some o:=fun c o u e z=>by
   have:=fpn c u e
   simp only [ap0,aq6,aw2,not_or] at this
   exact kp c o this.1 this.2.2.1 this.2.2.2.1 this.2.2.2.2 z
  have ns:∀ m,s.heap.Ns X.env.locals m->g.Ns X.env.locals m:=fun m hm=>by
   obtain ⟨o,es,ep,e1,e2⟩:=hm
   exact⟨o,es,ep,kp _ o (Ne.symm (hf z (by simp)).2.1) (Ne.symm (hf TO (by simp)).2.1) (Ne.symm (hf i1 (by simp)).2.1) (Ne.symm (hf i2 (by simp)).2.1) e1,e2⟩
  refine I.step (g':=s.gens) (d':=s.drawn) (ch:=[z,TO,i1,i2]) (fun c hc'=>?_) (fun c o _ _ hc' e _=>?_) (fun c o _ _ hc' e _=>⟨o.slots,?_⟩) (fun c o _ e n=>n) (fun c o hc' e=>⟨o,?_⟩)
   (fun c zs e=>e) (fun c u zs e=>e) (fun c ps e=>⟨#[],by rw [e]; simp⟩) ns (fun c u e=>?_) I.bare
  ·have hm:c ∈ [z,TI,TO,i1,i2]:=by
    simp only [ap0,aq6,aw2] at hc' ⊢
    rcases hc' with h | h | h | h <;> simp [h]
   exact⟨(hf c hm).2.2.2.1,(hf c hm).2.1,(hf c hm).2.2.2.2.1,(hf c hm).2.2.2.2.2⟩
  ·simp only [ap0,aq6,aw2,not_or] at hc'
   exact kp c o hc'.1 hc'.2.1 hc'.2.2.1 hc'.2.2.2 e
  ·simp only [ap0,aq6,aw2,not_or] at hc'
   exact kp c o hc'.1 hc'.2.1 hc'.2.2.1 hc'.2.2.2 e
  ·simp only [ap0,aq6,aw2,not_or] at hc'
   exact kp c o hc'.1 hc'.2.1 hc'.2.2.1 hc'.2.2.2 e
  ·refine (I.hok c u e).stay (fun c' o' hc2 q'=>?_) (fun _ q'=>q') fun _ _ q'=>q'
   rcases hc2 with rfl | hc2
   ·exact upH _ _ _ e q'
   ·exact upH _ _ _ hc2 q'
noncomputable abbrev N6:=oT true true
theorem N7 {P:Program}{w:World}{K:PySem.W.Frag}{elts:List Expr}{k:Nat}{pos:Pos} (a b z TI TO i1 i2:Addr) (d : [z,TI,TO,i1,i2].Nodup) :
  gF P w K (.Tuple elts k pos) (oS K a b) [z,TI,TO,i1,i2] z (N6 z TI TO i1 i2 a b):=tV true true a b z TI TO i1 i2 d
section
variable {X : Cx}
theorem N8 (hc:X.calm=true):bV X (.builtin "all") (fun xs H Q=>∃ (a:Addr) (bs:List Bool),xs = [.ref a]/\aG X.K H a (bs.map V.bl)/\Q (.bl (bs.all id)) H):=by
 intro pins s σ H xs us Q I r h
 obtain ⟨a,bs,rfl,hq,q⟩:=h
 obtain ⟨u,rfl,ru⟩:=eW r
 cases ru
 obtain ⟨its,rv,p,hz⟩:=I.list hq
 have hl:=rv.length
 rw [ap9] at hl
 have hlt:a < s.heap.objs.size:=by obtain ⟨o,e,_⟩:=p.isList; exact ap3 e
 refine call_all_walk (wpAny_pyIter_list p.isList ?_)
 have hh:X.A.in1.handled=none:=I.ok.hd hc
 refine⟨s.heap.objs.size,_,_,_,_,_,fun i=>bs.getD i false,rfl,Walks.list hh s.heap.objs.size a (as1 hlt) its.toArray,⟨⟨_,aq8 _ rfl,rfl,rfl⟩,p.isList.push _⟩,?_,fun h' tk kp=>?_⟩
 ·intro i v s' Q' E' hP hQ'
  have hi:its[i]? = some v:=by simpa using hP
  have hil:i < bs.length:=by rw [hl]; exact (aq7.mp hi).1
  obtain ⟨u,e1,e2⟩:=rv.get (i:=i) (x:=.bl bs[i]) (by simp [hil])
  rw [hi] at e1; cases e1
  cases e2
  have:bs.getD i false=bs[i]:=by rw [ap5,ao6 hil]; rfl
  have hQ2:Q' (bs.getD i false) s':=hQ'
  rw [this] at hQ2
  exact az9 hQ2
 ·have all_eq:(List.range its.toArray.size).all (fun i=>bs.getD i false)=bs.all id:=by
   rw [ao4,<- hl]
   clear q rv hz hl hq hlt p hh kp
   induction bs with
   | nil=>rfl
   | cons b r ih=>
    rw [au7,List.range_succ_eq_map,aA8,List.all_map,aA8,<- ih]
    rfl
  rw [all_eq]
  refine⟨.bl (bs.all id),H,I.kept (t':=tk) (h':=h') fun b o e=>kp b o (fun z=>?_) (ao3 _ e),rfl,q⟩
  rw [aq3.mp z] at e
  exact absurd (ap3 e) (at8 _)
end
end L2
namespace HT
open PySem PyProof.Rows
section
variable {prog : Program} {w : World} {A : Around} {E : Value → Shared → Prop} {s : Shared}
theorem N9 {t sl:Addr}{items:Array Value}{vl vu:Value}{lo hi:Option Int}{Q:Value->Shared->Prop} (ht:IsTup s.heap t items) (hs:s.heap.IsSliceOf sl vl vu .none) (pl:IsPart vl lo) (pu:IsPart vu hi)
  (h1:aH items.size 0 lo=0) (h2:aH items.size items.size hi=items.size) (h:Q (.ref t) s):wpAny (model prog w) A (getItem (.ref t) (.ref sl)) Q E s:=by
 obtain ⟨o,e1,e2,e3⟩:=id hs
 have T:s.TypeIs (.ref sl) "slice":=⟨o,e1,e2⟩
 unfold getItem
 try with_reducible refine ay5 ?_
 first | refine ao2 (ao9 ?_) | skip
 apply ao2
 apply wpAny_sequenceKey ht.typeIs (by decide)
 apply ao2
 apply av7 (name:=Str.ofString "__getitem__") ht.typeIs aw4
 apply aw6 aw4 ht.typeIs entry_tuple_getitem _ (args_tuple_getitem _ _)
 change wpAny _ _ (Builtin.Tuple.tupleItemsOf (.ref t) >>= _) _ _ s
 apply ao2
 apply tupleItemsOf_ ht
 apply ao2
 apply wpAny_typeOf T
 rw [if_pos (by decide)]
 apply ao2
 apply sV hs pl pu
 rw [h1,h2]
 have yes:((((0:Nat):Int) == 0 && (1:Int) == 1 && (items.size - 0) == items.size)=true):=by simp
 change wpAny _ _ (if ((((0:Nat):Int) == 0 && (1:Int) == 1 && (items.size - 0) == items.size)=true) then _ else _) _ _ s
 rw [if_pos yes]
 apply ao2
 unfold Builtin.Tuple.tupleIsExact
 apply ao2
 apply wpAny_typeOf ht.typeIs
 apply ao9
 change wpAny _ _ (rule "tuple.getitem.whole" >>= fun _=>ret (Value.ref t)) _ _ s
 apply ao2
 apply az2
 exact ao9 ⟨_,rfl,ao9 h⟩
end
end HT
namespace L2
open PySem PySem.Spec PyProof.Rows
section
variable {X : Cx}
noncomputable def O0 (K:PySem.W.Frag):V->Option Int->Option Int->Hp->VK->Prop:=fun x lo hi H Q=>∃ a xs,x = .ref a/\aE K H a xs/\(∀ p,H p=none->Q (.ref p) (upd H p (.tup (eG xs lo hi))))/\(eG xs lo hi=xs->Q (.ref a) H)
theorem O1:gH X (O0 X.K):=by
 intro pins s σ H x v vl vu lo hi sl Q I rx hs pl pu h
 obtain ⟨a,xs,ex,hx,q1,q2⟩:=h
 by_cases hw:HT.aH xs.length 0 lo=0/\HT.aH xs.length xs.length hi=xs.length
 ·subst ex
  cases rx
  obtain ⟨its,r,ht,hz⟩:=I.tuple hx
  have hlen:its.toArray.size=xs.length:=by rw [ao4]; exact r.length.symm
  refine⟨"tuple",_,PyProof.Rows.slot_tuple_getitem.lookup,ht.typeIs,?_⟩
  refine HT.N9 ht hs pl pu (by rw [hlen]; exact hw.1) (by rw [hlen]; exact hw.2) ⟨.ref a,H,I,rfl,q2 ?_⟩
  unfold eG
  rw [hw.1,hw.2]
  simp
 ·exact F5 pins s σ H x v vl vu lo hi sl Q I rx hs pl pu ⟨a,xs,ex,hx,hw,q1⟩
end
noncomputable def oU (K:PySem.W.Frag) (a b:Addr):It:=
  ⟨fun i H=>∃ xs ys x y,aG K H a xs/\aG K H b ys/\xs[i]? = some x/\ys[i]? = some y,
   fun i H v H'=>∃ T x y,H T=none/\v = .ref T/\H'=upd H T (.tup [x,y])/\∀ xs ys,aG K H a xs->aG K H b ys->xs[i]? = some x/\ys[i]? = some y,
   fun i H=>∃ xs ys,aG K H a xs/\aG K H b ys/\(i=xs.length ∨ (i < xs.length/\i=ys.length))⟩
noncomputable abbrev O2:=oT false false
theorem O3 {P:Program}{w:World}{K:PySem.W.Frag}{elts:List Expr}{k:Nat}{pos:Pos} (a b z TI TO i1 i2:Addr) (d : [z,TI,TO,i1,i2].Nodup) :
  gF P w K (.Tuple elts k pos) (oU K a b) [z,TI,TO,i1,i2] z (O2 z TI TO i1 i2 a b):=tV false false a b z TI TO i1 i2 d
end L2
namespace PP
open PySem L2
inductive PV where
 | non | bl (b:Bool) | int (i:Int) | str (x:Str) | tup (xs:List PV) | lst (xs:List PV)
 | dK (kvs:List (aZ × PV)) | dT (kvs:List (List aZ × PV)) | scr (ns:List Int) | kt (xs:List PV) | exc (c:Str) | fK (kvs:List (aZ × PV)) | fT (kvs:List (List aZ × PV))
mutual
noncomputable def flat:PV->Bool
 | .tup xs=>flats xs
 | .lst _=>false
 | .dK _=>false
 | .dT _=>false
 | .non=>true
 | .bl _=>true
 | .int _=>true
 | .str _=>true
 | .scr _=>true
 | .kt xs=>flats xs
 | .exc _=>true
 | .fK _=>false
 | .fT _=>false
noncomputable def flats:List PV->Bool
 | []=>true
 | x :: r=>flat x && flats r
end
noncomputable def fU (K:PySem.W.Frag) (H:Hp) (a:Addr) (ns:List Int):Prop:=(∃ o,H a=some (.frz o (.lst (ns.map V.int)))) ∨
  ∃ (o:Obj) (its:Array Value) (n:Nat),K.lookup a=some o/\o.cls = .type "list"/\o.dict=none/\o.data = .seq its n/\its.size<=sizeLine/\aF (ns.map V.int) its.toList
noncomputable def iO (K:PySem.W.Frag) (a:Addr) (us:List V):Prop:=∃ (o:Obj) (its:Array Value) (n:Nat),K.lookup a=some o/\o.cls = .type "tuple"/\o.data = .seq its n/\its.size<=sizeLine/\aF us its.toList
mutual
inductive aB (K:PySem.W.Frag) (M:Addr->Prop) (H:Hp):V->PV->Prop
 | non:aB K M H .non .non
 | bl (b:Bool):aB K M H (.bl b) (.bl b)
 | int (i:Int):aB K M H (.int i) (.int i)
 | str (x:Str):aB K M H (.str x) (.str x)
 | tup {a:Addr}{us:List V}{xs:List PV}:H a=some (.tup us)->Reps K M H us xs->aB K M H (.ref a) (.tup xs)
 | lst {a:Addr}{us:List V}{xs:List PV}:M a->H a=some (.lst us)->Reps K M H us xs->aB K M H (.ref a) (.lst xs)
 | dK {a:Addr}{kvs:List (aZ × V)}{ps:List (aZ × PV)}:M a->H a=some (.dK kvs)->kvs.map (·.1)=ps.map (·.1)->Reps K M H (kvs.map (·.2)) (ps.map (·.2))->aB K M H (.ref a) (.dK ps)
 | dT {a:Addr}{kvs:List (List aZ × V)}{ps:List (List aZ × PV)}:M a->H a=some (.dT kvs)->kvs.map (·.1)=ps.map (·.1)->Reps K M H (kvs.map (·.2)) (ps.map (·.2))->aB K M H (.ref a) (.dT ps)
 | scr {a:Addr}{ns:List Int}:fU K H a ns->aB K M H (.ref a) (.scr ns)
 | kt {a:Addr}{us:List V}{xs:List PV}:iO K a us->Reps K M H us xs->aB K M H (.ref a) (.kt xs)
 | exc {a C:Addr}{o:Obj}{c:Str}:H a=some (.frz o (.own a))->PySem.W.nsIn K mainGlobals c=some (some (.ref C))->o.cls = .ref C->aB K M H (.ref a) (.exc c)
 | fK {a:Addr}{o:Obj}{kvs:List (aZ × V)}{ps:List (aZ × PV)}:H a=some (.frz o (.dK kvs))->kvs.map (·.1)=ps.map (·.1)->Reps K M H (kvs.map (·.2)) (ps.map (·.2))->aB K M H (.ref a) (.fK ps)
 | fT {a:Addr}{o:Obj}{kvs:List (List aZ × V)}{ps:List (List aZ × PV)}:H a=some (.frz o (.dT kvs))->kvs.map (·.1)=ps.map (·.1)->Reps K M H (kvs.map (·.2)) (ps.map (·.2))->aB K M H (.ref a) (.fT ps)
inductive Reps (K:PySem.W.Frag) (M:Addr->Prop) (H:Hp):List V->List PV->Prop
 | nil:Reps K M H [] []
 | cons {v:V}{x:PV}{vs:List V}{xs:List PV}:aB K M H v x->Reps K M H vs xs->Reps K M H (v :: vs) (x :: xs)
end
structure eY (M M':Addr->Prop) (H H':Hp):Prop where
 lst:∀ a us,M a->H a=some (.lst us)->M' a/\H' a=some (.lst us)
 dK:∀ a kvs,M a->H a=some (.dK kvs)->M' a/\H' a=some (.dK kvs)
 dT:∀ a kvs,M a->H a=some (.dT kvs)->M' a/\H' a=some (.dT kvs)
 tup:∀ a us,H a=some (.tup us)->H' a=some (.tup us)
 frz:∀ a o u,H a=some (.frz o u)->H' a=some (.frz o u)
theorem fU.keep {K:PySem.W.Frag}{H H':Hp}{a:Addr}{ns:List Int} (k:∀ a o u,H a=some (.frz o u)->H' a=some (.frz o u)) (h:fU K H a ns):fU K H' a ns:=
 h.elim (fun ⟨o,e⟩=>.inl ⟨o,k _ _ _ e⟩) .inr
mutual
theorem aB.keep {K:PySem.W.Frag}{M M':Addr->Prop}{H H':Hp} (k:eY M M' H H'):∀ {v:V}{x:PV},aB K M H v x->aB K M' H' v x
 | _,_,.non=>.non
 | _,_,.bl b=>.bl b
 | _,_,.int i=>.int i
 | _,_,.str x=>.str x
 | _,_,.tup h r=>.tup (k.tup _ _ h) (Reps.keep k r)
 | _,_,.lst m h r=>.lst (k.lst _ _ m h).1 (k.lst _ _ m h).2 (Reps.keep k r)
 | _,_,.dK m h e r=>.dK (k.dK _ _ m h).1 (k.dK _ _ m h).2 e (Reps.keep k r)
 | _,_,.dT m h e r=>.dT (k.dT _ _ m h).1 (k.dT _ _ m h).2 e (Reps.keep k r)
 | _,_,.scr h=>.scr (h.keep k.frz)
 | _,_,.kt h r=>.kt h (Reps.keep k r)
 | _,_,.exc h e c=>.exc (k.frz _ _ _ h) e c
 | _,_,.fK h e r=>.fK (k.frz _ _ _ h) e (Reps.keep k r)
 | _,_,.fT h e r=>.fT (k.frz _ _ _ h) e (Reps.keep k r)
theorem Reps.keep {K:PySem.W.Frag}{M M':Addr->Prop}{H H':Hp} (k:eY M M' H H'):∀ {vs:List V}{xs:List PV},Reps K M H vs xs->Reps K M' H' vs xs
 | _,_,.nil=>.nil
 | _,_,.cons r t=>.cons (aB.keep k r) (Reps.keep k t)
end
mutual
theorem aB.flat {K:PySem.W.Frag}{M M':Addr->Prop}{H:Hp}{v:V}{x:PV} (f:flat x=true) (r:aB K M H v x):aB K M' H v x:=by
 cases r with
 | non=>exact .non
 | bl b=>exact .bl b
 | int i=>exact .int i
 | str x=>exact .str x
 | tup h r=>exact .tup h (Reps.flat (by unfold PP.flat at f; exact f) r)
 | lst m h r=>unfold PP.flat at f; cases f
 | dK m h e r=>unfold PP.flat at f; cases f
 | dT m h e r=>unfold PP.flat at f; cases f
 | scr h=>exact .scr h
 | kt h r=>exact .kt h (Reps.flat (by unfold PP.flat at f; exact f) r)
 | exc h e c=>exact .exc h e c
 | fK h e r=>unfold PP.flat at f; cases f
 | fT h e r=>unfold PP.flat at f; cases f
theorem Reps.flat {K:PySem.W.Frag}{M M':Addr->Prop}{H:Hp}{vs:List V}{xs:List PV} (f:flats xs=true) (r:Reps K M H vs xs):Reps K M' H vs xs:=by
 cases r with
 | nil=>exact .nil
 | cons r t=>
  unfold PP.flats at f
  rw [aw7] at f
  exact .cons (aB.flat f.1 r) (Reps.flat f.2 t)
end
theorem eY.same {M M':Addr->Prop}{H H':Hp} (s:a9 H H') (m:∀ a,M a->M' a):eY M M' H H':=
 ⟨fun a _ h e=>⟨m a h,s _ _ e⟩,fun a _ h e=>⟨m a h,s _ _ e⟩,fun a _ h e=>⟨m a h,s _ _ e⟩,fun _ _ e=>s _ _ e,fun _ _ _ e=>s _ _ e⟩
theorem aB.same {K:PySem.W.Frag}{M M':Addr->Prop}{H H':Hp}{v:V}{x:PV} (r:aB K M H v x) (s:a9 H H') (m:∀ a,M a->M' a):aB K M' H' v x:=r.keep (.same s m)
theorem Reps.same {K:PySem.W.Frag}{M M':Addr->Prop}{H H':Hp}{v:List V}{x:List PV} (r:Reps K M H v x) (s:a9 H H') (m:∀ a,M a->M' a):Reps K M' H' v x:=r.keep (.same s m)
noncomputable def eI:HO->Bool
 | .lst _=>true
 | .dK _=>true
 | .dT _=>true
 | _=>false
theorem eY.upd {M M':Addr->Prop}{H:Hp}{a:Addr}{o o':HO} (h:H a=some o') (mu:eI o'=true) (m:∀ b,M b->b ≠ a/\M' b):eY M M' H (upd H a o):=
 ⟨fun b _ hb e=>⟨(m b hb).2,by rw [aQ (m b hb).1]; exact e⟩,fun b _ hb e=>⟨(m b hb).2,by rw [aQ (m b hb).1]; exact e⟩,fun b _ hb e=>⟨(m b hb).2,by rw [aQ (m b hb).1]; exact e⟩,
  fun b _ e=>by rw [aQ (fun z=>by rw [z,h] at e; cases e; cases mu)]; exact e,
  fun b _ _ e=>by rw [aQ (fun z=>by rw [z,h] at e; cases e; cases mu)]; exact e⟩
theorem Reps.length {K:PySem.W.Frag}{M:Addr->Prop}{H:Hp}:∀ {vs:List V}{xs:List PV},Reps K M H vs xs->vs.length=xs.length
 | _,_,.nil=>rfl
 | _,_,.cons _ t=>congrArg (· + 1) t.length
theorem Reps.get {K:PySem.W.Frag}{M:Addr->Prop}{H:Hp}:∀ {vs:List V}{xs:List PV}{i:Nat}{v:V},Reps K M H vs xs->vs[i]? = some v->∃ x,xs[i]? = some x/\aB K M H v x
 | _,_,_,_,.nil,e=>by simp at e
 | _,_,0,_,.cons r _,e=>by simp at e; subst e; exact⟨_,rfl,r⟩
 | _,_,i+1,v,.cons _ t,e=>by
  rw [List.getElem?_cons_succ] at e
  obtain ⟨x,h1,h2⟩:=t.get e
  exact⟨x,by rw [List.getElem?_cons_succ]; exact h1,h2⟩
theorem Reps.at {K:PySem.W.Frag}{M:Addr->Prop}{H:Hp}:∀ {vs:List V}{xs:List PV}{i:Nat}{x:PV},Reps K M H vs xs->xs[i]? = some x->∃ v,vs[i]? = some v/\aB K M H v x
 | _,_,_,_,.nil,e=>by simp at e
 | _,_,0,_,.cons r _,e=>by simp at e; subst e; exact⟨_,rfl,r⟩
 | _,_,i+1,v,.cons _ t,e=>by
  rw [List.getElem?_cons_succ] at e
  obtain ⟨x,h1,h2⟩:=t.at e
  exact⟨x,by rw [List.getElem?_cons_succ]; exact h1,h2⟩
theorem Reps.append {K:PySem.W.Frag}{M:Addr->Prop}{H:Hp}:∀ {vs:List V}{xs:List PV}{us:List V}{ys:List PV},Reps K M H vs xs->Reps K M H us ys->Reps K M H (vs ++ us) (xs ++ ys)
 | _,_,_,_,.nil,s=>s
 | _,_,_,_,.cons r t,s=>.cons r (t.append s)
theorem Reps.take {K:PySem.W.Frag}{M:Addr->Prop}{H:Hp}:∀ (n:Nat) {vs:List V}{xs:List PV},Reps K M H vs xs->Reps K M H (vs.take n) (xs.take n)
 | 0,_,_,_=>by simp; exact .nil
 | _+1,_,_,.nil=>.nil
 | n+1,_,_,.cons r t=>.cons r (Reps.take n t)
theorem Reps.drop {K:PySem.W.Frag}{M:Addr->Prop}{H:Hp}:∀ (n:Nat) {vs:List V}{xs:List PV},Reps K M H vs xs->Reps K M H (vs.drop n) (xs.drop n)
 | 0,_,_,r=>r
 | _+1,_,_,.nil=>.nil
 | n+1,_,_,.cons _ t=>Reps.drop n t
theorem Reps.eraseIdx {K:PySem.W.Frag}{M:Addr->Prop}{H:Hp}:∀ (n:Nat) {vs:List V}{xs:List PV},Reps K M H vs xs->Reps K M H (vs.eraseIdx n) (xs.eraseIdx n)
 | _,_,_,.nil=>.nil
 | 0,_,_,.cons _ t=>t
 | n+1,_,_,.cons r t=>.cons r (Reps.eraseIdx n t)
noncomputable abbrev intz (ns:List Int):List PV:=ns.map PV.int
theorem Reps.intz {K:PySem.W.Frag}{M:Addr->Prop}{H:Hp}:∀ (ns:List Int),Reps K M H (ns.map V.int) (intz ns)
 | []=>.nil
 | n :: r=>.cons (.int n) (Reps.intz r)
theorem Reps.ofInts {K:PySem.W.Frag}{M:Addr->Prop}{H:Hp}:∀ {ns:List Int}{us:List V},Reps K M H us (PP.intz ns)->us=ns.map V.int
 | [],_,.nil=>rfl
 | n :: r,_,.cons q t=>by
  cases q
  rw [Reps.ofInts t]; rfl
theorem bN:∀ (ns:List Int),flats (intz ns)=true
 | []=>rfl
 | n :: r=>by show (flat (.int n) && flats (intz r))=true; rw [bN r]; rfl
inductive Tg | rd | sh | nw | fr
inductive Slot | sh (g:Bool) (x:PV) | own (x:PV)
noncomputable def Slot.val:Slot->PV
 | .sh _ x=>x
 | .own x=>x
noncomputable def Slot.tag:Slot->Tg
 | .sh true _=>.nw
 | .sh false _=>.sh
 | .own _=>.rd
noncomputable abbrev aX:=List (Option Slot)
noncomputable def Ms (H0:Hp) (W:Addr->Prop):Bool->Addr->Prop
 | false,a=>¬ W a
 | true,a=>¬ W a/\H0 a=none
noncomputable def Mg (H0:Hp) (W:Addr->Prop) (Hs:Hp):Tg->Addr->Prop
 | .rd,_=>True
 | .sh,a=>¬ W a
 | .nw,a=>¬ W a/\H0 a=none
 | .fr,a=>Hs a=none
noncomputable def eJ (K:PySem.W.Frag) (M:Addr->Prop) (H:Hp) (a:Addr):PV->Prop
 | .lst xs=>∃ us,H a=some (.lst us)/\Reps K M H us xs
 | .dK ps=>∃ kvs,H a=some (.dK kvs)/\kvs.map (·.1)=ps.map (·.1)/\Reps K M H (kvs.map (·.2)) (ps.map (·.2))
 | .dT ps=>∃ kvs,H a=some (.dT kvs)/\kvs.map (·.1)=ps.map (·.1)/\Reps K M H (kvs.map (·.2)) (ps.map (·.2))
 | _=>False
noncomputable def tW (K:PySem.W.Frag) (H0:Hp) (W:Addr->Prop) (H:Hp) (v:V):Slot->Prop
 | .sh g x=>aB K (Ms H0 W g) H v x
 | .own x=>∃ a,v = .ref a/\W a/\eJ K (Ms H0 W true) H a x
structure PX (K:PySem.W.Frag) (H0:Hp) (W:Addr->Prop) (σ:St) (ρ:aX) (H:Hp):Prop where
 len:ρ.length=σ.length
 same:a9 H0 H
 wm:∀ a,W a->H0 a=none/\∃ o,H a=some o/\eI o=true
 sl:∀ (i:Nat) (m:Slot),ρ[i]? = some (some m)->∃ v,σ[i]? = some (some v)/\tW K H0 W H v m
 dis:∀ (i j:Nat) (x y:PV) (a:Addr),ρ[i]? = some (some (.own x))->ρ[j]? = some (some (.own y))->σ[i]? = some (some (.ref a))->σ[j]? = some (some (.ref a))->i=j
theorem eJ.keep {K:PySem.W.Frag}{M M':Addr->Prop}{H H':Hp}{a:Addr} (k:eY M M' H H') (ha:∀ o,H a=some o->H' a=some o):∀ {x:PV},eJ K M H a x->eJ K M' H' a x
 | .lst _,⟨us,e,r⟩=>⟨us,ha _ e,r.keep k⟩
 | .dK _,⟨us,e,q,r⟩=>⟨us,ha _ e,q,r.keep k⟩
 | .dT _,⟨us,e,q,r⟩=>⟨us,ha _ e,q,r.keep k⟩
theorem eJ.at {K:PySem.W.Frag}{M:Addr->Prop}{H:Hp}{a:Addr}:∀ {x:PV},eJ K M H a x->∃ o,H a=some o/\eI o=true
 | .lst _,⟨us,e,r⟩=>⟨_,e,rfl⟩
 | .dK _,⟨us,e,q,r⟩=>⟨_,e,rfl⟩
 | .dT _,⟨us,e,q,r⟩=>⟨_,e,rfl⟩
theorem eJ.rep {K:PySem.W.Frag}{M M':Addr->Prop}{H:Hp}{a:Addr} (m:∀ b,M b->M' b) (ha:M' a):∀ {x:PV},eJ K M H a x->aB K M' H (.ref a) x
 | .lst _,⟨us,e,r⟩=>.lst ha e (r.same (a9.refl _) m)
 | .dK _,⟨us,e,q,r⟩=>.dK ha e q (r.same (a9.refl _) m)
 | .dT _,⟨us,e,q,r⟩=>.dT ha e q (r.same (a9.refl _) m)
section
variable {K : PySem.W.Frag} {H0 : Hp} {W W' : Addr → Prop} {σ : St} {ρ : aX} {H H' : Hp}
theorem PX.mono (p:PX K H0 W σ ρ H) (s:a9 H H'):PX K H0 W σ ρ H':=by
 refine⟨p.len,p.same.trans s,fun a h=>⟨(p.wm a h).1,let ⟨o,e,m⟩:=(p.wm a h).2; ⟨o,s _ _ e,m⟩⟩,fun i m h=>?_,p.dis⟩
 obtain ⟨v,e,r⟩:=p.sl i m h
 refine⟨v,e,?_⟩
 cases m with
 | sh g x=>exact aB.same r s fun _ z=>z
 | own x=>
  obtain ⟨a,e1,e2,r⟩:=r
  exact⟨a,e1,e2,r.keep (.same s fun _ z=>z) fun _ z=>s _ _ z⟩
theorem PX.new (p:PX K H0 W σ ρ H) {a:Addr} (h:H a=none) : ¬ W a/\H0 a=none:=
 ⟨fun z=>(by obtain ⟨_,o,e,_⟩:=p.wm a z; rw [h] at e; cases e),p.same.free h⟩
theorem Mg.back {g:Tg}{H1:Hp} (s:a9 H H1) {a:Addr} (h:Mg H0 W H1 g a):Mg H0 W H g a:=by
 cases g with
 | fr=>exact s.free h
 | rd=>exact h
 | sh=>exact h
 | nw=>exact h
end
noncomputable abbrev PK:=PV->Tg->Prop
noncomputable abbrev aA:=aX->PK->Prop
noncomputable abbrev bS:=aX->(Bool->Prop)->Prop
noncomputable abbrev bJ:=aX->(List (PV × Tg)->Prop)->Prop
inductive eL (K:PySem.W.Frag) (H0:Hp) (W:Addr->Prop) (Hs H:Hp):List V->List (PV × Tg)->Prop
 | nil:eL K H0 W Hs H [] []
 | cons {v:V}{x:PV}{g:Tg}{vs:List V}{xs:List (PV × Tg)}:aB K (Mg H0 W Hs g) H v x->eL K H0 W Hs H vs xs->eL K H0 W Hs H (v :: vs) ((x,g) :: xs)
noncomputable def lH (K:PySem.W.Frag) (H0:Hp) (W:Addr->Prop) (H:Hp) (Q:PK) (Q':VK):Prop:=∀ v H' x g,a9 H H'->aB K (Mg H0 W H g) H' v x->Q x g->Q' v H'
noncomputable def LE (X:Cx) (t:aA):TE:=fun σ H Q'=>∃ (W:Addr->Prop) (ρ:aX) (Q:PK),PX X.K X.H₀ W σ ρ H/\t ρ Q/\lH X.K X.H₀ W H Q Q'
noncomputable def LT (X:Cx) (t:bS):TT:=fun σ H Q'=>∃ (W:Addr->Prop) (ρ:aX) (Q:Bool->Prop),PX X.K X.H₀ W σ ρ H/\t ρ Q/\∀ b H',a9 H H'->Q b->Q' b H'
noncomputable def LA (X:Cx) (t:bJ):TA:=fun σ H Q'=>∃ (W:Addr->Prop) (ρ:aX) (Q:List (PV × Tg)->Prop),PX X.K X.H₀ W σ ρ H/\t ρ Q/\∀ vs H' xs,a9 H H'->eL X.K X.H₀ W H H' vs xs->Q xs->Q' vs H'
theorem eL.same {K:PySem.W.Frag}{H0:Hp}{W:Addr->Prop}{Hs Hs' H H':Hp} (s:a9 H H') (b:a9 Hs' Hs):∀ {vs:List V}{xs:List (PV × Tg)},eL K H0 W Hs H vs xs->eL K H0 W Hs' H' vs xs
 | _,_,.nil=>.nil
 | _,_,.cons r t=>.cons (r.same s fun _ z=>Mg.back b z) (t.same s b)
theorem eL.any {K:PySem.W.Frag}{H0:Hp}{W:Addr->Prop}{Hs H:Hp}:∀ {vs:List V}{xs:List (PV × Tg)},eL K H0 W Hs H vs xs->Reps K (fun _=>True) H vs (xs.map (·.1))
 | _,_,.nil=>.nil
 | _,_,.cons r t=>.cons (r.same (a9.refl _) fun _ _=>trivial) t.any
noncomputable def Nw:Tg->PV->Prop
 | .fr,_=>True
 | .nw,_=>True
 | _,x=>flat x=true
section
variable {K : PySem.W.Frag} {H0 Hs H : Hp} {W : Addr → Prop} {σ : St} {ρ : aX}
theorem Nw.rep {g:Tg}{x:PV}{v:V} (px:PX K H0 W σ ρ Hs) (n:Nw g x) (r:aB K (Mg H0 W Hs g) H v x):aB K (Ms H0 W true) H v x:=by
 cases g with
 | fr=>exact r.same (a9.refl _) fun a z=>px.new z
 | nw=>exact r.same (a9.refl _) fun a z=>z
 | sh=>exact r.flat n
 | rd=>exact r.flat n
theorem tX {v:V}{m:Slot} (r:tW K H0 W H v m):aB K (Mg H0 W Hs m.tag) H v m.val:=by
 cases m with
 | sh g x=>
  cases g with
  | true=>exact aB.same r (a9.refl _) fun _ z=>z
  | false=>exact aB.same r (a9.refl _) fun _ z=>z
 | own x=>
  obtain ⟨a,rfl,_,r⟩:=r
  exact r.rep (fun _ _=>trivial) trivial
end
section
variable {X : Cx} {σ : St} {H : Hp} {Q' : VK} {ta tb : aA}
noncomputable def a6 (i:Nat):aA:=fun ρ Q=>∃ m,ρ[i]? = some (some m)/\Q m.val m.tag
noncomputable def qC (x:PV):aA:=fun _ Q=>Q x .fr
theorem O4 {i:Nat} (h:LE X (a6 i) σ H Q'):kQ i σ H Q':=by
 obtain ⟨W,ρ,Q,px,⟨m,e,q⟩,k⟩:=h
 obtain ⟨v,ev,r⟩:=px.sl i m e
 exact⟨v,ev,k v H _ _ (a9.refl _) (tX r) q⟩
theorem jM {x:PV}{v:V} (hr:∀ M,aB X.K M H v x) (h:LE X (qC x) σ H Q'):tC v σ H Q':=by
 obtain ⟨W,ρ,Q,px,q,k⟩:=h
 exact k v H _ _ (a9.refl _) (hr _) q
noncomputable def cO (X:Cx) (R:PV->Tg->PV->Tg->PK->Prop) (r:R2):Prop:=∀ (W:Addr->Prop) (Hs H:Hp) (u v:V) (x y:PV) (g g':Tg) (Q:PK) (Q':VK),a9 Hs H->
 (∀ a,Hs a=none->¬ W a/\X.H₀ a=none)->aB X.K (Mg X.H₀ W Hs g) H u x->aB X.K (Mg X.H₀ W Hs g') H v y->R x g y g' Q->(∀ w H' z gz,a9 H H'->aB X.K (Mg X.H₀ W Hs gz) H' w z->Q z gz->Q' w H')->r u v H Q'
noncomputable def q2 (R:PV->Tg->PV->Tg->PK->Prop) (ta tb:aA):aA:=fun ρ Q=>ta ρ fun x g=>tb ρ fun y g'=>R x g y g' Q
theorem lI {R:PV->Tg->PV->Tg->PK->Prop}{r:R2} (c:cO X R r) (h:LE X (q2 R ta tb) σ H Q'):jH r (LE X ta) (LE X tb) σ H Q':=by
 obtain ⟨W,ρ,Q,px,q,k⟩:=h
 refine⟨W,ρ,_,px,q,fun u H1 x g s1 r1 q1=>⟨W,ρ,_,px.mono s1,q1,fun v H2 y g' s2 r2 q2=>?_⟩⟩
 exact c W H H2 u v x y g g' Q Q' (s1.trans s2) (fun a z=>px.new z) (r1.same s2 fun _ z=>z) (r2.same (a9.refl _) fun _ z=>Mg.back s1 z) q2 fun w H' z gz s3 r3 q3=>k w H' z gz ((s1.trans s2).trans s3) r3 q3
noncomputable def RI (C:Int->Int->Prop) (f:Int->Int->PV):PV->Tg->PV->Tg->PK->Prop:=fun x _ y _ Q=>∃ i j,x = .int i/\y = .int j/\C i j/\Q (f i j) .fr
noncomputable def dO (f:Int->Int->PV):PV->Tg->PV->Tg->PK->Prop:=fun x _ y _ Q=>∃ i j,x = .int i/\y = .int j/\Q (f i j) .fr
theorem lJ {C:Int->Int->Prop}{f:Int->Int->Int}:cO X (RI C fun i j=>.int (f i j)) (rI C fun i j=>.int (f i j)):=by
 rintro W Hs H u v x y g g' Q Q' s n r1 r2 ⟨i,j,rfl,rfl,c,q⟩ k
 cases r1; cases r2
 exact⟨i,j,rfl,rfl,c,k _ _ _ _ (a9.refl _) (.int _) q⟩
theorem tY {f:Int->Int->Int}:cO X (dO fun i j=>.int (f i j)) (eV fun i j=>.int (f i j)):=by
 rintro W Hs H u v x y g g' Q Q' s n r1 r2 ⟨i,j,rfl,rfl,q⟩ k
 cases r1; cases r2
 exact⟨i,j,rfl,rfl,k _ _ _ _ (a9.refl _) (.int _) q⟩
theorem lK {f:Int->Int->Bool}:cO X (dO fun i j=>.bl (f i j)) (eV fun i j=>.bl (f i j)):=by
 rintro W Hs H u v x y g g' Q Q' s n r1 r2 ⟨i,j,rfl,rfl,q⟩ k
 cases r1; cases r2
 exact⟨i,j,rfl,rfl,k _ _ _ _ (a9.refl _) (.bl _) q⟩
noncomputable def oV (neg:Bool):PV->Tg->PV->Tg->PK->Prop:=fun x _ y _ Q=>(∃ i j,x = .int i/\y = .int j/\Q (.bl (if neg=true then !decide (i=j) else decide (i=j))) .fr) ∨ (∃ i j,x = .bl i/\y = .bl j/\Q (.bl (if neg=true then !decide (i=j) else decide (i=j))) .fr)
theorem O5 (i j:Int):decide (V.int i=V.int j)=decide (i=j):=by
 rw [az8,ar5,ar5]; exact⟨fun z=>V.int.inj z,fun z=>congrArg V.int z⟩
theorem O6 (i j:Bool):decide (V.bl i=V.bl j)=decide (i=j):=by
 rw [az8,ar5,ar5]; exact⟨fun z=>V.bl.inj z,fun z=>congrArg V.bl z⟩
theorem O7:cO X (oV false) sI:=by
 rintro W Hs H u v x y g g' Q Q' s n r1 r2 (⟨i,j,rfl,rfl,q⟩ | ⟨i,j,rfl,rfl,q⟩) k
 ·cases r1; cases r2
  exact⟨rfl,by rw [O5]; exact k _ _ _ _ (a9.refl _) (.bl _) q⟩
 ·cases r1; cases r2
  exact⟨rfl,by rw [O6]; exact k _ _ _ _ (a9.refl _) (.bl _) q⟩
noncomputable def aT (t:aA):bS:=fun ρ Q=>t ρ fun x _=>∃ b,x = .bl b/\Q b
theorem tZ {t:aA}{Q':Bool->Hp->Prop} (h:LT X (aT t) σ H Q'):LE X t σ H fun x H'=>∃ k,x = .bl k/\Q' k H':=by
 obtain ⟨W,ρ,Q,px,q,k⟩:=h
 refine⟨W,ρ,_,px,q,?_⟩
 rintro v H1 x g s r ⟨b,rfl,q⟩
 cases r
 exact⟨b,rfl,k _ _ s q⟩
noncomputable def fV (t u:bS):bS:=fun ρ Q=>t ρ fun c=>if c=true then Q true else u ρ Q
noncomputable def iP (t:bS):bS:=fun ρ Q=>t ρ fun c=>Q (!c)
variable {t u : bS} {Qb : Bool → Hp → Prop}
theorem O8 (h:LT X (fV t u) σ H Qb):rS (LT X t) (LT X u) σ H Qb:=by
 obtain ⟨W,ρ,Q,px,q,k⟩:=h
 refine⟨W,ρ,_,px,q,fun b H1 s1 q1=>?_⟩
 cases b with
 | false=>exact aS ⟨W,ρ,Q,px.mono s1,by simpa using q1,fun b H2 s2 q2=>k _ _ (s1.trans s2) q2⟩
 | true=>exact bI (k _ _ s1 (by simpa using q1))
theorem O9 (h:LT X (iP t) σ H Qb):rT (LT X t) σ H Qb:=by
 obtain ⟨W,ρ,Q,px,q,k⟩:=h
 exact⟨W,ρ,_,px,q,fun b H1 s1 q1=>k _ _ s1 q1⟩
noncomputable def oW (ta tb:aA):aA:=fun ρ Q=>ta ρ fun x _=>∃ c,x = .bl c/\if c=true then tb ρ Q else Q (.bl false) .fr
noncomputable def oX (ta:aA):aA:=fun ρ Q=>ta ρ fun x _=>∃ c,x = .bl c/\Q (.bl (!c)) .fr
theorem lH.back {K:PySem.W.Frag}{H0:Hp}{W:Addr->Prop}{H H1:Hp}{Q:PK} (k:lH K H0 W H Q Q') (s:a9 H H1):lH K H0 W H1 Q Q':=fun v H' x g s' r q=>k v H' x g (s.trans s') (r.same (a9.refl _) fun _ z=>Mg.back s z) q
theorem P0 (h:LE X (oW ta tb) σ H Q'):rV (LE X ta) (LE X tb) σ H Q':=by
 obtain ⟨W,ρ,Q,px,q,k⟩:=h
 refine⟨W,ρ,_,px,q,?_⟩
 rintro v H1 x g s1 r ⟨c,rfl,q⟩
 cases r
 refine⟨c,rfl,?_⟩
 cases c with
 | true=>exact bI ⟨W,ρ,Q,px.mono s1,by simpa using q,k.back s1⟩
 | false=>exact aS (k _ _ _ _ s1 (.bl _) (by simpa using q))
theorem P3 (h:LE X (oX ta) σ H Q'):rW (LE X ta) σ H Q':=by
 obtain ⟨W,ρ,Q,px,q,k⟩:=h
 refine⟨W,ρ,_,px,q,?_⟩
 rintro v H1 x g s1 r ⟨c,rfl,q⟩
 cases r
 exact⟨c,rfl,k _ _ _ _ s1 (.bl _) q⟩
noncomputable def aC:bJ:=fun _ Q=>Q []
noncomputable def a8 (te:aA) (tr:bJ):bJ:=fun ρ Q=>te ρ fun x g=>tr ρ fun xs=>Q ((x,g) :: xs)
variable {Qa : List V → Hp → Prop} {tr : bJ}
theorem P4 (h:LA X aC σ H Qa):jJ σ H Qa:=by
 obtain ⟨W,ρ,Q,px,q,k⟩:=h
 exact k _ _ _ (a9.refl _) .nil q
theorem P5 (h:LA X (a8 ta tr) σ H Qa):iL (LE X ta) (LA X tr) σ H Qa:=by
 obtain ⟨W,ρ,Q,px,q,k⟩:=h
 refine⟨W,ρ,_,px,q,fun v H1 x g s1 r1 q1=>⟨W,ρ,_,px.mono s1,q1,fun vs H2 xs s2 r2 q2=>?_⟩⟩
 exact k _ _ _ (s1.trans s2) (.cons (r1.same s2 fun _ z=>z) (r2.same (a9.refl _) s1)) q2
noncomputable def cU (t:bJ):aA:=fun ρ Q=>t ρ fun xs=>xs.length<=1000/\flats (xs.map (·.1))=true/\Q (.tup (xs.map (·.1))) .fr
noncomputable def fW (t:bJ):aA:=fun ρ Q=>t ρ fun xs=>xs.length<=1000/\flats (xs.map (·.1))=true/\Q (.lst (xs.map (·.1))) .fr
theorem eL.length {K:PySem.W.Frag}{H0:Hp}{W:Addr->Prop}{Hs H:Hp}:∀ {vs:List V}{xs:List (PV × Tg)},eL K H0 W Hs H vs xs->vs.length=xs.length
 | _,_,.nil=>rfl
 | _,_,.cons _ t=>congrArg (· + 1) t.length
theorem oY {n:Nat} (h:n<=1000):n<=sizeLine:=ax0 (L4 h)
theorem P6 (h:LE X (cU tr) σ H Q'):sK (LA X tr) σ H Q':=by
 obtain ⟨W,ρ,Q,px,q,k⟩:=h
 refine⟨W,ρ,_,px,q,?_⟩
 rintro vs H1 xs s1 r ⟨hl,n,q⟩
 refine⟨by rw [r.length]; exact oY hl,fun p hp=>k _ _ _ .fr (s1.trans (b8 hp _)) (.tup bL ?_) q⟩
 exact (r.any.flat n).same (b8 hp _) fun _ z=>z
theorem P7 (h:LE X (fW tr) σ H Q'):sL (LA X tr) σ H Q':=by
 obtain ⟨W,ρ,Q,px,q,k⟩:=h
 refine⟨W,ρ,_,px,q,?_⟩
 rintro vs H1 xs s1 r ⟨hl,n,q⟩
 refine⟨by rw [r.length]; exact oY hl,fun p hp=>k _ _ _ .fr (s1.trans (b8 hp _)) (.lst (s1.free hp) bL ?_) q⟩
 exact (r.any.flat n).same (b8 hp _) fun _ z=>z
noncomputable def cV (X:Cx) (R:List PV->(PV->Prop)->Prop) (r:List V->Hp->VK->Prop):Prop:=∀ (H:Hp) (vs:List V) (xs:List PV) (Q:PV->Prop) (Q':VK),Reps X.K (fun _=>True) H vs xs->R xs Q->
 (∀ w H' z,a9 H H'->aB X.K (fun a=>H a=none) H' w z->Q z->Q' w H')->r vs H Q'
noncomputable def aK (R:List PV->(PV->Prop)->Prop) (t:bJ):aA:=fun ρ Q=>t ρ fun xs=>R (xs.map (·.1)) fun z=>Q z .fr
theorem u0 {R:List PV->(PV->Prop)->Prop}{r:List V->Hp->VK->Prop} (c:cV X R r) (h:LE X (aK R tr) σ H Q'):oB r (LA X tr) σ H Q':=by
 obtain ⟨W,ρ,Q,px,q,k⟩:=h
 refine⟨W,ρ,_,px,q,fun vs H1 xs s1 r1 q1=>c H1 vs _ _ Q' r1.any q1 fun w H' z s2 r2 q2=>k w H' z .fr (s1.trans s2) (r2.same (a9.refl _) fun _ z=>s1.free z) q2⟩
end
structure gI where
 nx:aX->Prop
 rt:PV->Prop
 bk:aX->Prop:=fun _=>False
 ct:aX->Prop:=fun _=>False
noncomputable abbrev aL:=gI->aX->Prop
noncomputable def Ev (W:Addr->Prop) (H:Hp) (W':Addr->Prop) (H':Hp):Prop:=∀ b o,H b=some o->¬ W b->H' b=some o/\¬ W' b
theorem Ev.trans {W W1 W2:Addr->Prop}{H H1 H2:Hp} (a:Ev W H W1 H1) (b:Ev W1 H1 W2 H2):Ev W H W2 H2:=fun c o h n=>let ⟨h1,n1⟩:=a c o h n; b c o h1 n1
theorem Ev.same {W:Addr->Prop}{H H':Hp} (s:a9 H H'):Ev W H W H':=fun c o h n=>⟨s _ _ h,n⟩
theorem Ev.refl (W:Addr->Prop) (H:Hp):Ev W H W H:=Ev.same (a9.refl _)
structure jN (X:Cx) (W:Addr->Prop) (H:Hp) (D':gI) (D:cM):Prop where
 nx:∀ W' σ' H' ρ',Ev W H W' H'->PX X.K X.H₀ W' σ' ρ' H'->D'.nx ρ'->D.nx σ' H'
 rt:∀ v H' x,a9 X.H₀ H'->aB X.K (fun a=>X.H₀ a=none) H' v x->D'.rt x->D.rt v H'
 bk:∀ W' σ' H' ρ',Ev W H W' H'->PX X.K X.H₀ W' σ' ρ' H'->D'.bk ρ'->D.bk σ' H'
 ct:∀ W' σ' H' ρ',Ev W H W' H'->PX X.K X.H₀ W' σ' ρ' H'->D'.ct ρ'->D.ct σ' H'
theorem jN.step {X:Cx}{W W1:Addr->Prop}{H H1:Hp}{D':gI}{D:cM} (k:jN X W H D' D) (e:Ev W H W1 H1):jN X W1 H1 D' D:=
 ⟨fun W' σ' H' ρ' e'=>k.nx W' σ' H' ρ' (e.trans e'),k.rt,fun W' σ' H' ρ' e'=>k.bk W' σ' H' ρ' (e.trans e'),fun W' σ' H' ρ' e'=>k.ct W' σ' H' ρ' (e.trans e')⟩
noncomputable def LS (X:Cx) (t:aL):TS:=fun D σ H=>∃ (W:Addr->Prop) (ρ:aX) (D':gI),PX X.K X.H₀ W σ ρ H/\t D' ρ/\jN X W H D' D
theorem cW {α:Type}{l:List α}{i j:Nat}{a b:α} (h:(l.set i a)[j]? = some b):(j=i/\i < l.length/\b=a) ∨ (j ≠ i/\l[j]? = some b):=by
 by_cases e:j=i
 ·subst e
  have hl:j < (l.set j a).length:=(aq7.mp h).1
  rw [au3] at hl
  rw [au0 hl] at h
  exact .inl ⟨rfl,hl,(ar1 h).symm⟩
 ·rw [aq2 (Ne.symm e)] at h
  exact .inr ⟨e,h⟩
section
variable {K : PySem.W.Frag} {H0 : Hp} {W W' : Addr → Prop} {σ : St} {ρ : aX} {H H' Hs : Hp}
theorem PX.setSh {i:Nat}{v:V}{g:Bool}{x:PV} (p:PX K H0 W σ ρ H) (r:aB K (Ms H0 W g) H v x):PX K H0 W (σ.set i (some v)) (ρ.set i (some (.sh g x))) H:=by
 refine⟨by rw [au3,au3]; exact p.len,p.same,p.wm,fun j m h=>?_,fun j k y z a h1 h2 h3 h4=>?_⟩
 ·rcases cW h with ⟨rfl,hl,e⟩ | ⟨hne,h⟩
  ·cases e
   rw [p.len] at hl
   exact⟨v,au0 hl,r⟩
  ·obtain ⟨u,e,q⟩:=p.sl j m h
   exact⟨u,by rw [aq2 (Ne.symm hne)]; exact e,q⟩
 ·rcases cW h1 with ⟨_,_,e⟩ | ⟨n1,h1⟩
  ·cases e
  ·rcases cW h2 with ⟨_,_,e⟩ | ⟨n2,h2⟩
   ·cases e
   ·rw [aq2 (Ne.symm n1)] at h3
    rw [aq2 (Ne.symm n2)] at h4
    exact p.dis j k y z a h1 h2 h3 h4
theorem PX.setNone {i:Nat}{o:Option V} (p:PX K H0 W σ ρ H):PX K H0 W (σ.set i o) (ρ.set i none) H:=by
 refine⟨by rw [au3,au3]; exact p.len,p.same,p.wm,fun j m h=>?_,fun j k y z a h1 h2 h3 h4=>?_⟩
 ·rcases cW h with ⟨rfl,hl,e⟩ | ⟨hne,h⟩
  ·cases e
  ·obtain ⟨u,e,q⟩:=p.sl j m h
   exact⟨u,by rw [aq2 (Ne.symm hne)]; exact e,q⟩
 ·rcases cW h1 with ⟨_,_,e⟩ | ⟨n1,h1⟩
  ·cases e
  ·rcases cW h2 with ⟨_,_,e⟩ | ⟨n2,h2⟩
   ·cases e
   ·rw [aq2 (Ne.symm n1)] at h3
    rw [aq2 (Ne.symm n2)] at h4
    exact p.dis j k y z a h1 h2 h3 h4
noncomputable def iQ (W:Addr->Prop) (a:Addr):Addr->Prop:=fun b=>W b ∨ b=a
theorem oZ {g:Bool}{a b:Addr} (n:b ≠ a) (h:Ms H0 W g b):Ms H0 (iQ W a) g b:=by
 cases g with
 | true=>exact⟨fun z=>z.elim h.1 n,h.2⟩
 | false=>exact fun z=>z.elim h n
theorem PX.setOwn {i:Nat}{a:Addr}{x:PV} (p:PX K H0 W σ ρ Hs) (s:a9 Hs H) (ha:Hs a=none) (r:eJ K (Ms H0 (iQ W a) true) H a x):PX K H0 (iQ W a) (σ.set i (some (.ref a))) (ρ.set i (some (.own x))) H:=by
 have old:∀ b o,Hs b=some o->b ≠ a:=fun b o e z=>by rw [z,ha] at e; cases e
 have kp:∀ g,eY (Ms H0 W g) (Ms H0 (iQ W a) g) Hs H:=fun g=>⟨fun b _ m e=>⟨oZ (old _ _ e) m,s _ _ e⟩,fun b _ m e=>⟨oZ (old _ _ e) m,s _ _ e⟩,fun b _ m e=>⟨oZ (old _ _ e) m,s _ _ e⟩,fun _ _ e=>s _ _ e,fun _ _ _ e=>s _ _ e⟩
 have wa : ¬ W a:=(p.new ha).1
 refine⟨by rw [au3,au3]; exact p.len,p.same.trans s,fun b z=>?_,fun j m h=>?_,fun j k y z b h1 h2 h3 h4=>?_⟩
 ·rcases z with z | rfl
  ·obtain ⟨h1,o,h2,h3⟩:=p.wm b z
   exact⟨h1,o,s _ _ h2,h3⟩
  ·exact⟨(p.new ha).2,r.at⟩
 ·rcases cW h with ⟨rfl,hl,e⟩ | ⟨hne,h⟩
  ·cases e
   rw [p.len] at hl
   exact⟨_,au0 hl,a,rfl,.inr rfl,r⟩
  ·obtain ⟨u,e,q⟩:=p.sl j m h
   refine⟨u,by rw [aq2 (Ne.symm hne)]; exact e,?_⟩
   cases m with
   | sh g y=>exact aB.keep (kp g) q
   | own y=>
    obtain ⟨b,e1,e2,q⟩:=q
    exact⟨b,e1,.inl e2,q.keep (kp true) fun o z=>s _ _ z⟩
 ·have ne:∀ {j:Nat}{y:PV},ρ[j]? = some (some (.own y))->σ[j]? ≠ some (some (.ref a)):=fun {j y} h1 h2=>by
   obtain ⟨u,e,c,e1,e2,_⟩:=p.sl j _ h1
   rw [h2] at e
   cases e
   cases e1
   exact wa e2
  rcases cW h1 with ⟨e1,l1,_⟩ | ⟨n1,h1⟩
  ·rcases cW h2 with ⟨e2,_,_⟩ | ⟨n2,h2⟩
   ·rw [e1,e2]
   ·rw [e1,au0 (by rw [<- p.len]; exact l1)] at h3
    rw [aq2 (Ne.symm n2)] at h4
    cases h3
    exact absurd h4 (ne h2)
  ·rw [aq2 (Ne.symm n1)] at h3
   rcases cW h2 with ⟨e2,l2,_⟩ | ⟨n2,h2⟩
   ·rw [e2,au0 (by rw [<- p.len]; exact l2)] at h4
    cases h4
    exact absurd h3 (ne h1)
   ·rw [aq2 (Ne.symm n2)] at h4
    exact p.dis j k y z b h1 h2 h3 h4
theorem Ev.own {a:Addr} (s:a9 Hs H) (ha:Hs a=none):Ev W Hs (iQ W a) H:=fun b o e n=>⟨s _ _ e,fun z=>z.elim n fun z=>by rw [z,ha] at e; cases e⟩
theorem u5 {g:Bool}{a b:Addr} (wa:W a) (h:Ms H0 W g b):b ≠ a:=by
 cases g with
 | true=>exact fun z=>h.1 (by rw [z]; exact wa)
 | false=>exact fun z=>h (by rw [z]; exact wa)
theorem PX.updOwn {i:Nat}{a:Addr}{x y:PV}{o:HO} (p:PX K H0 W σ ρ H) (hi:ρ[i]? = some (some (.own x))) (ha:σ[i]? = some (some (.ref a))) (wa:W a) (mu:eI o=true) (r:eJ K (Ms H0 W true) (upd H a o) a y) :
  PX K H0 W σ (ρ.set i (some (.own y))) (upd H a o):=by
 obtain ⟨w0,o',e',mu'⟩:=p.wm a wa
 have kp:∀ g,eY (Ms H0 W g) (Ms H0 W g) H (upd H a o):=fun g=>.upd e' mu' fun b m=>⟨u5 wa m,m⟩
 refine⟨by rw [au3]; exact p.len,fun b u e=>by rw [aQ (fun z=>by rw [z,w0] at e; cases e)]; exact p.same _ _ e,fun b z=>?_,fun j m h=>?_,fun j k y' z b h1 h2 h3 h4=>?_⟩
 ·by_cases e:b=a
  ·subst e; exact⟨w0,o,bL,mu⟩
  ·obtain ⟨h1,o2,h2,h3⟩:=p.wm b z
   exact⟨h1,o2,by rw [aQ e]; exact h2,h3⟩
 ·rcases cW h with ⟨rfl,hl,e⟩ | ⟨hne,h⟩
  ·cases e
   exact⟨_,ha,a,rfl,wa,r⟩
  ·obtain ⟨u,e,q⟩:=p.sl j m h
   refine⟨u,e,?_⟩
   cases m with
   | sh g y=>exact aB.keep (kp g) q
   | own y=>
    obtain ⟨b,e1,e2,q⟩:=q
    have hb:b ≠ a:=fun z=>by
     subst e1
     rw [z] at e
     exact hne (p.dis j i _ _ a h hi e ha)
    exact⟨b,e1,e2,q.keep (kp true) fun o z=>by rw [aQ hb]; exact z⟩
 ·have g1:∃ y,ρ[j]? = some (some (.own y)):=by
   rcases cW h1 with ⟨e,_,_⟩ | ⟨_,h⟩
   ·exact⟨x,by rw [e]; exact hi⟩
   ·exact⟨_,h⟩
  have g2:∃ y,ρ[k]? = some (some (.own y)):=by
   rcases cW h2 with ⟨e,_,_⟩ | ⟨_,h⟩
   ·exact⟨x,by rw [e]; exact hi⟩
   ·exact⟨_,h⟩
  obtain ⟨y1,g1⟩:=g1
  obtain ⟨y2,g2⟩:=g2
  exact p.dis j k y1 y2 b g1 g2 h3 h4
theorem Ev.upd {a:Addr}{o:HO} (wa:W a):Ev W H W (upd H a o):=fun b u e n=>⟨by rw [aQ (fun z=>n (by rw [z]; exact wa))]; exact e,n⟩
noncomputable def jO (W:Addr->Prop) (a:Addr):Addr->Prop:=fun b=>W b/\b ≠ a
theorem p5 {g:Bool}{a b:Addr} (h:Ms H0 W g b):Ms H0 (jO W a) g b:=by
 cases g with
 | true=>exact⟨fun z=>h.1 z.1,h.2⟩
 | false=>exact fun z=>h z.1
theorem PX.freeze {i:Nat}{a:Addr}{x:PV} (p:PX K H0 W σ ρ H) (hi:ρ[i]? = some (some (.own x))) (ha:σ[i]? = some (some (.ref a))):PX K H0 (jO W a) σ (ρ.set i (some (.sh true x))) H:=by
 obtain ⟨v,ev,a',e1,wa,r⟩:=p.sl i _ hi
 rw [ha] at ev
 cases ev
 cases e1
 refine⟨by rw [au3]; exact p.len,p.same,fun b z=>p.wm b z.1,fun j m h=>?_,fun j k y' z b h1 h2 h3 h4=>?_⟩
 ·rcases cW h with ⟨rfl,hl,e⟩ | ⟨hne,h⟩
  ·cases e
   exact⟨_,ha,r.rep (M':=Ms H0 (jO W a) true) (fun b m=>p5 (g:=true) m) (show Ms H0 (jO W a) true a from ⟨fun z=>z.2 rfl,(p.wm a wa).1⟩)⟩
  ·obtain ⟨u,e,q⟩:=p.sl j m h
   refine⟨u,e,?_⟩
   cases m with
   | sh g y=>exact aB.same q (a9.refl _) fun _ m=>p5 m
   | own y=>
    obtain ⟨b,e1,e2,q⟩:=q
    have hb:b ≠ a:=fun z=>by
     subst e1
     rw [z] at e
     exact hne (p.dis j i _ _ a h hi e ha)
    exact⟨b,e1,⟨e2,hb⟩,q.keep (.same (a9.refl _) fun _ m=>p5 m) fun _ z=>z⟩
 ·rcases cW h1 with ⟨_,_,e⟩ | ⟨_,h1⟩
  ·cases e
  ·rcases cW h2 with ⟨_,_,e⟩ | ⟨_,h2⟩
   ·cases e
   ·exact p.dis j k _ _ b h1 h2 h3 h4
theorem Ev.off {a:Addr}:Ev W H (jO W a) H:=fun b u e n=>⟨e,fun z=>n z.1⟩
end
section
variable {X : Cx} {σ : St} {H : Hp} {D : cM} {te : aA} {t u : aL}
noncomputable def bT:aL:=fun D ρ=>D.nx ρ
noncomputable def aM (t u:aL):aL:=fun D ρ=>t { D with nx:=u D } ρ
theorem P8 (h:LS X bT D σ H):rX D σ H:=by
 obtain ⟨W,ρ,D',px,q,k⟩:=h
 exact k.nx W σ H ρ (Ev.refl _ _) px q
theorem P9 (h:LS X (aM t u) D σ H):rY (LS X t) (LS X u) D σ H:=by
 obtain ⟨W,ρ,D',px,q,k⟩:=h
 exact⟨W,ρ,_,px,q,fun W' σ' H' ρ' e px' q'=>⟨W',ρ',D',px',q',k.step e⟩,k.rt,k.bk,k.ct⟩
noncomputable def u6:Tg->PV->Bool
 | .fr,_=>true
 | .nw,_=>true
 | _,x=>flat x
noncomputable def u7:Tg->PV->Prop
 | .rd,x=>flat x=true
 | _,_=>True
theorem Q0 {K:PySem.W.Frag}{H0 Hs H:Hp}{W:Addr->Prop}{σ:St}{ρ:aX}{g:Tg}{x:PV}{v:V} (px:PX K H0 W σ ρ Hs) (n:u7 g x) (r:aB K (Mg H0 W Hs g) H v x):aB K (Ms H0 W (u6 g x)) H v x:=by
 cases g with
 | fr=>exact Nw.rep (g:=.fr) px trivial r
 | nw=>exact Nw.rep (g:=.nw) px trivial r
 | sh=>
  show aB K (Ms H0 W (flat x)) H v x
  cases e:flat x with
  | true=>exact r.flat e
  | false=>exact r.same (a9.refl _) fun _ z=>z
 | rd=>exact r.flat n
noncomputable def bP (i:Nat) (te:aA):aL:=fun D ρ=>te ρ fun x g=>u7 g x/\D.nx (ρ.set i (some (.sh (u6 g x) x)))
theorem p6 {i:Nat} (h:LS X (bP i te) D σ H):kW (LE X te) (cR i) D σ H:=by
 obtain ⟨W,ρ,D',px,q,k⟩:=h
 refine⟨W,ρ,_,px,q,?_⟩
 rintro v H1 x g s r ⟨n,q⟩
 exact k.nx W _ H1 _ (Ev.same s) ((px.mono s).setSh (Q0 px n r)) q
noncomputable def u8:PV->Bool
 | .lst xs=>flats xs
 | .dK ps=>flats (ps.map (·.2))
 | .dT ps=>flats (ps.map (·.2))
 | _=>false
theorem Q2 {K:PySem.W.Frag}{M:Addr->Prop}{H:Hp}{v:V}{x:PV} (r:aB K M H v x) (o:u8 x=true):∃ a,v = .ref a/\M a/\∀ M',eJ K M' H a x:=by
 cases r with
 | lst m e r=>exact⟨_,rfl,m,fun _=>⟨_,e,r.flat o⟩⟩
 | dK m e q r=>exact⟨_,rfl,m,fun _=>⟨_,e,q,r.flat o⟩⟩
 | dT m e q r=>exact⟨_,rfl,m,fun _=>⟨_,e,q,r.flat o⟩⟩
 | _=>cases o
noncomputable def lL (i:Nat) (te:aA):aL:=fun D ρ=>te ρ fun x g=>g = .fr/\u8 x=true/\D.nx (ρ.set i (some (.own x)))
theorem Q3 {i:Nat} (h:LS X (lL i te) D σ H):kW (LE X te) (cR i) D σ H:=by
 obtain ⟨W,ρ,D',px,q,k⟩:=h
 refine⟨W,ρ,_,px,q,?_⟩
 rintro v H1 x g s r ⟨rfl,o,q⟩
 obtain ⟨a,rfl,m,w⟩:=Q2 r o
 exact k.nx _ _ H1 _ (Ev.own s m) (px.setOwn s m (w _)) q
noncomputable def p7 (i:Nat) (t:aL):aL:=fun D ρ=>∃ x,ρ[i]? = some (some (.own x))/\t D (ρ.set i (some (.sh true x)))
theorem Q4 {i:Nat} (h:LS X (p7 i t) D σ H):LS X t D σ H:=by
 obtain ⟨W,ρ,D',px,⟨x,hi,q⟩,k⟩:=h
 obtain ⟨v,ev,a,rfl,wa,r⟩:=px.sl i _ hi
 exact⟨_,_,D',px.freeze hi ev,q,k.step Ev.off⟩
noncomputable def eZ (te:aA):aL:=fun D ρ=>te ρ fun _ _=>D.nx ρ
theorem Q5 (h:LS X (eZ te) D σ H):nS (LE X te) D σ H:=by
 obtain ⟨W,ρ,D',px,q,k⟩:=h
 exact⟨W,ρ,_,px,q,fun v H1 x g s r q=>k.nx W σ H1 ρ (Ev.same s) (px.mono s) q⟩
noncomputable def c7 (te:aA):aL:=fun D ρ=>te ρ fun x g=>Nw g x/\D.rt x
theorem Q6 (h:LS X (c7 te) D σ H):nT (LE X te) D σ H:=by
 obtain ⟨W,ρ,D',px,q,k⟩:=h
 refine⟨W,ρ,_,px,q,?_⟩
 rintro v H1 x g s r ⟨n,q⟩
 exact k.rt v H1 x (px.same.trans s) ((Nw.rep px n r).same (a9.refl _) fun _ z=>z.2) q
noncomputable def Slot.nw:Slot->Prop
 | .own _=>True
 | .sh true _=>True
 | .sh false x=>flat x=true
noncomputable def p9 (i:Nat):aL:=fun D ρ=>∃ m,ρ[i]? = some (some m)/\m.nw/\D.rt m.val
theorem Q7 {i:Nat} (h:LS X (p9 i) D σ H):nT (kQ i) D σ H:=by
 obtain ⟨W,ρ,D',px,⟨m,hi,n,q⟩,k⟩:=h
 obtain ⟨v,ev,r⟩:=px.sl i _ hi
 refine⟨v,ev,k.rt v H _ px.same ?_ q⟩
 cases m with
 | own x=>
  obtain ⟨a,rfl,wa,r⟩:=r
  exact r.rep (fun _ z=>z.2) (px.wm a wa).1
 | sh g x=>
  cases g with
  | true=>exact aB.same r (a9.refl _) fun _ z=>z.2
  | false=>exact aB.flat n r
noncomputable def bU (c:bS) (t u:aL):aL:=fun D ρ=>c ρ fun b=>if b=true then t D ρ else u D ρ
theorem Q8 {c:bS} (h:LS X (bU c t u) D σ H):sB (LT X c) (LS X t) (LS X u) D σ H:=by
 obtain ⟨W,ρ,D',px,q,k⟩:=h
 refine⟨W,ρ,_,px,q,fun b H1 s q1=>?_⟩
 cases b with
 | true=>exact bI ⟨W,ρ,D',px.mono s,by simpa using q1,k.step (Ev.same s)⟩
 | false=>exact aS ⟨W,ρ,D',px.mono s,by simpa using q1,k.step (Ev.same s)⟩
end
theorem lim {n:Nat} (h:n<=16000000):n<=sizeLine:=ax0 (oQ h)
theorem aB.sqT {K:PySem.W.Frag}{M:Addr->Prop}{H:Hp}{v:V}{xs:List PV} (r:aB K M H v (.tup xs)):∃ a us,v = .ref a/\H a=some (.tup us)/\Reps K M H us xs:=by
 cases r with
 | tup e r=>exact⟨_,_,rfl,e,r⟩
theorem aB.sqL {K:PySem.W.Frag}{M:Addr->Prop}{H:Hp}{v:V}{xs:List PV} (r:aB K M H v (.lst xs)):∃ a us,v = .ref a/\M a/\H a=some (.lst us)/\Reps K M H us xs:=by
 cases r with
 | lst m e r=>exact⟨_,_,rfl,m,e,r⟩
theorem fU.sqL {K:PySem.W.Frag}{H:Hp}{a:Addr}{ns:List Int} (h:fU K H a ns):aG K H a (ns.map V.int):=h.elim (fun z=>.inl (.inr z)) .inr
noncomputable def fX:PV->Option (List PV)
 | .tup xs=>some xs
 | .lst xs=>some xs
 | .scr ns=>some (intz ns)
 | .kt xs=>some xs
 | _=>none
theorem aB.seq {K:PySem.W.Frag}{M:Addr->Prop}{H:Hp}{v:V}{x:PV}{xs:List PV} (r:aB K M H v x) (e:fX x=some xs):∃ a us,v = .ref a/\(aG K H a us ∨ aE K H a us)/\Reps K M H us xs:=by
 cases r with
 | tup h r=>cases e; exact⟨_,_,rfl,.inr (aE.of h),r⟩
 | lst m h r=>cases e; exact⟨_,_,rfl,.inl (aG.of h),r⟩
 | scr h=>cases e; exact⟨_,_,rfl,.inl h.sqL,Reps.intz _⟩
 | kt h r=>cases e; exact⟨_,_,rfl,.inr (.inr h),r⟩
 | _=>cases e
section
variable {X : Cx} {σ : St} {H : Hp} {D : cM} {te ti to : aA} {t u : aL} {Q' : VK}
theorem _root_.PP.PX.updL {K:PySem.W.Frag}{H0:Hp}{W:Addr->Prop}{σ:St}{ρ:aX}{H:Hp}{i:Nat}{a:Addr}{x:PV}{us:List V}{ys:List PV} (p:PX K H0 W σ ρ H) (hi:ρ[i]? = some (some (.own x))) (ha:σ[i]? = some (some (.ref a))) (wa:W a) (r:Reps K (Ms H0 W true) (upd H a (.lst us)) us ys) :
  PX K H0 W σ (ρ.set i (some (.own (.lst ys)))) (upd H a (.lst us)):=p.updOwn hi ha wa rfl (y:=.lst ys) ⟨us,bL,r⟩
noncomputable def iR (i:Nat) (te:aA):aL:=fun D ρ=>∃ xs,ρ[i]? = some (some (.own (.lst xs)))/\te ρ fun x g=>Nw g x/\xs.length < 16000000/\D.nx (ρ.set i (some (.own (.lst (xs ++ [x])))))
theorem Q9 {i:Nat} (h:LS X (iR i te) D σ H):nS (t6 X.K "list" t9 (kQ i) (iL (LE X te) jJ)) D σ H:=by
 obtain ⟨W,ρ,D',px,⟨xs,hi,q⟩,k⟩:=h
 obtain ⟨v,ev,a,rfl,wa,us,ea,r⟩:=px.sl i _ hi
 refine⟨_,ev,M9 (aG.of ea),W,ρ,_,px,q,?_⟩
 rintro w H1 x g s rx ⟨n,hl,q⟩
 have ea1:=s _ _ ea
 refine⟨a,us,w,rfl,rfl,ea1,oQ (by rw [r.length]; lia),?_⟩
 refine k.nx W σ _ _ ((Ev.same s).trans (Ev.upd wa)) ((px.mono s).updL hi ev wa ?_) q
 exact ((r.same s fun _ z=>z).append (.cons (Nw.rep px n rx) .nil)).keep (.upd ea1 rfl fun b m=>⟨u5 wa m,m⟩)
end
theorem Reps.atI {K:PySem.W.Frag}{M:Addr->Prop}{H:Hp}{us:List V}{xs:List PV}{i:Int}{z:PV} (r:Reps K M H us xs) (h:L2.atI xs i=some z):∃ v,L2.atI us i=some v/\aB K M H v z:=by
 unfold L2.atI at h ⊢
 rw [r.length]
 cases e:gU xs.length i with
 | none=>rw [e] at h; cases h
 | some j=>rw [e] at h; exact r.at h
section
variable {X : Cx} {σ : St} {H : Hp} {Q' : VK} {ta tb te : aA} {tr : bJ}
noncomputable def pA:PV->Tg->PV->Tg->PK->Prop:=fun x g y _ Q=>∃ xs i z,fX x=some xs/\y = .int i/\L2.atI xs i=some z/\Q z g
theorem R0:cO X pA (t5 X.K):=by
 rintro W Hs H u v x y g g' Q Q' s n r1 r2 ⟨xs,i,z,e,rfl,hz,q⟩ k
 cases r2
 obtain ⟨a,us,rfl,hs,r⟩:=r1.seq e
 obtain ⟨v,hv,rv⟩:=r.atI hz
 rcases hs with hs | hs
 ·exact .inl ⟨a,us,i,v,rfl,rfl,hs,hv,k v H z g (a9.refl _) rv q⟩
 ·exact .inr (.inl ⟨a,us,i,v,rfl,rfl,hs,hv,k v H z g (a9.refl _) rv q⟩)
noncomputable def pB:PV->Option Nat
 | .tup xs=>some xs.length
 | .lst xs=>some xs.length
 | .scr ns=>some ns.length
 | .dK ps=>some ps.length
 | .kt xs=>some xs.length
 | _=>none
noncomputable def eB:List PV->(PV->Prop)->Prop:=fun xs Q=>∃ x n,xs = [x]/\pB x=some n/\Q (.int n)
theorem Reps.one {K:PySem.W.Frag}{M:Addr->Prop}{H:Hp}{vs:List V}{x:PV} (r:Reps K M H vs [x]):∃ v,vs = [v]/\aB K M H v x:=by
 cases r with
 | cons r t=>cases t; exact⟨_,rfl,r⟩
theorem Reps.two {K:PySem.W.Frag}{M:Addr->Prop}{H:Hp}{vs:List V}{x y:PV} (r:Reps K M H vs [x,y]):∃ v w,vs = [v,w]/\aB K M H v x/\aB K M H w y:=by
 cases r with
 | cons r t=>
  obtain ⟨w,rfl,q⟩:=t.one
  exact⟨_,_,rfl,r,q⟩
theorem R3:cV X eB (fun xs H Q=>(∃ p ys,xs = [.ref p]/\(aG X.K H p ys ∨ aE X.K H p ys)/\Q (.int ys.length) H) ∨ ∃ a kvs,xs = [V.ref a]/\H a=some (.dK kvs)/\Q (.int kvs.length) H):=by
 rintro H vs xs Q Q' r ⟨x,n,rfl,e,q⟩ k
 obtain ⟨v,rfl,r1⟩:=r.one
 have fin:∀ {m:Nat},m=n->Q' (.int m) H:=fun {m} z=>by rw [z]; exact k _ _ _ (a9.refl _) (.int _) q
 cases r1 with
 | tup h r2=>cases e; exact .inl ⟨_,_,rfl,.inr (aE.of h),fin r2.length⟩
 | lst m h r2=>cases e; exact .inl ⟨_,_,rfl,.inl (aG.of h),fin r2.length⟩
 | scr h=>cases e; exact .inl ⟨_,_,rfl,.inl h.sqL,fin (by rw [ap9])⟩
 | kt h r2=>cases e; exact .inl ⟨_,_,rfl,.inr (.inr h),fin r2.length⟩
 | dK m h e' r=>
  cases e
  refine .inr ⟨_,_,rfl,h,fin ?_⟩
  have:=congrArg List.length e'
  rw [ap9,ap9] at this
  exact this
 | _=>cases e
noncomputable def seqT:PV->Option (List PV)
 | .kt _=>none
 | x=>fX x
noncomputable def u9:List PV->(PV->Prop)->Prop:=fun xs Q=>∃ x ys,xs = [x]/\seqT x=some ys/\flats ys=true/\Q (.tup ys)
noncomputable def lM:List PV->(PV->Prop)->Prop:=fun xs Q=>∃ x ys,xs = [x]/\fX x=some ys/\flats ys=true/\Q (.lst ys)
theorem R4:cV X (fun xs Q=>u9 xs Q/\∀ ns,xs ≠ [.scr ns]) (fun xs H Q=>∃ p ys,xs = [.ref p]/\((aG X.K H p ys/\∀ l,H l=none->Q (.ref l) (upd H l (.tup ys))) ∨ (aE X.K H p ys/\Q (.ref p) H))):=by
 rintro H vs xs Q Q' r ⟨⟨x,ys,rfl,e,f,q⟩,nsc⟩ k
 obtain ⟨v,rfl,r1⟩:=r.one
 cases r1 with
 | tup h r2=>cases e; exact⟨_,_,rfl,.inr ⟨aE.of h,k _ _ _ (a9.refl _) (.tup h (r2.flat f)) q⟩⟩
 | lst m h r2=>cases e; exact⟨_,_,rfl,.inl ⟨aG.of h,fun l hl=>k _ _ _ (b8 hl _) (.tup bL ((r2.flat f).same (b8 hl _) fun _ z=>z)) q⟩⟩
 | scr h=>exact absurd rfl (nsc _)
 | _=>cases e
theorem R5:cV X lM (fun xs H Q=>∃ p ys,xs = [.ref p]/\(aG X.K H p ys ∨ aE X.K H p ys)/\∀ l,H l=none->Q (.ref l) (upd H l (.lst ys))):=by
 rintro H vs xs Q Q' r ⟨x,ys,rfl,e,f,q⟩ k
 obtain ⟨v,rfl,r1⟩:=r.one
 obtain ⟨a,us,rfl,hs,r2⟩:=r1.seq e
 exact⟨_,_,rfl,hs,fun l hl=>k _ _ _ (b8 hl _) (.lst hl bL ((r2.flat f).same (b8 hl _) fun _ z=>z)) q⟩
noncomputable def pC:List PV->(PV->Prop)->Prop:=fun xs Q=>∃ bs:List Bool,xs = [.lst (bs.map PV.bl)]/\Q (.bl (bs.all id))
theorem Reps.ofBls {K:PySem.W.Frag}{M:Addr->Prop}{H:Hp}:∀ {ns:List Bool}{us:List V},Reps K M H us (ns.map PV.bl)->us=ns.map V.bl
 | [],_,.nil=>rfl
 | n :: r,_,.cons q t=>by
  cases q
  rw [Reps.ofBls t]; rfl
theorem R6:cV X pC (fun xs H Q=>∃ (a:Addr) (bs:List Bool),xs = [.ref a]/\aG X.K H a (bs.map V.bl)/\Q (.bl (bs.all id)) H):=by
 rintro H vs xs Q Q' r ⟨bs,rfl,q⟩ k
 obtain ⟨v,rfl,r1⟩:=r.one
 obtain ⟨a,us,rfl,_,h,r2⟩:=r1.sqL
 obtain rfl:=r2.ofBls
 exact⟨a,bs,rfl,aG.of h,k _ _ _ (a9.refl _) (.bl _) q⟩
noncomputable abbrev c8:=List PV->(PV->Prop)->Prop
noncomputable def jP (K:PySem.W.Frag) (p:c8):Sp:=fun vs H Q _=>∃ xs Qp,Reps K (fun _=>True) H vs xs/\p xs Qp/\∀ v H' x,a9 H H'->aB K (fun a=>H a=none) H' v x->Qp x->Q v H'
theorem R7 {p:c8}{E:XK} (h:LE X (aK p tr) σ H Q'):o9 (jP X.K p) [] E (LA X tr) σ H Q':=by
 obtain ⟨W,ρ,Q,px,q,k⟩:=h
 refine⟨W,ρ,_,px,q,fun vs H1 xs s1 r1 q1=>⟨_,_,by rw [as5]; exact r1.any,q1,fun v H' x s2 r2 q2=>k v H' x .fr (s1.trans s2) (r2.same (a9.refl _) fun _ z=>s1.free z) q2⟩⟩
end
structure iS (K:PySem.W.Frag) (H0:Hp) (W:Addr->Prop) (g:Bool) (H1:Hp) (J:It) (xs:List PV):Prop where
 go:∀ W' H' i,Ev W H1 W' H'->i < xs.length->J.go i H'
 yld:∀ W' H' i v H2,Ev W H1 W' H'->J.yld i H' v H2->i < xs.length->a9 H' H2/\∃ x,xs[i]? = some x/\aB K (Ms H0 W' g) H2 v x
 stop:∀ W' H',Ev W H1 W' H'->J.stop xs.length H'
noncomputable abbrev dP:=aX->(List PV->Bool->Prop)->Prop
noncomputable def LI (X:Cx) (t:dP):TI:=fun σ H R=>∃ (W:Addr->Prop) (ρ:aX) (Q:List PV->Bool->Prop),PX X.K X.H₀ W σ ρ H/\t ρ Q/\∀ J H1 xs g,a9 H H1->iS X.K X.H₀ W g H1 J xs->Q xs g->R J H1
theorem Ev.keep {H0:Hp}{W W':Addr->Prop}{H H':Hp}{g:Bool} (e:Ev W H W' H') (tw:∀ a,W a->∃ o,H a=some o/\eI o=true):eY (Ms H0 W g) (Ms H0 W' g) H H':=by
 have m:∀ {a:Addr}{o:HO},Ms H0 W g a->H a=some o->Ms H0 W' g a/\H' a=some o:=fun {a o} z h=>by
  cases g with
  | true=>
   obtain ⟨h1,h2⟩:=e a _ h z.1
   exact⟨⟨h2,z.2⟩,h1⟩
  | false=>
   obtain ⟨h1,h2⟩:=e a _ h z
   exact⟨h2,h1⟩
 refine⟨fun a _ z h=>m z h,fun a _ z h=>m z h,fun a _ z h=>m z h,fun a _ h=>(e a _ h fun z=>?_).1,fun a _ _ h=>(e a _ h fun z=>?_).1⟩
 ·obtain ⟨o,h',mu⟩:=tw a z; rw [h] at h'; cases h'; cases mu
 ·obtain ⟨o,h',mu⟩:=tw a z; rw [h] at h'; cases h'; cases mu
section
variable {X : Cx} {σ : St} {H : Hp} {te : aA} {tr : bJ} {R : It → Hp → Prop}
noncomputable def uA (K:PySem.W.Frag) (tl:TE):TI:=fun σ H R=>tl σ H fun x H1=>∃ a,x = .ref a/\((∃ xs,aG K H1 a xs/\R (nV K a) H1) ∨ (∃ xs,aE K H1 a xs/\R (nW K a) H1))
noncomputable def uB:Tg->List PV->Bool
 | .fr,_=>true
 | .nw,_=>true
 | _,xs=>flats xs
noncomputable def gX (te:aA):dP:=fun ρ Q=>te ρ fun x g=>∃ xs,fX x=some xs/\(g = .rd->flat x=true)/\Q xs (uB g xs)
theorem uC {K:PySem.W.Frag}{H0:Hp}{W:Addr->Prop}{g:Bool}{H1:Hp}{a:Addr}{us:List V}{xs:List PV} (tw:∀ a,W a->∃ o,H1 a=some o/\eI o=true) (ha:∀ W' H',Ev W H1 W' H'->aG K H' a us) (r:Reps K (Ms H0 W g) H1 us xs):iS K H0 W g H1 (nV K a) xs:=by
 have lr:=r.length
 refine⟨fun W' H' i e hi=>⟨us,us[i]'(by lia),ha W' H' e,by simp⟩,fun W' H' i v H2 e y hi=>?_,fun W' H' e=>⟨us,ha W' H' e,by lia⟩⟩
 obtain ⟨rfl,y⟩:=y
 obtain ⟨x,hx,rx⟩:=r.get (y us (ha W' _ e))
 exact⟨a9.refl _,x,hx,rx.keep (e.keep tw)⟩
theorem uD {K:PySem.W.Frag}{H0:Hp}{W:Addr->Prop}{g:Bool}{H1:Hp}{a:Addr}{us:List V}{xs:List PV} (tw:∀ a,W a->∃ o,H1 a=some o/\eI o=true) (ha:∀ W' H',Ev W H1 W' H'->aE K H' a us) (r:Reps K (Ms H0 W g) H1 us xs):iS K H0 W g H1 (nW K a) xs:=by
 have lr:=r.length
 refine⟨fun W' H' i e hi=>⟨us,us[i]'(by lia),ha W' H' e,by simp⟩,fun W' H' i v H2 e y hi=>?_,fun W' H' e=>⟨us,ha W' H' e,by lia⟩⟩
 obtain ⟨rfl,y⟩:=y
 obtain ⟨x,hx,rx⟩:=r.get (y us (ha W' _ e))
 exact⟨a9.refl _,x,hx,rx.keep (e.keep tw)⟩
theorem lN {K:PySem.W.Frag}{H0 Hs H:Hp}{W:Addr->Prop}{σ:St}{ρ:aX}{g:Tg}{us:List V}{xs:List PV} (px:PX K H0 W σ ρ Hs) (hg:g = .rd->flats xs=true) (r:Reps K (Mg H0 W Hs g) H us xs):Reps K (Ms H0 W (uB g xs)) H us xs:=by
 cases g with
 | fr=>exact r.same (a9.refl _) fun _ z=>px.new z
 | nw=>exact r.same (a9.refl _) fun _ z=>z
 | sh=>
  show Reps K (Ms H0 W (flats xs)) H us xs
  cases e:flats xs with
  | true=>exact r.flat e
  | false=>exact r.same (a9.refl _) fun _ z=>z
 | rd=>exact r.flat (hg rfl)
theorem R8 (h:LI X (gX te) σ H R):uA X.K (LE X te) σ H R:=by
 obtain ⟨W,ρ,Q,px,q,k⟩:=h
 refine⟨W,ρ,_,px,q,?_⟩
 rintro v H1 x g s r ⟨xs,e,hg,q⟩
 have px1:=px.mono s
 have tw:∀ a,W a->∃ o,H1 a=some o/\eI o=true:=fun a z=>(px1.wm a z).2
 cases r with
 | tup h r=>
  cases e
  refine⟨_,rfl,.inr ⟨_,aE.of h,k _ _ _ _ s (uD tw (fun W' H' e=>aE.of (e _ _ h fun z=>?_).1) (lN px (fun z=>by have:=hg z; unfold flat at this; exact this) r)) q⟩⟩
  obtain ⟨o,h',mu⟩:=tw _ z; rw [h] at h'; cases h'; cases mu
 | @lst a us xs' m h r=>
  cases e
  have wa : ¬ W a:=by
   cases g with
   | fr=>exact (px.new m).1
   | nw=>exact m.1
   | sh=>exact m
   | rd=>have:=hg rfl; unfold flat at this; cases this
  exact⟨_,rfl,.inl ⟨_,aG.of h,k _ _ _ _ s (uC tw (fun W' H' e=>aG.of (e _ _ h wa).1) (lN px (fun z=>by have:=hg z; unfold flat at this; cases this) r)) q⟩⟩
 | scr h=>
  cases e
  refine⟨_,rfl,.inl ⟨_,h.sqL,k _ _ _ _ s (uC tw (fun W' H' e=>(fU.keep (fun a o u hz=>(e _ _ hz fun z=>?_).1) h).sqL) (lN (g:=g) px (fun z=>bN _) (Reps.intz _))) q⟩⟩
  obtain ⟨o,h',mu⟩:=tw _ z; rw [hz] at h'; cases h'; cases mu
 | kt h r=>
  cases e
  exact⟨_,rfl,.inr ⟨_,.inr h,k _ _ _ _ s (uD tw (fun W' H' e=>.inr h) (lN px (fun z=>by have:=hg z; unfold flat at this; exact this) r)) q⟩⟩
 | _=>cases e
noncomputable def fA (lo:Int) (n:Nat):List PV:=(List.range n).map fun (i:Nat)=>PV.int (lo+(i:Int))
theorem fB (lo:Int) (n:Nat):(fA lo n).length=n:=by unfold fA; rw [ap9,List.length_range]
theorem uE {lo:Int}{n i:Nat} (h:i < n):(fA lo n)[i]? = some (.int (lo+i)):=by unfold fA; rw [ar2,List.getElem?_range h]; rfl
noncomputable def gY (te:aA):dP:=fun ρ Q=>te ρ fun x _=>∃ j:Int,x = .int j/\-1000000<=j/\j<=1000000/\Q (fA 0 j.toNat) true
theorem R9 {K:PySem.W.Frag}{H0:Hp}{W:Addr->Prop}{H1:Hp} (lo:Int) (n:Nat):iS K H0 W true H1 (kX lo n) (fA lo n):=by
 refine⟨fun W' H' i e hi=>by rw [fB] at hi; exact hi,fun W' H' i v H2 e y hi=>?_,fun W' H' e=>by show n<=(fA lo n).length; rw [fB]; exact ao8 _⟩
 rw [fB] at hi
 obtain ⟨rfl,rfl⟩:=y
 exact⟨a9.refl _,_,uE hi,.int _⟩
theorem S0 (h:LI X (gY te) σ H R):sF (iL (LE X te) jJ) σ H R:=by
 obtain ⟨W,ρ,Q,px,q,k⟩:=h
 refine⟨W,ρ,_,px,q,?_⟩
 rintro v H1 x g s r ⟨j,rfl,h1,h2,q⟩
 cases r
 exact⟨j,rfl,by lia,by lia,k _ _ _ _ s (R9 0 j.toNat) q⟩
end
noncomputable abbrev gJ:=PV->Bool->aX->(aX->Prop)->Prop
noncomputable def jQ (K:PySem.W.Frag) (own:Nat->Prop) (p:gJ) (t:TG):Prop:=∀ (H0:Hp) (W:Addr->Prop) (σ:St) (ρ:aX) (H:Hp) (v:V) (x:PV) (g:Bool) (Q:aX->Prop) (Q':St->Hp->Prop),
 PX K H0 W σ ρ H->aB K (Ms H0 W g) H v x->p x g ρ Q->(∀ σ' ρ',PX K H0 W σ' ρ' H->(∀ i,¬ own i->σ'[i]? = σ[i]?)->σ'.length=σ.length->Q ρ'->Q' σ' H)->t v σ H Q'
noncomputable def cX (i:Nat):gJ:=fun x g ρ Q=>Q (ρ.set i (some (.sh (g || flat x) x)))
theorem lO {K:PySem.W.Frag}{H0 H:Hp}{W:Addr->Prop}{v:V}{x:PV}{g:Bool} (r:aB K (Ms H0 W g) H v x):aB K (Ms H0 W (g || flat x)) H v x:=by
 cases g with
 | true=>exact r
 | false=>
  show aB K (Ms H0 W (flat x)) H v x
  cases e:flat x with
  | true=>exact r.flat e
  | false=>exact r
theorem lP (K:PySem.W.Frag) (i:Nat):jQ K (· = i) (cX i) (cR i):=by
 intro H0 W σ ρ H v x g Q Q' px r q k
 exact k _ _ (px.setSh (lO r)) (fun j hj=>by rw [aq2 (Ne.symm hj)]) (au3 ..) q
noncomputable def pD (i j:Nat):gJ:=fun x g ρ Q=>∃ y z,x = .tup [y,z]/\Q ((ρ.set i (some (.sh (g || flat y) y))).set j (some (.sh (g || flat z) z)))
theorem S2 (K:PySem.W.Frag) (i j:Nat):jQ K (fun k=>k=i ∨ k=j) (pD i j) (kU K 2 (gS (cR i) (gS (cR j) kT))):=by
 intro H0 W σ ρ H v x g Q Q' px r q k
 obtain ⟨y,z,rfl,q⟩:=q
 obtain ⟨a,us,rfl,h,r⟩:=r.sqT
 obtain ⟨u1,u2,rfl,r1,r2⟩:=r.two
 refine⟨a,_,rfl,aE.of h,rfl,u1,_,rfl,u2,_,rfl,rfl,k _ _ ((px.setSh (lO r1)).setSh (lO r2)) (fun k hk=>?_) (by rw [au3,au3]) q⟩
 rw [aq2 (fun e=>hk (.inr e.symm)),aq2 (fun e=>hk (.inl e.symm))]
section
variable {X : Cx} {σ : St} {H : Hp} {D : cM}
noncomputable def fC (ti:dP) (p:gJ) (tb:aL):aL:=fun D ρ=>ti ρ fun xs g=>∃ I:Nat->aX->Prop,I 0 ρ/\(∀ i x ρ',xs[i]? = some x->I i ρ'->p x g ρ' fun ρ2=>tb { D with nx:=I (i+1),ct:=I (i+1),bk:=D.nx } ρ2)/\∀ ρ',I xs.length ρ'->D.nx ρ'
theorem S3 {ti:dP}{p:gJ}{g:TG}{tb:aL}{own:Nat->Prop} (hg:jQ X.K own p g) (h:LS X (fC ti p tb) D σ H):sG (LI X ti) g (LS X tb) D σ H:=by
 obtain ⟨W,ρ,D',px,q,k⟩:=h
 refine⟨W,ρ,_,px,q,?_⟩
 rintro J H1 xs gb s it ⟨I,i0,turn,fin⟩
 refine⟨fun i m σ2 H2=>m=xs.length - i/\i<=xs.length/\∃ W2 ρ2,PX X.K X.H₀ W2 σ2 ρ2 H2/\Ev W H1 W2 H2/\I i ρ2,⟨xs.length,by lia,av8 _,W,ρ,px.mono s,Ev.refl _ _,i0⟩,?_⟩
 rintro i m σ2 H2 ⟨rfl,hi,W2,ρ2,px2,e2,i2⟩
 have e0:Ev W H W2 H2:=(Ev.same s).trans e2
 by_cases hlt:i < xs.length
 ·refine .inr ⟨it.go W2 H2 i e2 hlt,fun σ3 H3=>∃ W3 ρ3,PX X.K X.H₀ W3 σ3 ρ3 H3/\Ev W H1 W3 H3/\I (i+1) ρ3,fun σ3 H3 ⟨W3,ρ3,a,b,c⟩=>⟨xs.length - (i+1),by lia,rfl,hlt,W3,ρ3,a,b,c⟩,fun v H3 y=>?_⟩
  obtain ⟨s3,x,hx,rx⟩:=it.yld W2 H2 i v H3 e2 y hlt
  refine hg X.H₀ W2 σ2 ρ2 H3 v x gb _ _ (px2.mono s3) rx (turn i x ρ2 hx i2) fun σ4 ρ4 px4 _ _ q4=>?_
  have e3:Ev W H1 W2 H3:=e2.trans (Ev.same s3)
  have e3':Ev W H W2 H3:=e0.trans (Ev.same s3)
  exact⟨W2,ρ4,_,px4,q4,fun W' σ' H' ρ' e p q=>⟨W',ρ',p,e3.trans e,q⟩,k.rt,fun W' σ' H' ρ' e p q=>k.nx W' σ' H' ρ' (e3'.trans e) p q,fun W' σ' H' ρ' e p q=>⟨W',ρ',p,e3.trans e,q⟩⟩
 ·have e:i=xs.length:=by lia
  subst e
  exact .inl ⟨it.stop W2 H2 e2,k.nx W2 σ2 H2 ρ2 e0 px2 (fin ρ2 i2)⟩
end
noncomputable def iT (fr:List (Option Nat)) (ρ:aX):aX:=fr.map fun o=>o.bind fun j=>(ρ[j]?).join.map fun m=>Slot.sh false m.val
noncomputable def gZ (D:Addr):Addr->Prop:=fun a=>a=D
theorem S4 {K:PySem.W.Frag}{H0:Hp}{W:Addr->Prop}{σ:St}{ρ:aX}{H1 H':Hp}{D:Addr}{acc:List V}{fr:List (Option Nat)} (px:PX K H0 W σ ρ H1) (hD:H1 D=none) (s:a9 H1 H') (ha:H' D=some (.lst acc)) :
  PX K H1 (gZ D) (dL fr σ) (iT fr ρ) H':=by
 have old:∀ {a:Addr}{o:HO},H1 a=some o->a ≠ D:=fun {a o} e z=>by rw [z,hD] at e; cases e
 refine⟨by unfold dL iT; rw [ap9,ap9],s,fun a z=>by cases z; exact⟨hD,_,ha,rfl⟩,fun i m h=>?_,fun i j x y a h1=>?_⟩
 ·unfold iT at h
  rw [ar2] at h
  cases ef:fr[i]? with
  | none=>rw [ef] at h; cases h
  | some o=>
   rw [ef] at h
   cases o with
   | none=>cases h
   | some j=>
    have h:some ((ρ[j]?).join.map fun m=>Slot.sh false m.val)=some (some m):=h
    cases er:ρ[j]? with
    | none=>rw [er] at h; cases h
    | some o=>
     rw [er] at h
     cases o with
     | none=>cases h
     | some m0=>
      cases h
      obtain ⟨v,ev,r⟩:=px.sl j m0 er
      refine⟨v,?_,?_⟩
      ·unfold dL
       rw [ar2,ef]
       show some ((σ[j]?).join)=_
       rw [ev]; rfl
      ·have r':aB K (fun _=>True) H1 v m0.val:=(tX (Hs:=H1) r).same (a9.refl _) fun _ _=>trivial
       exact r'.keep ⟨fun a _ _ e=>⟨old e,s _ _ e⟩,fun a _ _ e=>⟨old e,s _ _ e⟩,fun a _ _ e=>⟨old e,s _ _ e⟩,fun _ _ e=>s _ _ e,fun _ _ _ e=>s _ _ e⟩
 ·unfold iT at h1
  rw [ar2] at h1
  cases ef:fr[i]? with
  | none=>rw [ef] at h1; cases h1
  | some o=>
   rw [ef] at h1
   cases o with
   | none=>cases h1
   | some j=>
    have h1:some ((ρ[j]?).join.map fun m=>Slot.sh false m.val)=some (some (Slot.own x)):=h1
    cases er:ρ[j]? with
    | none=>rw [er] at h1; cases h1
    | some o=>
     rw [er] at h1
     cases o with
     | none=>cases h1
     | some m0=>cases h1
section
variable {X : Cx} {σ : St} {H : Hp} {Q' : VK}
noncomputable abbrev _root_.L2.Cx.frm (X:Cx) (H1:Hp):Cx:={ X with H₀:=H1 }
noncomputable def fY (ti:dP) (fr:List (Option Nat)) (p:gJ) (tc:bS) (te:aA):aA:=fun ρ Q=>ti ρ fun xs g=>xs.length<=16000000/\∃ I:Nat->List PV->Prop,I 0 []/\
 (∀ i x acc,xs[i]? = some x->I i acc->p x false (iT fr ρ) fun ρ2=>tc ρ2 fun b=>if b=true then te ρ2 fun y gy=>Nw gy y/\I (i+1) (acc ++ [y]) else I (i+1) acc)/\∀ acc,I xs.length acc->Q (.lst acc) .fr
theorem lQ {ti:dP}{fr:List (Option Nat)}{p:gJ}{g:TG}{tc:bS}{te:aA}{own:Nat->Prop} (hg:jQ X.K own p g) (ho:∀ i,own i->fr[i]? = some none) (h:LE X (fY ti fr p tc te) σ H Q') :
  oO (LI X ti) fr (fun _=>g) (fun H1=>LT (X.frm H1) tc) (fun H1=>LE (X.frm H1) te) σ H Q':=by
 obtain ⟨W,ρ,Q,px,q,k⟩:=h
 refine⟨W,ρ,_,px,q,?_⟩
 rintro J H1 xs gb s it ⟨hl,I,i0,turn,fin⟩ D hD
 have px1:=px.mono s
 refine⟨fun i m acc H'=>m=xs.length - i/\i<=xs.length/\a9 H1 H'/\H' D=some (.lst acc)/\∃ ys,Reps X.K (Ms H1 (gZ D) true) H' acc ys/\ys.length<=i/\I i ys,⟨xs.length,by lia,av8 _,b8 hD _,bL,[],.nil,ao8 _,i0⟩,?_⟩
 rintro i m acc H' ⟨rfl,hi,sm,ha,ys,ry,hy,iy⟩
 refine⟨ha,?_⟩
 have ev:Ev W H1 (iQ W D) H':=Ev.own sm hD
 by_cases hlt:i < xs.length
 ·refine .inr ⟨it.go _ H' i ev hlt,fun v H2 y=>?_⟩
  obtain ⟨s2,x,hx,rx⟩:=it.yld _ H' i v H2 ev y hlt
  have ha2:=s2 _ _ ha
  have pxb:PX X.K H1 (gZ D) (dL fr σ) (iT fr ρ) H2:=S4 px1 hD (sm.trans s2) ha2
  have rx':aB X.K (Ms H1 (gZ D) false) H2 v x:=rx.same (a9.refl _) fun a z=>by
   cases gb with
   | true=>exact fun e=>z.1 (.inr e)
   | false=>exact fun e=>z (.inr e)
  refine hg H1 (gZ D) _ _ H2 v x false _ _ pxb rx' (turn i x ys hx iy) fun σ2 ρ2 px2 hown hlen q2=>⟨⟨hlen.symm,fun j w e=>?_⟩,?_⟩
  ·by_cases oj:own j
   ·have:=ho j oj
    unfold dL at e
    rw [ar2,this] at e
    cases e
   ·rw [hown j oj]; exact e
  ·refine⟨gZ D,ρ2,_,px2,q2,fun b H4 s4 q4=>?_⟩
   have ha4:=s4 _ _ ha2
   have sm4:=(sm.trans s2).trans s4
   cases b with
   | false=>
    refine aS ⟨xs.length - (i+1),by lia,rfl,hlt,sm4,ha4,ys,ry.same (s2.trans s4) fun _ z=>z,by lia,by simpa using q4⟩
   | true=>
    refine bI ⟨gZ D,ρ2,_,px2.mono s4,by simpa using q4,?_⟩
    rintro w H5 y gy s5 ryy ⟨nw,q5⟩
    have ha5:=s5 _ _ ha4
    have lr:=ry.length
    refine⟨ha5,oQ (by lia),xs.length - (i+1),by lia,rfl,hlt,fun b o e=>?_,bL,ys ++ [y],?_,by rw [ar4,List.length_singleton]; lia,q5⟩
    ·rw [aQ (fun z=>by rw [z,hD] at e; cases e)]
     exact s5 _ _ (sm4 _ _ e)
    ·exact ((ry.same ((s2.trans s4).trans s5) fun _ z=>z).append (.cons (Nw.rep (px2.mono s4) nw ryy) .nil)).keep (.upd ha5 rfl fun b m=>⟨m.1,m⟩)
 ·have e:i=xs.length:=by lia
  subst e
  refine .inl ⟨it.stop _ H' ev,k _ H' _ .fr (s.trans sm) (.lst (s.free hD) ha (ry.same (a9.refl _) fun _ z=>s.free z.2)) (fin ys iy)⟩
noncomputable def eM:bS:=fun _ Q=>Q true
theorem S5 {Qb:Bool->Hp->Prop} (h:LT X eM σ H Qb):tL σ H Qb:=by
 obtain ⟨W,ρ,Q,px,q,k⟩:=h
 exact k _ _ (a9.refl _) q
end
section
variable {κ : Type} [DecidableEq κ]
noncomputable def S6 (ps:List (κ × PV)) (k:κ):Option PV:=(ps.find? fun p=>decide (p.1=k)).map (·.2)
variable {K : PySem.W.Frag} {M : Addr → Prop} {H : Hp}
end
noncomputable def b7:Nat->PV->PV->Bool
 | _,.non,.non=>true
 | _,.bl a,.bl b=>a == b
 | _,.int a,.int b=>a == b
 | _,.str a,.str b=>a == b
 | n+1,.tup xs,.tup ys=>(xs.zip ys).all (fun p=>b7 n p.1 p.2) && xs.length == ys.length
 | n+1,.lst xs,.lst ys=>(xs.zip ys).all (fun p=>b7 n p.1 p.2) && xs.length == ys.length
 | n+1,.kt xs,.kt ys=>(xs.zip ys).all (fun p=>b7 n p.1 p.2) && xs.length == ys.length
 | _,_,_=>false
noncomputable def bK:Nat->PV->PV->Bool
 | _,.non,.non=>true
 | _,.bl _,.bl _=>true
 | _,.int _,.int _=>true
 | _,.str _,.str _=>true
 | _,.non,.int _=>true
 | _,.int _,.non=>true
 | n+1,.tup xs,.tup ys=>(xs.zip ys).all (fun p=>bK n p.1 p.2)
 | n+1,.lst xs,.lst ys=>(xs.zip ys).all (fun p=>bK n p.1 p.2)
 | n+1,.kt xs,.kt ys=>(xs.zip ys).all (fun p=>bK n p.1 p.2)
 | _+1,.non,.tup _=>true
 | _+1,.tup _,.non=>true
 | _,_,_=>false
theorem S7 (n:Nat) (a b:Int):b7 n (.int a) (.int b)=(a == b):=by cases n <;> rfl
theorem uF (n:Nat):∀ (a b:List Int),((((intz a).zip (intz b)).all fun p=>b7 n p.1 p.2) && (intz a).length == (intz b).length)=decide (a=b)
 | [],[]=>rfl
 | [],_ :: _=>by simp
 | _ :: _,[]=>by simp
 | x :: a,y :: b=>by
  have ih:=uF n a b
  simp only [List.map_cons,av4,aA8,au7,S7] at ih ⊢
  by_cases e:x=y
  ·subst e
   have:((intz a).length+1 == (intz b).length+1)=((intz a).length == (intz b).length):=by simp
   rw [this,at7,Bool.true_and,ih]
   simp
  ·have:(x == y)=false:=ay1.mpr e
   rw [this,Bool.false_and,Bool.false_and]
   simp [e]
theorem uG (n:Nat) (a b:List Int):b7 (n+1) (.tup (intz a)) (.tup (intz b))=decide (a=b):=uF n a b
theorem uH (n:Nat):∀ (a b:List Int),(((intz a).zip (intz b)).all fun p=>bK n p.1 p.2)=true
 | [],_=>by simp
 | _ :: _,[]=>by simp
 | x :: a,y :: b=>by
  simp only [List.map_cons,av4,aA8,uH n a b,Bool.and_true]
  cases n <;> rfl
theorem uI (n:Nat) (a b:List Int):bK (n+1) (.tup (intz a)) (.tup (intz b))=true:=uH n a b
noncomputable def lR (ta:aA):aA:=fun ρ Q=>ta ρ fun x _=>∃ i,x = .int i/\Q (.int (-i)) .fr
noncomputable def uJ:PV->Option String
 | .non=>some "NoneType"
 | .bl _=>some "bool"
 | .int _=>some "int"
 | .str _=>some "str"
 | .tup _=>some "tuple"
 | .kt _=>some "tuple"
 | .lst _=>some "list"
 | _=>none
noncomputable def gK (K:PySem.W.Frag) (n:String) (te:aA):aA:=fun ρ Q=>te ρ fun x _=>∃ T b,uJ x=some T/\PySem.W.kitOne K (.type T) (.type n)=some b/\Q (.bl b) .fr
noncomputable def hG (n:Nat) (neg:Bool):PV->Tg->PV->Tg->PK->Prop:=fun x _ y _ Q=>((∃ xs ys,x = .tup xs/\y = .tup ys) ∨ (∃ xs ys,x = .lst xs/\y = .lst ys))/\bK (n+1) x y=true/\Q (.bl (if neg=true then !b7 (n+1) x y else b7 (n+1) x y)) .fr
noncomputable abbrev iU:=aX->(Option Int->Prop)->Prop
noncomputable def dQ (xs:List PV) (lo hi:Option Int):List PV:=(xs.drop (HT.aH xs.length 0 lo)).take (HT.aH xs.length xs.length hi - HT.aH xs.length 0 lo)
noncomputable def S8:PV->List PV->PV
 | .tup _,ys=>.tup ys
 | .kt _,ys=>.tup ys
 | _,ys=>.lst ys
noncomputable def hI:iU:=fun _ Q=>Q none
noncomputable def hJ (te:aA):iU:=fun ρ Q=>te ρ fun x _=>∃ i,x = .int i/\Q (some i)
noncomputable def hU (te:aA) (tl th:iU):aA:=fun ρ Q=>te ρ fun x _=>tl ρ fun lo=>th ρ fun hi=>∃ xs,seqT x=some xs/\flats xs=true/\Q (S8 x (dQ xs lo hi)) .fr
noncomputable def dD (N:List Str) (xs:List PV):aX:=xs.map (fun x=>some (.sh (flat x) x)) ++ List.replicate (N.length - xs.length) none
noncomputable abbrev cB (ta tb:aA):aA:=q2 (dO fun i j=>.int (i+j)) ta tb
noncomputable abbrev lS (ta tb:aA):aA:=q2 (dO fun i j=>.int (i - j)) ta tb
noncomputable abbrev uK (ta tb:aA):aA:=q2 (RI jI fun i j=>.int (i * j)) ta tb
noncomputable abbrev fZ (ta tb:aA):aA:=q2 (RI o0 fun i j=>.int (i / j)) ta tb
noncomputable abbrev eN (ta tb:aA):aA:=q2 (RI (fun _ j=>0 < j) fun i j=>.int (i % j)) ta tb
noncomputable abbrev S9 (ta tb:aA):aA:=q2 (RI o3 fun i j=>.int (i ^ j.toNat)) ta tb
noncomputable abbrev g6 (ta tb:aA):aA:=q2 (dO fun i j=>.bl (decide (i < j))) ta tb
noncomputable abbrev iV (ta tb:aA):aA:=q2 (dO fun i j=>.bl (decide (j < i))) ta tb
noncomputable abbrev T0 (ta tb:aA):aA:=q2 (dO fun i j=>.bl (decide (j<=i))) ta tb
noncomputable abbrev hV (ta tb:aA):aA:=q2 (oV false) ta tb
noncomputable abbrev jR (ta tb:aA):aA:=q2 pA ta tb
noncomputable def jS:List PV->(PV->Prop)->Prop:=fun xs Q=>u9 xs Q/\∀ ns,xs ≠ [.scr ns]
noncomputable def eC:aL:=fun _ _=>False
noncomputable def QE (X:Cx) (e:Expr) (t:aA):Prop:=PE X e (LE X t)
noncomputable def QT (X:Cx) (e:Expr) (t:bS):Prop:=PT X e (LT X t)
noncomputable def QW (X:Cx) (e:Expr) (t:bS):Prop:=PW X e (LT X t)
noncomputable def QA (X:Cx) (es:List Expr) (t:bJ):Prop:=PA X es (LA X t)
noncomputable def QS (X:Cx) (st:Stmt) (t:aL):Prop:=PS X st (LS X t)
noncomputable def dE (X:Cx) (st:List Stmt) (t:aL):Prop:=cH X st (LS X t)
noncomputable def QI (X:Cx) (tg iter:Expr) (t:dP):Prop:=PI X tg iter (LI X t)
section
variable {X : Cx}
theorem bO {e:Expr}{t t':TE} (h:PE X e t) (m:∀ σ H Q,t' σ H Q->t σ H Q):PE X e t':=fun pins s σ H Q I q=>h pins s σ H Q I (m σ H Q q)
theorem pE {e:Expr}{t t':TT} (h:PT X e t) (m:∀ σ H Q,t' σ H Q->t σ H Q):PT X e t':=fun pins s σ H Q I q=>h pins s σ H Q I (m σ H Q q)
theorem T1 {e:Expr}{t t':TT} (h:PW X e t) (m:∀ σ H Q,t' σ H Q->t σ H Q):PW X e t':=fun wh pins s σ H Q I q=>h wh pins s σ H Q I (m σ H Q q)
theorem uL {e:List Expr}{t t':TA} (h:PA X e t) (m:∀ σ H Q,t' σ H Q->t σ H Q):PA X e t':=fun pos pins s σ H Q I q=>h pos pins s σ H Q I (m σ H Q q)
theorem dF {e:Stmt}{t t':TS} (h:PS X e t) (m:∀ D σ H,t' D σ H->t D σ H):PS X e t':=fun pins s σ H D I q=>h pins s σ H D I (m D σ H q)
theorem pF {e:List Stmt}{t t':TS} (h:cH X e t) (m:∀ D σ H,t' D σ H->t D σ H):cH X e t':=fun pins s σ H D I q=>h pins s σ H D I (m D σ H q)
theorem pG {tg e:Expr}{t t':TI} (h:PI X tg e t) (m:∀ σ H R,t' σ H R->t σ H R):PI X tg e t':=fun pins s σ H R I q=>h pins s σ H R I (m σ H R q)
variable {a b c e o : Expr} {es bY : List Expr} {ta tb te to tk : aA} {tr : bJ} {tA tB' tc : bS} {pos p2 px : Pos} {st : Stmt} {sts : List Stmt} {t u : aL}
theorem qv (i:Nat) {x:Str}{pos:Pos} (hN:X.N[i]? = some x:=by rfl) (hv:iJ X.env.scope x:=by first | exact Or.inl rfl | exact Or.inr (Or.inl rfl) | exact Or.inr (Or.inr rfl)) (hd:(x == ("__debug__" : Str))=false:=by decide)
  (hcd:(x == ("__classdict__" : Str))=false:=by decide):QE X (.Name x pos) (a6 i):=bO (nR hN hv hd hcd) fun _ _ _=>O4
theorem aI {i j}:QE X (.Constant (.int i) j pos) (qC (.int i)):=bO yV fun _ _ _=>jM fun _=>.int i
theorem cY {i j}:QE X (.Constant (.bool i) j pos) (qC (.bl i)):=bO yW fun _ _ _=>jM fun _=>.bl i
theorem T2 {j}:QE X (.Constant .none j pos) (qC .non):=bO yX fun _ _ _=>jM fun _=>.non
theorem pH {i j}:QE X (.Constant (.str i) j pos) (qC (.str i)):=bO yY fun _ _ _=>jM fun _=>.str i
theorem eO {op:Operator}{R:PV->Tg->PV->Tg->PK->Prop}{r:R2} (ho:bA X (binaryOp op) r) (cv:cO X R r) (ha:QE X a ta) (hb:QE X b tb):QE X (.BinOp a op b pos) (q2 R ta tb):=bO (zV ho ha hb) fun _ _ _=>lI cv
theorem cP (ha:QE X a ta) (hb:QE X b tb):QE X (.BinOp a .Add b pos) (q2 (dO fun i j=>.int (i+j)) ta tb):=eO zX tY ha hb
theorem lT (ha:QE X a ta) (hb:QE X b tb):QE X (.BinOp a .Sub b pos) (q2 (dO fun i j=>.int (i - j)) ta tb):=eO zY tY ha hb
theorem uM (ha:QE X a ta) (hb:QE X b tb):QE X (.BinOp a .Mult b pos) (q2 (RI jI fun i j=>.int (i * j)) ta tb):=eO zZ lJ ha hb
theorem g9 (ha:QE X a ta) (hb:QE X b tb):QE X (.BinOp a .FloorDiv b pos) (q2 (RI o0 fun i j=>.int (i / j)) ta tb):=eO A0 lJ ha hb
theorem eQ (ha:QE X a ta) (hb:QE X b tb):QE X (.BinOp a .Mod b pos) (q2 (RI (fun _ j=>0 < j) fun i j=>.int (i % j)) ta tb):=eO A1 lJ ha hb
theorem T3 (ha:QE X a ta) (hb:QE X b tb):QE X (.BinOp a .Pow b pos) (q2 (RI o3 fun i j=>.int (i ^ j.toNat)) ta tb):=eO A2 lJ ha hb
theorem T4 {op:CmpOp}{R:PV->Tg->PV->Tg->PK->Prop}{r:R2} (ho:bA X (compareOp op) r) (cv:cO X R r) (ha:QE X a ta) (hb:QE X b tb) (hm:behindInMarks op b=false):QE X (.Compare a [op] [b] pos) (q2 R ta tb):=bO (B3 ho ha hb hm) fun _ _ _=>lI cv
theorem jT {op:CmpOp}{R:PV->Tg->PV->Tg->PK->Prop}{r:R2} (ho:bA X (compareOp op) r) (cv:cO X R r) (ha:QE X a ta) (hb:QE X b tb) (hm:behindInMarks op b=false):QT X (.Compare a [op] [b] pos) (aT (q2 R ta tb)):=pE (B5 ho ha hb hm) fun _ _ _ h=>lI cv (tZ h)
theorem gL (ha:QE X a ta) (hb:QE X b tb):QT X (.Compare a [.Lt] [b] pos) (aT (q2 (dO fun i j=>.bl (decide (i < j))) ta tb)):=jT sJ lK ha hb (iK _)
theorem iW (ha:QE X a ta) (hb:QE X b tb):QT X (.Compare a [.Gt] [b] pos) (aT (q2 (dO fun i j=>.bl (decide (j < i))) ta tb)):=jT B1 lK ha hb (iK _)
theorem T5 (ha:QE X a ta) (hb:QE X b tb):QT X (.Compare a [.GtE] [b] pos) (aT (q2 (dO fun i j=>.bl (decide (j<=i))) ta tb)):=jT B2 lK ha hb (iK _)
theorem hZ (ha:QE X a ta) (hb:QE X b tb):QT X (.Compare a [.Eq] [b] pos) (aT (q2 (oV false) ta tb)):=jT B0 O7 ha hb (iK _)
theorem lU (h:QE X e te) (he:∀ whole,isTrue e X.env whole=(do let v <- whole; standAt e.pos; holding [v] (truthy v)):=by intro _; rfl):QT X e (aT te):=pE (yZ h he) fun _ _ _ h=>tZ h
theorem lV (ha:QT X a tA):QW X (.BoolOp .Or [a] pos) tA:=z0 ha
theorem i4 (ha:QT X a tA) (hb:QW X (.BoolOp .Or (b :: bY) pos) tB'):QW X (.BoolOp .Or (a :: b :: bY) pos) (fV tA tB'):=T1 (z9 ha hb) fun _ _ _=>O8
theorem lW (h:QW X e tA):QT X e tA:=PW.pt h
theorem lX (ha:QT X a tA):QT X (.UnaryOp .Not a pos) (iP tA):=pE (zA ha) fun _ _ _=>O9
theorem T6 {op} (h:QE X a ta):QE X (.BoolOp op [a] pos) ta:=zB h
theorem T7 (ha:QE X a ta) (hb:QE X (.BoolOp .And (b :: bY) pos) tb):QE X (.BoolOp .And (a :: b :: bY) pos) (oW ta tb):=bO (zC ha hb) fun _ _ _=>P0
theorem T8 (ha:QE X a ta):QE X (.UnaryOp .Not a pos) (oX ta):=bO (zD ha) fun _ _ _=>P3
theorem aD:QA X [] aC:=uL iM fun _ _ _=>P4
theorem a7 (ha:QE X e te) (hr:QA X es tr) (hs:starEach (e :: es) X.env=(false,eval e X.env) :: starEach es X.env:=by rfl):QA X (e :: es) (a8 te tr):=uL (fO ha hr hs) fun _ _ _=>P5
theorem dR {x1} (h:QA X es tr):QE X (.Tuple es x1 pos) (cU tr):=bO (B9 h) fun _ _ _=>P6
theorem gM (h:QA X es tr):QE X (.List es pos) (fW tr):=bO (C0 h) fun _ _ _=>P7
theorem jU (ha:QE X a ta) (hb:QE X b tb) (hs:sX b:=by exact fun _ _=>rfl):QE X (.Subscript a b pos) (q2 pA ta tb):=bO (G2 G6 ha hb hs) fun _ _ _=>lI R0
theorem i6 {x:Str}{id:String}{R:List PV->(PV->Prop)->Prop}{r:List V->Hp->VK->Prop} (hc:bV X (.builtin id) r) (cv:cV X R r) (hg:Gl X x) (hm:X.mg x=none) (hv:bootBuiltins x=some (.builtin id)) (ha:QA X (e :: es) tr) (hn:x ≠ "__name__":=by decide) (hdb:(x == ("__debug__" : Str))=false:=by decide)
  (he:starEach (e :: es) X.env=(false,eval e X.env) :: starEach es X.env:=by rfl) (hpl:(backTo pos (starEach es X.env)).any (·.1)=false:=by rfl):QE X (.Call (.Name x p2) (e :: es) [] pos) (aK R tr):=bO (oC hc hg hm hv ha hn hdb he hpl) fun _ _ _=>u0 cv
theorem uN {x:Str}{T:String}{R:List PV->(PV->Prop)->Prop}{r:List V->Hp->VK->Prop} (hc:bV X (.type T) r) (cv:cV X R r) (hg:Gl X x) (hm:X.mg x=none) (hv:bootBuiltins x=some (.type T)) (ha:QA X (e :: es) tr) (hn:x ≠ "__name__":=by decide) (hdb:(x == ("__debug__" : Str))=false:=by decide)
  (he:starEach (e :: es) X.env=(false,eval e X.env) :: starEach es X.env:=by rfl) (hpl:(backTo pos (starEach es X.env)).any (·.1)=false:=by rfl):QE X (.Call (.Name x p2) (e :: es) [] pos) (aK R tr):=bO (C3 hc hg hm hv ha hn hdb he hpl) fun _ _ _=>u0 cv
theorem cC:dE X [] bT:=pF zF fun _ _ _=>P8
theorem aN (h1:QS X st t) (h2:dE X sts u):dE X (st :: sts) (aM t u):=pF (zG h1 h2) fun _ _ _=>P9
theorem aR (h1:QS X st t):dE X [st] t:=zH h1
theorem eD:QS X st eC:=dF zK fun _ _ _ ⟨_,_,_,_,h,_⟩=>h
theorem cQ {i:Nat}{x:Str} (hN:X.N.Nodup) (he:QE X e te) (hi:X.N[i]? = some x:=by rfl) (hx:gQ X.env.scope x:=by first | exact Or.inl rfl | exact Or.inr rfl) (hs:swapsWith e (some (.Name x p2)) pos.line X.env=pure false:=by rfl) (hf:X.fn x=true ∨ X.env.scope.names.lookup x=some .local:=by first | exact .inl rfl | exact .inr rfl) :
  QS X (.Assign [.Name x p2] e pos) (bP i te):=dF (sD hN hi hx he hs hf) fun _ _ _=>p6
theorem uO {i:Nat}{x:Str} (hN:X.N.Nodup) (he:QE X e te) (hi:X.N[i]? = some x:=by rfl) (hx:gQ X.env.scope x:=by first | exact Or.inl rfl | exact Or.inr rfl) (hs:swapsWith e (some (.Name x p2)) pos.line X.env=pure false:=by rfl) (hf:X.fn x=true ∨ X.env.scope.names.lookup x=some .local:=by first | exact .inl rfl | exact .inr rfl) :
  QS X (.Assign [.Name x p2] e pos) (lL i te):=dF (sD hN hi hx he hs hf) fun _ _ _=>Q3
theorem T9 (i:Nat) (h:QS X st t):QS X st (p7 i t):=dF h fun _ _ _=>Q4
theorem fD (he:QE X e te) (hs:swapsWith e none pos.line X.env=pure false:=by rfl):QS X (.Expr e pos) (eZ te):=dF (rZ he hs) fun _ _ _=>Q5
theorem cI (he:QE X e te):QS X (.Return (some e) pos) (c7 te):=dF (sA he) fun _ _ _=>Q6
theorem U0 (i:Nat) {x:Str} (hN:X.N[i]? = some x:=by rfl) (hv:iJ X.env.scope x:=by first | exact Or.inl rfl | exact Or.inr (Or.inl rfl) | exact Or.inr (Or.inr rfl)) (hd:(x == ("__debug__" : Str))=false:=by decide) (hcd:(x == ("__classdict__" : Str))=false:=by decide) :
  QS X (.Return (some (.Name x p2)) pos) (p9 i):=dF (sA (nR hN hv hd hcd)) fun _ _ _=>Q7
theorem cD {sa sb:List Stmt} (hc:QT X c tc) (ha:dE X sa t) (hb:dE X sb u):QS X (.If c sa sb pos) (bU tc t u):=dF (zI hc ha hb) fun _ _ _=>Q8
theorem pI (i:Nat) {x:Str}{apos cpos xpos:Pos} (he:QE X e te) (hN:X.N[i]? = some x:=by rfl) (hv:iJ X.env.scope x:=by first | exact Or.inl rfl | exact Or.inr (Or.inl rfl) | exact Or.inr (Or.inr rfl)) (hd:(x == ("__debug__" : Str))=false:=by decide) (hcd:(x == ("__classdict__" : Str))=false:=by decide)
  (hbase:attributeBase (.Name x xpos) "append" X.env (eval (.Name x xpos) X.env)=eval (.Name x xpos) X.env:=by rfl)
  (hfew:((backTo cpos (starEach [e] X.env)).all (fun x=>!x.1) && (backToKw cpos (keywordEach [] X.env)).all (fun x=>x.1.isSome) && decide (([e]:List Expr).length+([]:List Keyword).length+(if ([]:List Keyword).isEmpty then 0 else 1) < 30))=true:=by rfl)
  (hline:(apos.endLine == cpos.line)=true:=by rfl) (hs:starEach [e] X.env=(false,eval e X.env) :: starEach [] X.env:=by rfl) (hplain:(backTo cpos (starEach [] X.env)).any (·.1)=false:=by rfl)
  (hsw:swapsWith (.Call (.Attribute (.Name x xpos) "append" apos) [e] [] cpos) none pos.line X.env=pure false:=by rfl) :
  QS X (.Expr (.Call (.Attribute (.Name x xpos) "append" apos) [e] [] cpos) pos) (iR i te):=
 dF (rZ (J5 PySem.F.plainAttrs_list PySem.F.slot_list_append PySem.F.type_list_append tD (nR hN hv hd hcd) (fO he iM hs) hbase hfew hline hs hplain) hsw) fun _ _ _=>Q9
theorem U1 {tg l:Expr}{tl:TE} (hl:PE X l tl):PI X tg l (uA X.K tl):=by
 intro pins s σ H R I h
 refine aJ (hl pins s σ H _ I h) fun v s1 ⟨x,H1,I1,r1,q1⟩=>?_
 obtain ⟨a,e,q⟩:=q1
 subst e
 cases r1
 rcases q with ⟨xs,hq,q⟩ | ⟨xs,hq,q⟩
 ·obtain ⟨its,rv,p,hz⟩:=I1.list hq
  refine wpAny_pyIter_list p.isList ?_
  refine⟨s1.heap.objs.size,[s1.heap.objs.size],_,_,H1,rfl,I1.kept (t':=s1.toks) fun b o e=>ao3 _ e,zN a _,⟨_,aq8 _ rfl,rfl,rfl⟩,fun b hb=>?_,q⟩
  have e:b=s1.heap.objs.size:=by simpa using hb
  subst e
  exact I1.fpOk (ao8 _) (I1.hok.fresh (ao8 _))
 ·obtain ⟨its,rv,p,hz⟩:=I1.tuple hq
  refine wpAny_pyIter_tuple (show s1.heap.IsTuple a its.toArray from p) ?_
  refine⟨s1.heap.objs.size,[s1.heap.objs.size],_,_,H1,rfl,I1.kept (t':=s1.toks) fun b o e=>ao3 _ e,zO a _,⟨_,aq8 _ rfl,rfl,rfl⟩,fun b hb=>?_,q⟩
  have e:b=s1.heap.objs.size:=by simpa using hb
  subst e
  exact I1.fpOk (ao8 _) (I1.hok.fresh (ao8 _))
theorem jV {tg l:Expr} (hl:QE X l te):QI X tg l (gX te):=pG (U1 hl) fun _ _ _=>R8
theorem jW {tg:Expr} (hg:Gl X "range") (hm:X.mg "range" = none) (ha:QE X a ta) (hs:starEach [a] X.env = [(false,eval a X.env)]:=by rfl):QI X tg (.Call (.Name "range" p2) [a] [] pos) (gY ta):=pG (zR hg hm (fO ha iM hs) hs) fun _ _ _=>S0
theorem U2 {tg:Expr}{body:List Stmt}{ti:dP}{p:gJ}{g:TG}{own:Nat->Prop} (hp:PassesOwn (model X.prog X.w) X.A X.env X.xe) (hc:X.calm=true) (hi:QI X tg e ti) (hg:PG X tg g) (ht:jQ X.K own p g) (hb:dE X body t)
  (hs:∀ x,foldedSetIterable e X.env x=pure x:=by intro _; rfl):QS X (.For tg e body [] pos) (fC ti p t):=dF (zT hp hc hi hg hb hs) fun _ _ _=>S3 ht
end
section
variable {X : Cx} {pins : List (Addr × Obj)} {σ : St} {H : Hp} {s : Shared} {K : PySem.W.Frag} {M M' : Addr → Prop}
theorem iO.inj {a:Addr}{us ws:List V} (h:iO K a us) (h':iO K a ws):us=ws:=by
 obtain ⟨o,its,n,e1,_,e2,_,v⟩:=h
 obtain ⟨o',its',n',e1',_,e2',_,v'⟩:=h'
 rw [e1] at e1'; cases e1'
 rw [e2] at e2'; cases e2'
 exact v.inj v'
theorem Reps.self_of {n:Nat} (ih:∀ {v:V}{x y:PV},aB K M H v x->aB K M' H v y->bK n x y=true->b7 n x y=true):∀ {vs:List V}{xs ys:List PV},Reps K M H vs xs->Reps K M' H vs ys->((xs.zip ys).all fun p=>bK n p.1 p.2)=true->(((xs.zip ys).all fun p=>b7 n p.1 p.2) && xs.length == ys.length)=true
 | _,_,_,.nil,.nil,_=>rfl
 | _,_,_,.cons r t,.cons r' t',o=>by
  simp only [av4,aA8,aw7] at o
  have h1:=ih r r' o.1
  have h2:=Reps.self_of ih t t' o.2
  simp only [av4,aA8,h1,Bool.true_and,au7] at h2 ⊢
  rw [<- h2]
  congr 1
  simp
theorem aB.self:∀ (n:Nat) {v:V}{x y:PV},aB K M H v x->aB K M' H v y->bK n x y=true->b7 n x y=true:=by
 intro n
 induction n with
 | zero=>
  intro v x y r r' o
  cases r with
  | non=>cases r'; rfl
  | bl b=>cases r'; exact at7 b
  | int i=>cases r'; exact at7 i
  | str z=>cases r'; exact at7 z
  | _=>cases o
 | succ n ih=>
  intro v x y r r' o
  cases r with
  | non=>cases r'; rfl
  | bl b=>cases r'; exact at7 b
  | int i=>cases r'; exact at7 i
  | str z=>cases r'; exact at7 z
  | tup h rr=>
   cases r' with
   | tup h' rr'=>rw [h] at h'; cases h'; exact Reps.self_of ih rr rr' o
   | _=>cases o
  | lst _ h rr=>
   cases r' with
   | lst _ h' rr'=>rw [h] at h'; cases h'; exact Reps.self_of ih rr rr' o
   | _=>cases o
  | kt h rr=>
   cases r' with
   | kt h' rr'=>cases iO.inj h h'; exact Reps.self_of ih rr rr' o
   | _=>cases o
  | _=>cases o
theorem Reps.self (n:Nat) {vs:List V}{xs ys:List PV} (r:Reps K M H vs xs) (r':Reps K M' H vs ys) (o:((xs.zip ys).all fun p=>bK n p.1 p.2)=true):(((xs.zip ys).all fun p=>b7 n p.1 p.2) && xs.length == ys.length)=true:=Reps.self_of (aB.self n) r r' o
theorem gA (n:Nat) (xs ys:List PV):(List.range (min xs.length ys.length)).all (fun j=>b7 n (xs.getD j .non) (ys.getD j .non))=(xs.zip ys).all fun p=>b7 n p.1 p.2:=by
 rw [az8]
 simp only [ay7,List.mem_range]
 constructor
 ·intro h p hp
  obtain ⟨j,hj,e⟩:=av0 hp
  have hj':j < min xs.length ys.length:=by simpa using hj
  have:=h j hj'
  rw [List.getElem_zip] at e
  subst e
  have h1:j < xs.length:=by lia
  have h2:j < ys.length:=by lia
  simpa [ap5,h1,h2] using this
 ·intro h j hj
  have h1:j < xs.length:=by lia
  have h2:j < ys.length:=by lia
  have hz:j < (xs.zip ys).length:=by simp; lia
  have:=h _ (aw8 hz)
  rw [List.getElem_zip] at this
  simpa [ap5,h1,h2] using this
theorem U3 (I:a5 X pins σ H s):∀ (n:Nat) {A:Around}{v w:V}{x y:PV}{a b:Value},A.units+n < cLine->aB X.K M H v x->aB X.K M' H w y->aP v a->aP w b->bK n x y=true->SeqAt.EqAt A s a b (b7 n x y):=by
 intro n
 induction n with
 | zero=>
  intro A v w x y a b hu rx ry ra rb o
  cases rx with
  | non=>
   cases ra
   cases ry with
   | non=>cases rb; exact SeqAt.EqAt.same _
   | int i=>obtain ⟨t',rfl⟩:=rb; exact SeqAt.EqAt.none_int _ _
   | _=>cases o
  | bl i=>
   cases ra
   cases ry with
   | bl j=>cases rb; exact SeqAt.EqAt.bool_bool _ _
   | _=>cases o
  | int i=>
   obtain ⟨t,rfl⟩:=ra
   cases ry with
   | int j=>obtain ⟨t',rfl⟩:=rb; exact SeqAt.EqAt.int_int _ _ _ _
   | non=>cases rb; exact SeqAt.EqAt.int_none _ _
   | _=>cases o
  | str i=>
   obtain ⟨t,rfl⟩:=ra
   cases ry with
   | str j=>obtain ⟨t',rfl⟩:=rb; exact SeqAt.EqAt.str_str _ _ _ _
   | _=>cases o
  | _=>cases o
 | succ n ih=>
  intro A v w x y a b hu rx ry ra rb o
  have items:∀ {us ws:List V}{xs ys:List PV}{its its2:List Value},Reps X.K M H us xs->Reps X.K M' H ws ys->aF us its->aF ws its2->((xs.zip ys).all fun p=>bK n p.1 p.2)=true->
    ∀ j (h1:j < its.toArray.size) (h2:j < its2.toArray.size),SeqAt.EqAt A.in1 s its.toArray[j] its2.toArray[j] (b7 n (xs.getD j .non) (ys.getD j .non)):=fun {us ws xs ys its its2} r1 r2 v1 v2 ok j h1 h2=>by
   have l1:=v1.length
   have l2:=v2.length
   have m1:=r1.length
   have m2:=r2.length
   have k1:j < its.length:=by simpa using h1
   have k2:j < its2.length:=by simpa using h2
   have j1:j < us.length:=by lia
   have j2:j < ws.length:=by lia
   have i1:j < xs.length:=by lia
   have i2:j < ys.length:=by lia
   obtain ⟨u,hu',ru⟩:=v1.get (ao6 j1)
   obtain ⟨u2,hu2',ru2⟩:=v2.get (ao6 j2)
   obtain ⟨x,hx,rx⟩:=r1.get (ao6 j1)
   obtain ⟨y,hy,ry⟩:=r2.get (ao6 j2)
   have e1:its.toArray[j]=u:=by
    rw [ao6 k1] at hu'
    simpa using hu'
   have e2:its2.toArray[j]=u2:=by
    rw [ao6 k2] at hu2'
    simpa using hu2'
   have ok':bK n x y=true:=by
    rw [ay7] at ok
    have hz:j < (xs.zip ys).length:=by simp; lia
    have:=ok _ (aw8 hz)
    rw [List.getElem_zip] at this
    rw [ao6 i1] at hx
    rw [ao6 i2] at hy
    cases hx; cases hy
    exact this
   rw [e1,e2]
   have g1:xs.getD j .non=x:=by rw [ap5,hx]; rfl
   have g2:ys.getD j .non=y:=by rw [ap5,hy]; rfl
   rw [g1,g2]
   exact ih (by show A.units+1+n < cLine; lia) rx ry ru ru2 ok'
  have huA:A.units < cLine:=by lia
  cases rx with
  | @kt p us xs h1 r1=>
   obtain ⟨its,v1,p1,_⟩:=I.tuple (.inr h1)
   cases (show a=Value.ref p from ra)
   cases ry with
   | @kt p2 ws ys h2 r2=>
    obtain ⟨its2,v2,p2',_⟩:=I.tuple (.inr h2)
    cases (show b=Value.ref p2 from rb)
    by_cases e:p=p2
    ·subst e
     have:=aB.self (K:=X.K) (M:=M) (M':=M') (n+1) (.kt h1 r1) (.kt h2 r2) o
     rw [this]
     exact SeqAt.EqAt.same _
    ·have:=SeqAt.RcAt.tuples p1 p2' huA (items r1 r2 v1 v2 o)
     refine .of_refs e ?_
     have l1:=v1.length
     have l2:=v2.length
     have m1:=r1.length
     have m2:=r2.length
     rw [ao4,ao4,<- l1,<- l2,m1,m2,gA] at this
     exact this
   | _=>cases o
  | @tup p us xs h1 r1=>
   obtain ⟨its,v1,p1,_⟩:=I.tuple (aE.of (K:=X.K) h1)
   cases (show a=Value.ref p from ra)
   cases ry with
   | @tup p2 ws ys h2 r2=>
    obtain ⟨its2,v2,p2',_⟩:=I.tuple (aE.of (K:=X.K) h2)
    cases (show b=Value.ref p2 from rb)
    by_cases e:p=p2
    ·subst e
     have:=aB.self (K:=X.K) (M:=M) (M':=M') (n+1) (.tup h1 r1) (.tup h2 r2) o
     rw [this]
     exact SeqAt.EqAt.same _
    ·have:=SeqAt.RcAt.tuples p1 p2' huA (items r1 r2 v1 v2 o)
     refine .of_refs e ?_
     have l1:=v1.length
     have l2:=v2.length
     have m1:=r1.length
     have m2:=r2.length
     rw [ao4,ao4,<- l1,<- l2,m1,m2,gA] at this
     exact this
   | non=>cases rb; exact SeqAt.EqAt.tuple_none p1 huA
   | _=>cases o
  | @lst p us xs _ h1 r1=>
   obtain ⟨its,v1,p1,_⟩:=I.list (aG.of (K:=X.K) h1)
   cases (show a=Value.ref p from ra)
   cases ry with
   | @lst p2 ws ys _ h2 r2=>
    obtain ⟨its2,v2,p2',_⟩:=I.list (aG.of (K:=X.K) h2)
    cases (show b=Value.ref p2 from rb)
    have l1:=v1.length
    have l2:=v2.length
    have m1:=r1.length
    have m2:=r2.length
    by_cases e:p=p2
    ·subst e
     rw [h1] at h2; cases h2
     have:=Reps.self n r1 r2 o
     show SeqAt.EqAt A s _ _ ((xs.zip ys).all (fun p=>b7 n p.1 p.2) && xs.length == ys.length)
     rw [this]
     exact SeqAt.EqAt.same _
    ·refine .of_refs e ?_
     by_cases hl:xs.length=ys.length
     ·have:=SeqAt.RcAt.lists p1.isList p2'.isList (by rw [ao4,ao4]; lia) huA (items r1 r2 v1 v2 o)
      have hm:min xs.length ys.length=its.length:=by lia
      rw [ao4,<- hm,gA] at this
      show SeqAt.RcAt A s _ _ ((xs.zip ys).all (fun p=>b7 n p.1 p.2) && xs.length == ys.length)
      rw [show (xs.length == ys.length)=true by simpa using hl,Bool.and_true]
      exact this
     ·have:=SeqAt.RcAt.lists_lengths (A:=A) p1.isList p2'.isList (by rw [ao4,ao4]; simp; lia) huA
      show SeqAt.RcAt A s _ _ ((xs.zip ys).all (fun p=>b7 n p.1 p.2) && xs.length == ys.length)
      rw [show (xs.length == ys.length)=false by simpa using hl,Bool.and_false]
      exact this
   | _=>cases o
  | non=>
   cases ra
   cases ry with
   | non=>cases rb; exact SeqAt.EqAt.same _
   | int i=>obtain ⟨t',rfl⟩:=rb; exact SeqAt.EqAt.none_int _ _
   | @tup p2 ws ys h2 r2=>
    obtain ⟨its2,v2,p2',_⟩:=I.tuple (aE.of (K:=X.K) h2)
    cases (show b=Value.ref p2 from rb)
    exact SeqAt.EqAt.none_tuple p2' huA
   | _=>cases o
  | bl i=>
   cases ra
   cases ry with
   | bl j=>cases rb; exact SeqAt.EqAt.bool_bool _ _
   | _=>cases o
  | int i=>
   obtain ⟨t,rfl⟩:=ra
   cases ry with
   | int j=>obtain ⟨t',rfl⟩:=rb; exact SeqAt.EqAt.int_int _ _ _ _
   | non=>cases rb; exact SeqAt.EqAt.int_none _ _
   | _=>cases o
  | str i=>
   obtain ⟨t,rfl⟩:=ra
   cases ry with
   | str j=>obtain ⟨t',rfl⟩:=rb; exact SeqAt.EqAt.str_str _ _ _ _
   | _=>cases o
  | _=>cases o
end
structure Bt (mg:Str->Option Value):Prop where
 len:mg "len" = none
 range:mg "range" = none
 tuple:mg "tuple" = none
 list:mg "list" = none
 sorted:mg "sorted" = none
 all:mg "all" = none
 any:mg "any" = none
 zip:mg "zip" = none
 min:mg "min" = none
 max:mg "max" = none
 sum:mg "sum" = none
 isinst:mg "isinstance" = none
 int:mg "int" = none
 bool:mg "bool" = none
 enum:mg "enumerate" = none
section
variable {X : Cx} {a b c e o : Expr} {es bY : List Expr} {ta tb te to tk : aA} {tr : bJ} {tA tB' tc : bS} {pos p2 px : Pos} {st : Stmt} {sts : List Stmt} {t u : aL}
theorem fE (B:Bt X.mg) (ha:QA X [e] tr) (hg:Gl X "len":=by rfl) (he:starEach [e] X.env=(false,eval e X.env) :: starEach [] X.env:=by rfl) (hpl:(backTo pos (starEach [] X.env)).any (·.1)=false:=by rfl):QE X (.Call (.Name "len" p2) [e] [] pos) (aK eB tr):=
 i6 (J1.or L5) R3 hg B.len PySem.boot_len ha (he:=he) (hpl:=hpl)
theorem lY (B:Bt X.mg) (ha:QA X [e] tr) (hg:Gl X "tuple":=by rfl) (he:starEach [e] X.env=(false,eval e X.env) :: starEach [] X.env:=by rfl) (hpl:(backTo pos (starEach [] X.env)).any (·.1)=false:=by rfl):QE X (.Call (.Name "tuple" p2) [e] [] pos) (aK jS tr):=
 uN J3 R4 hg B.tuple PyProof.Rows.boot_tuple ha (he:=he) (hpl:=hpl)
theorem uP (B:Bt X.mg) (ha:QA X [e] tr) (hg:Gl X "list":=by rfl) (he:starEach [e] X.env=(false,eval e X.env) :: starEach [] X.env:=by rfl) (hpl:(backTo pos (starEach [] X.env)).any (·.1)=false:=by rfl):QE X (.Call (.Name "list" p2) [e] [] pos) (aK lM tr):=
 uN J2 R5 hg B.list PyProof.Rows.boot_list ha (he:=he) (hpl:=hpl)
theorem U4 (B:Bt X.mg) (hc:X.calm=true) (ha:QA X [e] tr) (hg:Gl X "all":=by rfl) (he:starEach [e] X.env=(false,eval e X.env) :: starEach [] X.env:=by rfl) (hpl:(backTo pos (starEach [] X.env)).any (·.1)=false:=by rfl):QE X (.Call (.Name "all" p2) [e] [] pos) (aK pC tr):=
 i6 (N8 hc) R6 hg B.all PyProof.Rows.boot_all ha (he:=he) (hpl:=hpl)
theorem pJ (ha:QE X a ta):QE X (.UnaryOp .USub a pos) (lR ta):=bO (zW A4 ha) fun σ H Q' h=>by
 obtain ⟨W,ρ,Q,px,q,k⟩:=h
 refine⟨W,ρ,_,px,q,?_⟩
 rintro v H1 x g s r ⟨i,rfl,q⟩
 cases r
 exact⟨i,rfl,k _ _ _ .fr s (.int _) q⟩
theorem aB.kt_ {K:PySem.W.Frag}{M:Addr->Prop}{H:Hp}{v:V}{xs:List PV} (r:aB K M H v (.kt xs)):∃ a us,v = .ref a/\iO K a us/\Reps K M H us xs:=by
 cases r with
 | kt h r=>exact⟨_,_,rfl,h,r⟩
noncomputable def uQ (K:PySem.W.Frag) (H:Hp) (x:V) (t:Value):Prop:=dC K H x t ∨ ∃ a us,x = .ref a/\aE K H a us/\t = .type "tuple"
theorem U5:bV X (.builtin "isinstance") (fun xs H Q=>∃ x t n b,xs = [x,.ty n]/\uQ X.K H x t/\PySem.W.kitOne X.K t (.type n)=some b/\Q (.bl b) H):=by
 intro pins s σ H xs us Q I r h
 obtain ⟨x,t,n,b,rfl,ty,e,q⟩:=h
 rcases ty with ty | ⟨a,ws,rfl,hs,rfl⟩
 ·exact M7 pins s σ H _ us Q I r ⟨x,t,n,b,rfl,ty,e,q⟩
 obtain ⟨u,u',rfl,ru,ru'⟩:=o4 r
 cases ru'
 cases (show u=Value.ref a from ru)
 obtain ⟨its,_,⟨o,h1,h2,_⟩,_⟩:=I.tuple hs
 exact as4 PySem.W.kitx_tuple I.kIn ⟨o,h1,h2⟩ e (fun z=>nomatch z) fun tk=>⟨.bl b,H,I.tok tk,rfl,q⟩
theorem U6 {K:PySem.W.Frag}{M:Addr->Prop}{H:Hp}{v:V}{x:PV}{T:String} (r:aB K M H v x) (e:uJ x=some T):uQ K H v (.type T):=by
 cases r with
 | non=>cases e; exact .inl .non
 | bl b=>cases e; exact .inl (.bl b)
 | int i=>cases e; exact .inl (.int i)
 | str i=>cases e; exact .inl (.str i)
 | tup h _=>cases e; exact .inl (.tup h)
 | lst _ h _=>cases e; exact .inl (.lst h)
 | kt h _=>cases e; exact .inr ⟨_,_,rfl,.inr h,rfl⟩
 | _=>cases e
theorem pK {x:Str}{n:String} (B:Bt X.mg) (hn:bootBuiltins x=some (.type n)) (hm:X.mg x=none) (ha:QE X a ta) (hg:Gl X "isinstance":=by rfl) (hgx:Gl X x:=by rfl) (hx:x ≠ "__name__":=by decide) (hdx:(x == ("__debug__" : Str))=false:=by decide)
  (he:starEach [a,.Name x px] X.env=(false,eval a X.env) :: starEach [.Name x px] X.env:=by rfl) (he2:starEach [.Name x px] X.env=(false,eval (.Name x px) X.env) :: starEach [] X.env:=by rfl) (hpl:(backTo pos (starEach [.Name x px] X.env)).any (·.1)=false:=by rfl):QE X (.Call (.Name "isinstance" p2) [a,.Name x px] [] pos) (gK X.K n ta):=
 bO (oC U5 hg B.isinst PyProof.Rows.boot_isinstance (fO ha (fO (rR (v:=.ty n) hgx hm hn rfl hx hdx) iM he2) he) (he:=he) (hpl:=hpl)) fun σ H Q' h=>by
  obtain ⟨W,ρ,Q,px,q,k⟩:=h
  refine⟨W,ρ,_,px,q,?_⟩
  rintro v H1 x g s r ⟨T,b,e,kt,q⟩
  exact⟨v,_,n,b,rfl,U6 r e,kt,k _ _ _ .fr s (.bl _) q⟩
theorem U7 (B:Bt X.mg) (ha:QE X a ta) (hg:Gl X "isinstance":=by rfl) (hgx:Gl X "int":=by rfl)
  (he:starEach [a,.Name "int" px] X.env=(false,eval a X.env) :: starEach [.Name "int" px] X.env:=by rfl) (he2:starEach [.Name "int" px] X.env=(false,eval (.Name "int" px) X.env) :: starEach [] X.env:=by rfl) (hpl:(backTo pos (starEach [.Name "int" px] X.env)).any (·.1)=false:=by rfl):QE X (.Call (.Name "isinstance" p2) [a,.Name "int" px] [] pos) (gK X.K "int" ta):=pK B PyProof.Rows.boot_int B.int ha (hg:=hg) (hgx:=hgx) (he:=he) (he2:=he2) (hpl:=hpl)
theorem U8 (B:Bt X.mg) (ha:QE X a ta) (hg:Gl X "isinstance":=by rfl) (hgx:Gl X "bool":=by rfl)
  (he:starEach [a,.Name "bool" px] X.env=(false,eval a X.env) :: starEach [.Name "bool" px] X.env:=by rfl) (he2:starEach [.Name "bool" px] X.env=(false,eval (.Name "bool" px) X.env) :: starEach [] X.env:=by rfl) (hpl:(backTo pos (starEach [.Name "bool" px] X.env)).any (·.1)=false:=by rfl):QE X (.Call (.Name "isinstance" p2) [a,.Name "bool" px] [] pos) (gK X.K "bool" ta):=pK B PyProof.Rows.boot_bool B.bool ha (hg:=hg) (hgx:=hgx) (he:=he) (he2:=he2) (hpl:=hpl)
theorem uR (B:Bt X.mg) (ha:QE X a ta) (hg:Gl X "isinstance":=by rfl) (hgx:Gl X "tuple":=by rfl)
  (he:starEach [a,.Name "tuple" px] X.env=(false,eval a X.env) :: starEach [.Name "tuple" px] X.env:=by rfl) (he2:starEach [.Name "tuple" px] X.env=(false,eval (.Name "tuple" px) X.env) :: starEach [] X.env:=by rfl) (hpl:(backTo pos (starEach [.Name "tuple" px] X.env)).any (·.1)=false:=by rfl):QE X (.Call (.Name "isinstance" p2) [a,.Name "tuple" px] [] pos) (gK X.K "tuple" ta):=pK B PyProof.Rows.boot_tuple B.tuple ha (hg:=hg) (hgx:=hgx) (he:=he) (he2:=he2) (hpl:=hpl)
noncomputable def pL (K:PySem.W.Frag) (n:Nat) (neg:Bool):R2:=fun v w H Q=>∃ x y,aB K (fun _=>True) H v x/\aB K (fun _=>True) H w y/\((∃ xs ys,x = .tup xs/\y = .tup ys) ∨ (∃ xs ys,x = .lst xs/\y = .lst ys) ∨ (∃ xs ys,x = .kt xs/\y = .kt ys))/\bK (n+1) x y=true/\Q (.bl (if neg=true then !b7 (n+1) x y else b7 (n+1) x y)) H
theorem iX {pins:List (Addr × Obj)}{σ:St}{H:Hp}{s:Shared}{M M':Addr->Prop} (I:a5 X pins σ H s) {n:Nat}{A:Around} (hu:A.units+(n+1) < cLine) {us ws:List V}{xs ys:List PV}{its its2:List Value} (r1:Reps X.K M H us xs) (r2:Reps X.K M' H ws ys) (v1:aF us its) (v2:aF ws its2)
  (ok:((xs.zip ys).all fun p=>bK n p.1 p.2)=true):∀ j (h1:j < its.toArray.size) (h2:j < its2.toArray.size),SeqAt.EqAt A.in1 s its.toArray[j] its2.toArray[j] (b7 n (xs.getD j .non) (ys.getD j .non)):=by
 intro j h1 h2
 have l1:=v1.length
 have l2:=v2.length
 have m1:=r1.length
 have m2:=r2.length
 have k1:j < its.length:=by simpa using h1
 have k2:j < its2.length:=by simpa using h2
 have j1:j < us.length:=by lia
 have j2:j < ws.length:=by lia
 have i1:j < xs.length:=by lia
 have i2:j < ys.length:=by lia
 obtain ⟨u,hu',ru⟩:=v1.get (ao6 j1)
 obtain ⟨u2,hu2',ru2⟩:=v2.get (ao6 j2)
 obtain ⟨x,hx,rx⟩:=r1.get (ao6 j1)
 obtain ⟨y,hy,ry⟩:=r2.get (ao6 j2)
 have e1:its.toArray[j]=u:=by
  rw [ao6 k1] at hu'
  simpa using hu'
 have e2:its2.toArray[j]=u2:=by
  rw [ao6 k2] at hu2'
  simpa using hu2'
 have ok':bK n x y=true:=by
  rw [ay7] at ok
  have hz:j < (xs.zip ys).length:=by simp; lia
  have:=ok _ (aw8 hz)
  rw [List.getElem_zip] at this
  rw [ao6 i1] at hx
  rw [ao6 i2] at hy
  cases hx; cases hy
  exact this
 rw [e1,e2]
 have g1:xs.getD j .non=x:=by rw [ap5,hx]; rfl
 have g2:ys.getD j .non=y:=by rw [ap5,hy]; rfl
 rw [g1,g2]
 exact U3 I n (by show A.units+1+n < cLine; lia) rx ry ru ru2 ok'
theorem ao0 (n:Nat) (hu:X.A.units+(n+1) < cLine):bA X (compareOp .Eq) (pL X.K n false):=by
 intro pins s σ H v w a b Q I ra rb h
 obtain ⟨x,y,rx,ry,kd,o,q⟩:=h
 have hu0:X.A.units < cLine:=by lia
 rcases kd with ⟨xs,ys,rfl,rfl⟩ | ⟨xs,ys,rfl,rfl⟩ | ⟨xs,ys,rfl,rfl⟩
 ·obtain ⟨p,us,rfl,h1,r1⟩:=rx.sqT
  obtain ⟨p2,ws,rfl,h2,r2⟩:=ry.sqT
  cases ra; cases rb
  obtain ⟨its,v1,p1,_⟩:=I.tuple (aE.of (K:=X.K) h1)
  obtain ⟨its2,v2,p2',_⟩:=I.tuple (aE.of (K:=X.K) h2)
  have l1:=v1.length
  have l2:=v2.length
  have m1:=r1.length
  have m2:=r2.length
  have:=SeqAt.RcAt.tuples p1 p2' hu0 (iX I hu r1 r2 v1 v2 o)
  rw [ao4,ao4,<- l1,<- l2,m1,m2,gA] at this
  exact this _ _ _ _ ⟨.bl _,H,I,rfl,q⟩
 ·obtain ⟨p,us,rfl,_,h1,r1⟩:=rx.sqL
  obtain ⟨p2,ws,rfl,_,h2,r2⟩:=ry.sqL
  cases ra; cases rb
  obtain ⟨its,v1,p1,_⟩:=I.list (aG.of (K:=X.K) h1)
  obtain ⟨its2,v2,p2',_⟩:=I.list (aG.of (K:=X.K) h2)
  have l1:=v1.length
  have l2:=v2.length
  have m1:=r1.length
  have m2:=r2.length
  have q:Q (.bl ((xs.zip ys).all (fun p=>b7 n p.1 p.2) && xs.length == ys.length)) H:=q
  by_cases hl:xs.length=ys.length
  ·have:=SeqAt.RcAt.lists p1.isList p2'.isList (by rw [ao4,ao4]; lia) hu0 (iX I hu r1 r2 v1 v2 o)
   have hm:min xs.length ys.length=its.length:=by lia
   rw [ao4,<- hm,gA] at this
   rw [show (xs.length == ys.length)=true by simpa using hl,Bool.and_true] at q
   exact this _ _ _ _ ⟨.bl _,H,I,rfl,q⟩
  ·have:=SeqAt.RcAt.lists_lengths (A:=X.A) p1.isList p2'.isList (by rw [ao4,ao4]; simp; lia) hu0
   rw [show (xs.length == ys.length)=false by simpa using hl,Bool.and_false] at q
   exact this _ _ _ _ ⟨.bl _,H,I,rfl,q⟩
 ·obtain ⟨p,us,rfl,h1,r1⟩:=rx.kt_
  obtain ⟨p2,ws,rfl,h2,r2⟩:=ry.kt_
  cases ra; cases rb
  obtain ⟨its,v1,p1,_⟩:=I.tuple (.inr h1)
  obtain ⟨its2,v2,p2',_⟩:=I.tuple (.inr h2)
  have l1:=v1.length
  have l2:=v2.length
  have m1:=r1.length
  have m2:=r2.length
  have:=SeqAt.RcAt.tuples p1 p2' hu0 (iX I hu r1 r2 v1 v2 o)
  rw [ao4,ao4,<- l1,<- l2,m1,m2,gA] at this
  exact this _ _ _ _ ⟨.bl _,H,I,rfl,q⟩
theorem U9 (n:Nat) (hu:X.A.units+(n+1) < cLine):bA X (compareOp .NotEq) (pL X.K n true):=by
 intro pins s σ H v w a b Q I ra rb h
 obtain ⟨x,y,rx,ry,kd,o,q⟩:=h
 have hu0:X.A.units < cLine:=by lia
 rcases kd with ⟨xs,ys,rfl,rfl⟩ | ⟨xs,ys,rfl,rfl⟩ | ⟨xs,ys,rfl,rfl⟩
 ·obtain ⟨p,us,rfl,h1,r1⟩:=rx.sqT
  obtain ⟨p2,ws,rfl,h2,r2⟩:=ry.sqT
  cases ra; cases rb
  obtain ⟨its,v1,p1,_⟩:=I.tuple (aE.of (K:=X.K) h1)
  obtain ⟨its2,v2,p2',_⟩:=I.tuple (aE.of (K:=X.K) h2)
  have l1:=v1.length
  have l2:=v2.length
  have m1:=r1.length
  have m2:=r2.length
  have:=SeqAt.RcNeAt.tuples p1 p2' hu0 (iX I hu r1 r2 v1 v2 o)
  rw [ao4,ao4,<- l1,<- l2,m1,m2,gA] at this
  exact this _ _ _ _ ⟨.bl _,H,I,rfl,q⟩
 ·obtain ⟨p,us,rfl,_,h1,r1⟩:=rx.sqL
  obtain ⟨p2,ws,rfl,_,h2,r2⟩:=ry.sqL
  cases ra; cases rb
  obtain ⟨its,v1,p1,_⟩:=I.list (aG.of (K:=X.K) h1)
  obtain ⟨its2,v2,p2',_⟩:=I.list (aG.of (K:=X.K) h2)
  have l1:=v1.length
  have l2:=v2.length
  have m1:=r1.length
  have m2:=r2.length
  have q:Q (.bl (!((xs.zip ys).all (fun p=>b7 n p.1 p.2) && xs.length == ys.length))) H:=q
  by_cases hl:xs.length=ys.length
  ·have:=SeqAt.RcNeAt.lists p1.isList p2'.isList (by rw [ao4,ao4]; lia) hu0 (iX I hu r1 r2 v1 v2 o)
   have hm:min xs.length ys.length=its.length:=by lia
   rw [ao4,<- hm,gA] at this
   rw [show (xs.length == ys.length)=true by simpa using hl,Bool.and_true] at q
   exact this _ _ _ _ ⟨.bl _,H,I,rfl,q⟩
  ·have:=SeqAt.RcNeAt.lists_lengths (A:=X.A) p1.isList p2'.isList (by rw [ao4,ao4]; simp; lia) hu0
   rw [show (xs.length == ys.length)=false by simpa using hl,Bool.and_false] at q
   exact this _ _ _ _ ⟨.bl _,H,I,rfl,q⟩
 ·obtain ⟨p,us,rfl,h1,r1⟩:=rx.kt_
  obtain ⟨p2,ws,rfl,h2,r2⟩:=ry.kt_
  cases ra; cases rb
  obtain ⟨its,v1,p1,_⟩:=I.tuple (.inr h1)
  obtain ⟨its2,v2,p2',_⟩:=I.tuple (.inr h2)
  have l1:=v1.length
  have l2:=v2.length
  have m1:=r1.length
  have m2:=r2.length
  have:=SeqAt.RcNeAt.tuples p1 p2' hu0 (iX I hu r1 r2 v1 v2 o)
  rw [ao4,ao4,<- l1,<- l2,m1,m2,gA] at this
  exact this _ _ _ _ ⟨.bl _,H,I,rfl,q⟩
theorem V0 {n:Nat}{neg:Bool}:cO X (hG n neg) (pL X.K n neg):=by
 rintro W Hs H u v x y g g' Q Q' s n r1 r2 ⟨kd,o,q⟩ k
 exact⟨x,y,r1.same (a9.refl _) fun _ _=>trivial,r2.same (a9.refl _) fun _ _=>trivial,kd.elim .inl fun z=>.inr (.inl z),o,k _ _ _ .fr (a9.refl _) (.bl _) q⟩
theorem jX (hu:X.A.units+3 < cLine) (ha:QE X a ta) (hb:QE X b tb):QT X (.Compare a [.NotEq] [b] pos) (aT (q2 (hG 2 true) ta tb)):=jT (U9 2 hu) V0 ha hb (iK _)
end
end PP
namespace PP
open PySem L2 PyProof.Rows
noncomputable def LO (X:Cx) (t:iU):TO:=fun σ H Q'=>∃ (W:Addr->Prop) (ρ:aX) (Q:Option Int->Prop),PX X.K X.H₀ W σ ρ H/\t ρ Q/\∀ o H',a9 H H'->Q o->Q' o H'
noncomputable def QO (X:Cx) (e:Option Expr) (t:iU):Prop:=PO X e (LO X t)
theorem Reps.cut {K:PySem.W.Frag}{M:Addr->Prop}{H:Hp}{us:List V}{xs:List PV} (r:Reps K M H us xs) (lo hi:Option Int):Reps K M H (eG us lo hi) (dQ xs lo hi):=by
 unfold eG dQ
 rw [r.length]
 exact (r.drop _).take _
section
variable {X : Cx} {a b c e o : Expr} {es bY : List Expr} {ta tb te to tk : aA} {tr : bJ} {tA tB' tc : bS} {pos p2 px : Pos} {st : Stmt} {sts : List Stmt} {t u : aL}
theorem iY:QO X none hI:=fun pins s σ H Q I h=>F0 pins s σ H Q I (by
 obtain ⟨W,ρ,Q1,px,q,k⟩:=h
 exact k _ _ (a9.refl _) q)
theorem iZ (h:QE X e te):QO X (some e) (hJ te):=fun pins s σ H Q I hq=>F1 h pins s σ H Q I (by
 obtain ⟨W,ρ,Q1,px,q,k⟩:=hq
 refine⟨W,ρ,_,px,q,?_⟩
 rintro v H1 x g s r ⟨i,rfl,q⟩
 cases r
 exact⟨i,rfl,k _ _ s q⟩)
theorem j4 {lo hi:Option Expr}{tl th:iU}{sp:Pos} (he:QE X e te) (hl:QO X lo tl) (hh:QO X hi th):QE X (.Subscript e (.Slice lo hi none sp) pos) (hU te tl th):=bO (F3 (J0.or O1) he hl hh) fun σ H Q' h=>by
 obtain ⟨W,ρ,Q,px,q,k⟩:=h
 refine⟨W,ρ,_,px,q,fun v H1 x g s1 r1 q1=>⟨W,ρ,_,px.mono s1,q1,fun lo H2 s2 q2=>⟨W,ρ,_,px.mono (s1.trans s2),q2,?_⟩⟩⟩
 rintro hi H3 s3 ⟨xs,e,f,q3⟩
 have S:=(s1.trans s2).trans s3
 have r3:=r1.same (M':=Mg X.H₀ W H g) (s2.trans s3) fun _ z=>z
 cases r3 with
 | tup h r=>
  cases e
  refine .inr ⟨_,_,rfl,aE.of h,fun p hp=>k _ _ _ .fr (S.trans (b8 hp _)) (.tup bL (((r.flat f).cut lo hi).same (b8 hp _) fun _ z=>z)) q3,fun ec=>k _ _ _ .fr S (.tup h ?_) q3⟩
  have:=(r.flat (M':=Mg X.H₀ W H .fr) f).cut lo hi
  rw [ec] at this
  exact this
 | lst m h r=>
  cases e
  exact .inl ⟨_,_,rfl,aG.of h,fun p hp=>k _ _ _ .fr (S.trans (b8 hp _)) (.lst (S.free hp) bL (((r.flat f).cut lo hi).same (b8 hp _) fun _ z=>z)) q3⟩
 | scr h=>
  cases e
  exact .inl ⟨_,_,rfl,h.sqL,fun p hp=>k _ _ _ .fr (S.trans (b8 hp _)) (.lst (S.free hp) bL (((Reps.intz _).cut lo hi).same (b8 hp _) fun _ z=>z)) q3⟩
 | _=>cases e
structure Df (P:Program) (w:World) (K:PySem.W.Frag) (mg:Str->Option Value) (base:Heap) (k:Nat) (x:Str) (ps:List Str) (p:c8):Prop where
 ex:∃ f fd,bZ P w K mg base dA k f fd ps (jP K p)/\fP K fd ps []/\PySem.W.keepIn K (.ref f)=true/\mg x=some (.ref f)
theorem dS {k j:Nat}{x:Str}{ps:List Str}{p:c8} (d:Df X.prog X.w X.K X.mg X.base k x ps p) (hr:bB j X.A) (ha:QA X (e :: es) tr) (hkj:k<=j:=by decide) (hg:Gl X x:=by rfl) (hdb:(x == ("__debug__" : Str))=false:=by decide)
  (he:starEach (e :: es) X.env=(false,eval e X.env) :: starEach es X.env:=by rfl) (hpl:(backTo pos (starEach es X.env)).any (·.1)=false:=by rfl):QE X (.Call (.Name x p2) (e :: es) [] pos) (aK p tr):=by
 obtain ⟨f,fd,F,b,kp,m⟩:=d.ex
 exact bO (oA F (hr.mono hkj) hg m kp b .nil K7 ha hdb he hpl) fun _ _ _=>R7
theorem pM {K:PySem.W.Frag}{H:Hp}{N:List Str}{vs:List V}{xs:List PV} (r:Reps K (fun _=>True) H vs xs):PX K H (fun _=>False) (L2.e8 N vs) (dD N xs) H:=by
 have lr:=r.length
 have own:∀ {i:Nat}{m:Slot},(dD N xs)[i]? = some (some m)->∃ x,xs[i]? = some x/\m = .sh (flat x) x:=fun {i m} h=>by
  unfold dD at h
  by_cases hi:i < xs.length
  ·rw [aw5 (by simpa using hi),ar2] at h
   rw [ao6 hi] at h ⊢
   cases h
   exact⟨_,rfl,rfl⟩
  ·rw [ay9 (by simpa using hi),List.getElem?_replicate] at h
   split at h <;> cases h
 refine⟨by unfold L2.e8 dD; simp [lr],a9.refl _,fun a z=>z.elim,fun i m h=>?_,fun i j x y a h1=>?_⟩
 ·obtain ⟨x,hx,rfl⟩:=own h
  obtain ⟨v,hv,rx⟩:=r.at hx
  refine⟨v,?_,lO (g:=false) (rx.same (a9.refl _) fun _ _ z=>z)⟩
  have hi:i < vs.length:=(aq7.mp hv).1
  unfold L2.e8
  rw [aw5 (by simpa using hi),ar2,hv]; rfl
 ·obtain ⟨x,_,e⟩:=own h1
  cases e
theorem Df.of {P:Program}{w:World}{K:PySem.W.Frag}{mg:Str->Option Value}{base:Heap}{k:Nat}{x:Str}{ps N:List Str}{p:c8}{st:Stmt}{f:Addr}{fd:FuncData} (F:dJ K x x st f fd) (m:mg x=some (.ref f)) (S:FnScope N ps (aO st))
  (hb:∀ (kV doc pm:Value) (an:Option Addr) (cdv ct:Value) (us:List Value),us.length=ps.length->bindArgs (PySem.W.fnOf x x (fR st) (cS st) (aO st) .none kV doc pm an cdv ct) ⟨us,[]⟩=pure (ps.zip us))
  (len:∀ xs Q,p xs Q->xs.length=ps.length)
  (body:∀ (cdv:Value) (A:Around) (outer:List Env) (s:Shared) (H:Hp) (E:XK),bB k (A.deeper (envOfC x (aO st) s.heap.objs.size f cdv))->
   ∃ t,dE (bW dA P w K mg base N x (aO st) f cdv A outer s H E).nox (cS st) t/\∀ xs Q,p xs Q->t { nx:=fun _=>Q .non,rt:=Q } (dD N xs)):Df P w K mg base (k+1) x ps p:=by
 refine⟨f,fd,F.ok S (fun vs H Q E h=>?_) (fun cdv A outer s H vs Q E hr h=>?_),F.binds hb,F.kp,m⟩
 ·obtain ⟨xs,Qp,r,q,_⟩:=h
  rw [r.length]; exact len xs Qp q
 ·obtain ⟨xs,Qp,r,q,k⟩:=h
  obtain ⟨t,ht,hq⟩:=body cdv A outer s H E hr
  refine⟨_,ht,fun _=>False,dD N xs,_,pM r,hq xs Qp q,?_,?_,?_,?_⟩
  ·exact fun W' σ' H' ρ' e px q=>k _ _ _ px.same .non q
  ·exact fun v H' x s r q=>k _ _ _ s r q
  ·exact fun W' σ' H' ρ' e px q=>q
  ·exact fun W' σ' H' ρ' e px q=>q
theorem i7 (i:Nat) {x:Str}{tp:Pos}{body:List Stmt}{ti:dP} (hN:X.N.Nodup) (hi:QI X (.Name x tp) e ti) (hb:dE X body t) (hx:X.N[i]? = some x:=by rfl) (hl:gQ X.env.scope x:=by first | exact Or.inl rfl | exact Or.inr rfl) (hf:X.fn x=true ∨ X.env.scope.names.lookup x=some .local:=by first | exact .inl rfl | exact .inr rfl)
  (hp:PassesOwn (model X.prog X.w) X.A X.env X.xe:=by exact PassesOwn.never) (hc:X.calm=true:=by rfl) (hs:∀ x,foldedSetIterable e X.env x=pure x:=by intro _; rfl):QS X (.For (.Name x tp) e body [] pos) (fC ti (cX i) t):=
 U2 hp hc hi (kS hN hx hl hf) (lP _ i) hb hs
noncomputable abbrev bX:Value->Shared->Prop:=fun _ _=>False
section
variable {scope : Scope} {N : List Str} {fr : List (Option Nat)} {x y : Str} {tp xp yp : Pos} {kt : Nat} {iter elt : Expr} {ti : dP}
theorem pN {ifs:List Expr}{tcs:bS} (he:∀ (s:Shared) (H:Hp) (C:Addr) (fp:List Addr),QE (bE X scope N s H C fp bX) elt te) (hi:∀ (s:Shared) (H:Hp) (C:Addr) (fp:List Addr),gW (bE X scope N s H C fp bX) ifs (LT (bE X scope N s H C fp bX) tcs))
  (hN:N.Nodup) (h0:N[0]? = some x) (hl:∀ (s:Shared) (H:Hp) (C:Addr) (fp:List Addr),(bE X scope N s H C fp bX).env.scope.names.lookup x=some .local) (s:Shared) (H:Hp) :
  jL X scope N (.Name x tp) ifs elt s H (cR 0) (LT (X.frm H) tcs) (LE (X.frm H) te):=
 ⟨fun C fp=>kS (X:=bE X scope N s H C fp bX) hN h0 (.inl (hl s H C fp)) (.inr (hl s H C fp)),fun C fp=>hi s H C fp,fun C fp=>he s H C fp⟩
theorem pO {Y:Cx}:gW Y [] (LT Y eM):=fun pins s σ H Q I h=>L8 pins s σ H Q I (S5 h)
theorem V1 (hi:QI X (.Name x tp) iter ti) (he:∀ (s:Shared) (H:Hp) (C:Addr) (fp:List Addr),QE (bE X scope N s H C fp bX) elt te)
  (hc:X.calm=true:=by rfl) (S:cT X scope N fr:=by exact cT.of rfl rfl) (hN:N.Nodup:=by decide +kernel) (h0:N[0]? = some x:=by rfl) (hl:∀ (s:Shared) (H:Hp) (C:Addr) (fp:List Addr),(bE X scope N s H C fp bX).env.scope.names.lookup x=some .local:=by intro _ _ _ _; rfl) (hf:fr[0]? = some none:=by rfl)
  (hs:∀ x,foldedSetIterable iter X.env x=pure x:=by intro _; rfl):QE X (.ListComp elt [⟨.Name x tp,iter,[],0⟩] scope pos) (fY ti fr (cX 0) eM te):=
 bO (tO (gh:=fun _=>cR 0) (tch:=fun H=>LT (X.frm H) eM) (teh:=fun H=>LE (X.frm H) te) hc S hi (pN he (fun _ _ _ _=>pO) hN h0 hl) hs) fun _ _ _=>lQ (lP _ 0) (fun i e=>by subst e; exact hf)
theorem V2 {i:Nat}{z:Str}{zp:Pos} (nd:X.N.Nodup) (hi:QI X (.Name x tp) iter ti) (he:∀ (s:Shared) (H:Hp) (C:Addr) (fp:List Addr),QE (bE X scope N s H C fp bX) elt te)
  (hz:X.N[i]? = some z:=by rfl) (hzl:X.env.scope.names.lookup z=some .local:=by rfl) (hsw:swapsWith (.ListComp elt [⟨.Name x tp,iter,[],0⟩] scope p2) (some (.Name z zp)) pos.line X.env=pure true:=by rfl)
  (hc:X.calm=true:=by rfl) (S:cT X scope N fr:=by exact cT.of rfl rfl) (hN:N.Nodup:=by decide +kernel) (h0:N[0]? = some x:=by rfl) (hl:∀ (s:Shared) (H:Hp) (C:Addr) (fp:List Addr),(bE X scope N s H C fp bX).env.scope.names.lookup x=some .local:=by intro _ _ _ _; rfl) (hf:fr[0]? = some none:=by rfl)
  (hs:∀ x,foldedSetIterable iter X.env x=pure x:=by intro _; rfl):QS X (.Assign [.Name z zp] (.ListComp elt [⟨.Name x tp,iter,[],0⟩] scope p2) pos) (bP i (fY ti fr (cX 0) eM te)):=
 dF (tP (gh:=fun _=>cR 0) (tch:=fun H=>LT (X.frm H) eM) (teh:=fun H=>LE (X.frm H) te) hc S hi (pN he (fun _ _ _ _=>pO) hN h0 hl) nd hz hzl hsw hs) fun D σ H h=>lQ (lP _ 0) (fun i e=>by subst e; exact hf) (p6 h)
theorem V3 {c:Expr}{tcs:bS}{i:Nat}{z:Str}{zp:Pos} (nd:X.N.Nodup) (hi:QI X (.Name x tp) iter ti) (ht:∀ (s:Shared) (H:Hp) (C:Addr) (fp:List Addr),QT (bE X scope N s H C fp bX) c tcs) (he:∀ (s:Shared) (H:Hp) (C:Addr) (fp:List Addr),QE (bE X scope N s H C fp bX) elt te)
  (hz:X.N[i]? = some z:=by rfl) (hzl:X.env.scope.names.lookup z=some .local:=by rfl) (hsw:swapsWith (.ListComp elt [⟨.Name x tp,iter,[c],0⟩] scope p2) (some (.Name z zp)) pos.line X.env=pure true:=by rfl)
  (hc:X.calm=true:=by rfl) (S:cT X scope N fr:=by exact cT.of rfl rfl) (hN:N.Nodup:=by decide +kernel) (h0:N[0]? = some x:=by rfl) (hl:∀ (s:Shared) (H:Hp) (C:Addr) (fp:List Addr),(bE X scope N s H C fp bX).env.scope.names.lookup x=some .local:=by intro _ _ _ _; rfl) (hf:fr[0]? = some none:=by rfl)
  (hs:∀ x,foldedSetIterable iter X.env x=pure x:=by intro _; rfl):QS X (.Assign [.Name z zp] (.ListComp elt [⟨.Name x tp,iter,[c],0⟩] scope p2) pos) (bP i (fY ti fr (cX 0) tcs te)):=
 dF (tP (gh:=fun _=>cR 0) (tch:=fun H=>LT (X.frm H) tcs) (teh:=fun H=>LE (X.frm H) te) hc S hi (pN he (fun s H C fp=>L9 (ht s H C fp)) hN h0 hl) nd hz hzl hsw hs) fun D σ H h=>lQ (lP _ 0) (fun i e=>by subst e; exact hf) (p6 h)
end
end
end PP
namespace SO
open PySem PyProof.Rows
section
variable (rk : Keyed → Int)
noncomputable def Kr (xs:Array Keyed) (i:Nat):Int:=((xs[i]?).map rk).getD 0
noncomputable def Up (xs:Array Keyed) (lo hi:Nat):Prop:=∀ i j,lo<=i->i<=j->j < hi->Kr rk xs i<=Kr rk xs j
noncomputable def Dn (xs:Array Keyed) (lo hi:Nat):Prop:=∀ i j,lo<=i->i<=j->j < hi->Kr rk xs j<=Kr rk xs i
end
variable {rk : Keyed → Int}
theorem i8 {xs ys:Array Keyed}{i j:Nat} (h:xs[i]? = ys[j]?):Kr rk xs i=Kr rk ys j:=by unfold Kr; rw [h]
theorem lZ {xs:Array Keyed}{i j:Nat} (hj:j<=xs.size) (k:Nat):Kr rk (mirror xs i j ((j - i) / 2)) k=Kr rk xs (if i<=k/\k < j then i+j - 1 - k else k):=by
 refine i8 ?_
 rw [getElem?_mirror_all hj]
 split <;> rfl
theorem pP {xs:Array Keyed}{i j:Nat} (hj:j<=xs.size) (e:∀ k,i<=k->k < j->Kr rk xs k=Kr rk xs (j - 1)) (k:Nat):Kr rk (mirror xs i j ((j - i) / 2)) k=Kr rk xs k:=by
 rw [lZ hj]
 split
 ·rename_i h; rw [e k h.1 h.2,e _ (by lia) (by lia)]
 ·rfl
theorem V4 {xs:Array Keyed}{src d:Nat} (hs:src < xs.size) (hd:d<=src) (k:Nat):Kr rk (bubble xs src d) k=Kr rk xs (if k=src - d then src else if src - d < k/\k<=src then k - 1 else k):=by
 refine i8 ?_
 rw [getElem?_bubble hs d hd]
 repeat' split
 all_goals rfl
structure SB (κ:SortKind) (a0:Array Keyed) (pd:Array (Nat × Nat × Nat)) (st:SortSt):Prop where
 pm:(arrOf st).Perm a0
 kd:kindOf st=κ
 ok:failedOf st=none
 pd:pendingOf st=pd
section
variable {κ : SortKind} {a0 : Array Keyed} {pd : Array (Nat × Nat × Nat)} {st : SortSt} {prog : Program} {w : World} {A : Around} {E : Value → Shared → Prop} {s : Shared} {Ok : Keyed → Prop}
theorem SB.sz (h:SB κ a0 pd st):(arrOf st).size=a0.size:=h.pm.size_eq
theorem SB.put (h:SB κ a0 pd st) {xs:Array Keyed} (hp:xs.Perm (arrOf st)):SB κ a0 pd (setArr st xs):=⟨hp.trans h.pm,h.kd,h.ok,h.pd⟩
noncomputable def bG (prog:Program) (w:World) (A:Around) (E:Value->Shared->Prop) (s:Shared) (κ:SortKind) (Ok:Keyed->Prop) (rk:Keyed->Int):Prop:=
 ∀ (x y:Keyed),Ok x->Ok y->∀ (st:SortSt) (Q:Option Bool->SortSt->Prop),kindOf st=κ->Q (some (decide (rk x < rk y))) st->wpS (model prog w) A E s (lt' x y) Q st
noncomputable def aY (Ok:Keyed->Prop) (xs:Array Keyed):Prop:=∀ x ∈ xs,Ok x
theorem SB.all (h:SB κ a0 pd st) (o:aY Ok a0):aY Ok (arrOf st):=fun x hx=>o x (h.pm.mem_iff.mp hx)
theorem bQ {xs:Array Keyed}{i:Nat}{Q:Keyed->SortSt->Prop} (hi:i < xs.size) (h:Q xs[i] st):wpS (model prog w) A E s (elem' xs i) Q st:=by
 rw [elem'_eq,getElem?_pos xs i hi]; exact ap2 h
theorem bC {xs:Array Keyed}{i:Nat} (hi:i < xs.size):Kr rk xs i=rk xs[i]:=by unfold Kr; rw [getElem?_pos xs i hi]; rfl
theorem jY (c:bG prog w A E s κ Ok rk) (o:aY Ok a0) (b:SB κ a0 pd st) {i j:Nat}{Q:Option Bool->SortSt->Prop} (hi:i < a0.size) (hj:j < a0.size)
  (h:Q (some (decide (Kr rk (arrOf st) i < Kr rk (arrOf st) j))) st):wpS (model prog w) A E s (ltAt' i j) Q st:=by
 have hi':i < (arrOf st).size:=by rw [b.sz]; exact hi
 have hj':j < (arrOf st).size:=by rw [b.sz]; exact hj
 rw [ltAt'_eq]
 refine ao7 (wpS_get (ao7 (bQ hi' (ao7 (bQ hj' ?_)))))
 refine c _ _ (b.all o _ (ar6 hi')) (b.all o _ (ar6 hj')) st Q b.kd ?_
 rw [<- bC (rk:=rk) hi',<- bC (rk:=rk) hj']; exact h
theorem m3 {i j:Nat}{Q:Unit->SortSt->Prop} (h:Q () (setArr st (mirror (arrOf st) i j ((j - i) / 2)))):wpS (model prog w) A E s (reverseSlice' i j) Q st:=by
 rw [reverseSlice'_eq]; exact wpS_modify h
noncomputable abbrev CS:=Option (Option Nat) × Nat
noncomputable abbrev DS:=Option (Option Nat) × Nat × Nat
noncomputable def jZ (lo b nrem:Nat):StateT SortSt Sem CS:=forIn [b:nrem] ((none,b):CS) fun _ r=>do
 match <- ltAt' (lo+r.2) (lo+r.2 - 1) with
 | some q=>if q=true then pure (ForInStep.done (none,r.2)) else pure (ForInStep.yield (none,r.2+1))
 | _=>pure (ForInStep.done (some none,r.2))
noncomputable def pQ (lo b nrem:Nat):StateT SortSt Sem DS:=forIn [b:nrem] ((none,b,0):DS) fun _ r=>do
 match <- ltAt' (lo+r.2.1) (lo+r.2.1 - 1) with
 | some q=>
  if q=true then (if r.2.2 > 0 then do reverseSlice' (lo+r.2.1 - (r.2.2+1)) (lo+r.2.1); pure (ForInStep.yield (none,r.2.1+1,0)) else pure (ForInStep.yield (none,r.2.1+1,0)))
  else do
   match <- ltAt' (lo+r.2.1 - 1) (lo+r.2.1) with
   | some q=>if q=true then pure (ForInStep.done (none,r.2.1,r.2.2)) else pure (ForInStep.yield (none,r.2.1+1,r.2.2+1))
   | _=>pure (ForInStep.done (some none,r.2.1,r.2.2))
 | _=>pure (ForInStep.done (some none,r.2.1,r.2.2))
theorem uS (c:bG prog w A E s κ Ok rk) (o:aY Ok a0) (b:SB κ a0 pd st) {lo n nrem:Nat}{Q:CS->SortSt->Prop} (hz:lo+nrem<=a0.size) (h1:1<=n) (hn:n<=nrem) (u:Up rk (arrOf st) lo (lo+n))
  (h:∀ m,n<=m->m<=nrem->Up rk (arrOf st) lo (lo+m)->(m=nrem ∨ Kr rk (arrOf st) (lo+m) < Kr rk (arrOf st) (lo+m - 1))->Q (none,m) st):wpS (model prog w) A E s (jZ lo n nrem) Q st:=by
 unfold jZ
 refine au1 (I:=fun x r st'=>st'=st/\r=(none,x)/\Up rk (arrOf st) lo (lo+x)) ?_ ?_ ⟨rfl,rfl,u⟩
 ·rintro x r st' hx hx' ⟨rfl,rfl,u'⟩
  refine ao7 (jY c o b (by lia) (by lia) ?_)
  by_cases hq:Kr rk (arrOf st') (lo+x) < Kr rk (arrOf st') (lo+x - 1)
  ·rw [ap7 hq]
   exact ap2 (h x hx (by lia) u' (.inr hq))
  ·rw [ao5 hq]
   refine ap2 ⟨rfl,rfl,fun i j hi hij hj=>?_⟩
   rcases ar7 j (lo+x) with z | z
   ·exact u' i j hi hij z
   ·have ej:j=lo+x:=by lia
    subst ej
    rcases az4 hij with z | z
    ·rw [z]; exact aA2 _
    ·have:=u' i (lo+x - 1) hi (by lia) (by lia)
     lia
 ·rintro r st' ⟨rfl,rfl,u'⟩
  have em:max n nrem=nrem:=by lia
  rw [em] at u' ⊢
  exact h nrem hn (ao8 _) u' (.inl rfl)
structure k4 (rk:Keyed->Int) (xs ys:Array Keyed) (lo m q:Nat):Prop where
 dn:Dn rk ys lo (lo+m)
 le:q+1<=m
 eq:∀ i,lo+m - (q+1)<=i->i < lo+m->Kr rk ys i=Kr rk ys (lo+m - 1)
 low:∀ i,i < lo->Kr rk ys i=Kr rk xs i
theorem V5 (c:bG prog w A E s κ Ok rk) (o:aY Ok a0) (b:SB κ a0 pd st) {lo n nrem:Nat}{xs:Array Keyed}{Q:DS->SortSt->Prop} (hz:lo+nrem<=a0.size) (h1:1<=n) (hn:n<=nrem) (u:k4 rk xs (arrOf st) lo n 0)
  (h:∀ m q st',SB κ a0 pd st'->n<=m->m<=nrem->k4 rk xs (arrOf st') lo m q->Q (none,m,q) st'):wpS (model prog w) A E s (pQ lo n nrem) Q st:=by
 unfold pQ
 refine au1 (I:=fun x r st'=>∃ q,r=(none,x,q)/\SB κ a0 pd st'/\k4 rk xs (arrOf st') lo x q) ?_ ?_ ⟨0,rfl,b,u⟩
 ·rintro x r st' hx hx' ⟨q,rfl,b',f⟩
  have sz:=b'.sz
  dsimp only
  refine ao7 (jY c o b' (by lia) (by lia) ?_)
  by_cases hq:Kr rk (arrOf st') (lo+x) < Kr rk (arrOf st') (lo+x - 1)
  ·rw [ap7 hq]
   have nx:∀ ys:Array Keyed,(∀ k,Kr rk ys k=Kr rk (arrOf st') k)->k4 rk xs ys lo (x+1) 0:=fun ys e=>by
    refine⟨fun i j hi hij hj=>?_,by lia,fun i h1 h2=>by rw [show i=lo+(x+1) - 1 by lia],fun i hi=>(e i).trans (f.low i hi)⟩
    rw [e,e]
    rcases ar7 j (lo+x) with z | z
    ·exact f.dn i j hi hij z
    ·have ej:j=lo+x:=by lia
     subst ej
     rcases az4 hij with z | z
     ·rw [z]; exact aA2 _
     ·have:=f.dn i (lo+x - 1) hi (by lia) (by lia)
      lia
   dsimp only
   rw [if_pos rfl]
   by_cases hp:q > 0
   ·rw [if_pos hp]
    exact ao7 (m3 (ap2 ⟨0,rfl,b'.put (mirror_perm _ _ _ _),nx _ (pP (by lia) f.eq)⟩))
   ·rw [if_neg hp]
    exact ap2 ⟨0,rfl,b',nx _ fun _=>rfl⟩
  ·rw [ao5 hq]
   dsimp only
   rw [if_neg aq5]
   refine ao7 (jY c o b' (by lia) (by lia) ?_)
   by_cases hl:Kr rk (arrOf st') (lo+x - 1) < Kr rk (arrOf st') (lo+x)
   ·rw [ap7 hl]
    exact ap2 (h x q st' b' hx (by lia) f)
   ·rw [ao5 hl]
    have ex:Kr rk (arrOf st') (lo+x)=Kr rk (arrOf st') (lo+x - 1):=by lia
    refine ap2 ⟨q+1,rfl,b',fun i j hi hij hj=>?_,by have:=f.le; lia,fun i h1 h2=>?_,f.low⟩
    ·rcases ar7 j (lo+x) with z | z
     ·exact f.dn i j hi hij z
     ·have ej:j=lo+x:=by lia
      subst ej
      rcases az4 hij with z | z
      ·rw [z]; exact aA2 _
      ·rw [ex]; exact f.dn i (lo+x - 1) hi (by lia) (by lia)
    ·rw [show lo+(x+1) - 1=lo+x by lia]
     rcases ar7 i (lo+x) with z | z
     ·rw [ex]; exact f.eq i (by lia) z
     ·rw [show i=lo+x by lia]
 ·rintro r st' ⟨q,rfl,b',f⟩
  have em:max n nrem=nrem:=by lia
  rw [em] at f ⊢
  exact h nrem q st' b' hn (ao8 _) f
theorem uT (c:bG prog w A E s κ Ok rk) (o:aY Ok a0) (b:SB κ a0 pd st) {lo nrem:Nat} (n:Nat) {xs:Array Keyed}{Q:Option Nat->SortSt->Prop}{K:DS->StateT SortSt Sem (Option Nat)}{k:CS->StateT SortSt Sem (Option Nat)} (hz:lo+nrem<=a0.size) (hn:n+1<=nrem)
  (hK:∀ m q,K (none,m,q)=if q > 0 then reverseSlice' (lo+m - (q+1)) (lo+m) >>= fun _=>reverseSlice' lo (lo+m) >>= fun _=>jZ lo m nrem >>= k else reverseSlice' lo (lo+m) >>= fun _=>jZ lo m nrem >>= k)
  (hk:∀ m,k (none,m)=pure (some m)) (u:k4 rk xs (arrOf st) lo (n+1) 0)
  (h:∀ m st',SB κ a0 pd st'->1<=m->m<=nrem->Up rk (arrOf st') lo (lo+m)->(∀ i,i < lo->Kr rk (arrOf st') i=Kr rk xs i)->Q (some m) st'):wpS (model prog w) A E s (liftM (rule "list.sort.descending-run") >>= fun _=>pQ lo (n+1) nrem >>= K) Q st:=by
 refine ao7 (wpS_lift (az2 ⟨rfl,?_⟩))
 refine ao7 (V5 c o b hz (by lia) hn u fun m q st1 b1 m1 m2 f=>?_)
 have fin:∀ st2:SortSt,SB κ a0 pd st2->(∀ k,Kr rk (arrOf st2) k=Kr rk (arrOf st1) k)->
   wpS (model prog w) A E s (reverseSlice' lo (lo+m) >>= fun _=>jZ lo m nrem >>= k) Q st2:=fun st2 b2 e=>by
  have sz:=b2.sz
  have low:∀ i,i < lo->Kr rk (mirror (arrOf st2) lo (lo+m) ((lo+m - lo) / 2)) i=Kr rk xs i:=fun i hi=>by
   rw [lZ (by lia),if_neg (by lia),e]
   exact f.low i hi
  refine ao7 (m3 (ao7 (uS (κ:=κ) c o (b2.put (mirror_perm _ _ _ _)) hz (by lia) m2 ?_ fun m' h1 h2 up _=>by rw [hk]; exact ap2 (h m' _ (b2.put (mirror_perm _ _ _ _)) (by lia) h2 up low))))
  ·intro i j hi hij hj
   show Kr rk (mirror (arrOf st2) lo (lo+m) _) i<=Kr rk (mirror (arrOf st2) lo (lo+m) _) j
   rw [lZ (by lia),lZ (by lia),if_pos (by lia),if_pos (by lia),e,e]
   exact f.dn _ _ (by lia) (by lia) (by lia)
 rw [hK]
 by_cases hp:q > 0
 ·rw [if_pos hp]
  have sz:=b1.sz
  exact ao7 (m3 (fin _ (b1.put (mirror_perm _ _ _ _)) (pP (by lia) f.eq)))
 ·rw [if_neg hp]
  exact fin st1 b1 fun _=>rfl
theorem V6 (c:bG prog w A E s κ Ok rk) (o:aY Ok a0) (b:SB κ a0 pd st) {lo nrem:Nat}{Q:Option Nat->SortSt->Prop} (hz:lo+nrem<=a0.size) (h1:1<=nrem)
  (h:∀ m st',SB κ a0 pd st'->1<=m->m<=nrem->Up rk (arrOf st') lo (lo+m)->(∀ i,i < lo->Kr rk (arrOf st') i=Kr rk (arrOf st) i)->Q (some m) st'):wpS (model prog w) A E s (countRun' lo nrem) Q st:=by
 rw [countRun'_eq]
 refine ao7 (uS (n:=1) c o b hz (ao8 _) h1 (fun i j hi hij hj=>by rw [show i=j by lia]; exact aA2 _) fun n n1 n2 un on=>?_)
 dsimp only
 by_cases en:(n == nrem)=true
 ·rw [if_pos en]
  exact ap2 (h n st b n1 n2 un fun _ _=>rfl)
 ·rw [if_neg en]
  have en':n ≠ nrem:=by simpa using en
  have lt:=on.resolve_left en'
  have sz:=b.sz
  by_cases g:n > 1
  ·rw [if_pos g]
   refine ao7 (jY c o b (by lia) (by lia) ?_)
   by_cases hq:Kr rk (arrOf st) lo < Kr rk (arrOf st) (lo+n - 1)
   ·rw [ap7 hq]
    exact ap2 (h n st b n1 n2 un fun _ _=>rfl)
   ·rw [ao5 hq]
    dsimp only
    rw [if_neg aq5]
    have all:∀ k,lo<=k->k < lo+n->Kr rk (arrOf st) k=Kr rk (arrOf st) (lo+n - 1):=fun k k1 k2=>by
     have a1:=un lo k (ao8 _) k1 k2
     have a2:=un k (lo+n - 1) k1 (by lia) (by lia)
     lia
    have sm:=pP (rk:=rk) (xs:=arrOf st) (i:=lo) (j:=lo+n) (by lia) all
    refine ao7 (m3 (uT (xs:=arrOf st) (κ:=κ) c o (b.put (mirror_perm _ _ _ _)) n hz (by lia) (fun _ _=>rfl) (fun _=>rfl) ⟨fun i j hi hij hj=>?_,by lia,fun i h1 h2=>by rw [show i=lo+(n+1) - 1 by lia],fun i _=>sm i⟩ h))
    show Kr rk (mirror (arrOf st) lo (lo+n) _) j<=Kr rk (mirror (arrOf st) lo (lo+n) _) i
    rw [sm,sm]
    rcases ar7 j (lo+n) with z | z
    ·rw [all i hi (by lia),all j (by lia) z]; exact aA2 _
    ·have ej:j=lo+n:=by lia
     subst ej
     rcases az4 hij with z | z
     ·rw [z]; exact aA2 _
     ·rw [all i hi (by lia)]; exact Int.le_of_lt lt
  ·rw [if_neg g]
   have e1:n=1:=by lia
   subst e1
   refine uT (xs:=arrOf st) c o b 1 hz (by lia) (fun _ _=>rfl) (fun _=>rfl) ⟨fun i j hi hij hj=>?_,by lia,fun i h1 h2=>by rw [show i=lo+(1+1) - 1 by lia],fun i _=>rfl⟩ h
   rcases az4 hij with z | z
   ·rw [z]; exact aA2 _
   ·have ei:i=lo+1 - 1:=by lia
    have ej:j=lo+1:=by lia
    rw [ei,ej]; exact Int.le_of_lt lt
theorem V7 (c:bG prog w A E s κ Ok rk) (o:aY Ok a0) (b:SB κ a0 pd st) {lo n q:Nat}{Q:Bool->SortSt->Prop} (hz:lo+n<=a0.size) (hq:q<=n) (u:Up rk (arrOf st) lo (lo+q))
  (h:∀ st',SB κ a0 pd st'->Up rk (arrOf st') lo (lo+n)->(∀ i,i < lo->Kr rk (arrOf st') i=Kr rk (arrOf st) i)->Q true st'):wpS (model prog w) A E s (binarySort' lo n q) Q st:=by
 rw [binarySort'_eq]
 refine ao7 (aA3 (au1 (I:=fun k r st'=>r=(none,())/\SB κ a0 pd st'/\Up rk (arrOf st') lo (lo+min k n)/\∀ i,i < lo->Kr rk (arrOf st') i=Kr rk (arrOf st) i)
  (Q:=fun r st'=>r=(none,())/\SB κ a0 pd st'/\Up rk (arrOf st') lo (lo+n)/\∀ i,i < lo->Kr rk (arrOf st') i=Kr rk (arrOf st) i) ?_ ?_ ?_) ?_)
 ·rintro k r st1 hk hkn ⟨rfl,b1,u1,l1⟩
  rw [show min k n=k by lia] at u1
  have hk0:lo+k < a0.size:=by lia
  have sz:=b1.sz
  refine ao7 (aA3 (au1 (I:=fun x r st'=>st'=st1/\∃ l g,r=(none,l,g)/\l<=g/\g<=k/\g - l<=k - x/\(∀ i,i < l->Kr rk (arrOf st1) (lo+i)<=Kr rk (arrOf st1) (lo+k))/\∀ i,g<=i->i < k->Kr rk (arrOf st1) (lo+k) < Kr rk (arrOf st1) (lo+i))
   (Q:=fun r st'=>st'=st1/\∃ l g,r=(none,l,g)/\l<=k/\(∀ i,i < l->Kr rk (arrOf st1) (lo+i)<=Kr rk (arrOf st1) (lo+k))/\∀ i,l<=i->i < k->Kr rk (arrOf st1) (lo+k) < Kr rk (arrOf st1) (lo+i)) ?_ ?_ ?_) ?_)
  ·rintro x r st2 _ hx ⟨rfl,l,g,rfl,d1,d2,d3,f1,f2⟩
   dsimp only
   by_cases hlg:l >= g
   ·rw [if_pos hlg]
    have e:g=l:=by lia
    subst e
    exact ap2 ⟨rfl,g,g,rfl,d2,f1,f2⟩
   ·rw [if_neg hlg]
    refine ao7 (jY c o b1 hk0 (by lia) ?_)
    by_cases hc:Kr rk (arrOf st2) (lo+k) < Kr rk (arrOf st2) (lo+(l+g) / 2)
    ·rw [ap7 hc]
     refine ap2 ⟨rfl,l,(l+g) / 2,rfl,by lia,by lia,by lia,f1,fun i i1 i2=>?_⟩
     have:=u1 (lo+(l+g) / 2) (lo+i) (by lia) (by lia) (by lia)
     lia
    ·rw [ao5 hc]
     refine ap2 ⟨rfl,(l+g) / 2+1,g,rfl,by lia,d2,by lia,fun i i1=>?_,f2⟩
     have:=u1 (lo+i) (lo+(l+g) / 2) (by lia) (by lia) (by lia)
     lia
  ·rintro r st2 ⟨rfl,l,g,rfl,d1,d2,d3,f1,f2⟩
   have e:g=l:=by lia
   subst e
   exact⟨rfl,g,g,rfl,d2,f1,f2⟩
  ·exact⟨rfl,0,k,rfl,by lia,by lia,by lia,fun i hi=>absurd hi (by lia),fun i i1 i2=>absurd i1 (by lia)⟩
  ·rintro r st2 ⟨rfl,l,g,rfl,d,f1,f2⟩
   dsimp only
   rw [moveDown'_eq]
   have kb:∀ i,Kr rk (bubble (arrOf st2) (lo+k) (lo+k - (lo+l))) i=Kr rk (arrOf st2) (if i=lo+l then lo+k else if lo+l < i/\i<=lo+k then i - 1 else i):=fun i=>by
    rw [V4 (by lia) (by lia),show lo+k - (lo+k - (lo+l))=lo+l by lia]
   refine ao7 (wpS_modify (ap2 ⟨rfl,b1.put (bubble_perm _ _ _),fun i j hi hij hj=>?_,fun i hi=>?_⟩))
   ·show Kr rk (bubble (arrOf st2) (lo+k) (lo+k - (lo+l))) i<=Kr rk (bubble (arrOf st2) (lo+k) (lo+k - (lo+l))) j
    rw [kb,kb]
    rw [show min (k+1) n=k+1 by lia] at hj
    have v1:∀ p,lo<=p->p < lo+l->Kr rk (arrOf st2) p<=Kr rk (arrOf st2) (lo+k):=fun p p1 p2=>by have:=f1 (p - lo) (by lia); rwa [show lo+(p - lo)=p by lia] at this
    have v2:∀ p,lo+l<=p->p < lo+k->Kr rk (arrOf st2) (lo+k) < Kr rk (arrOf st2) p:=fun p p1 p2=>by have:=f2 (p - lo) (by lia) (by lia); rwa [show lo+(p - lo)=p by lia] at this
    repeat' split
    all_goals first
     | (exfalso; lia)
     | exact aA2 _
     | exact v1 _ (by lia) (by lia)
     | exact Int.le_of_lt (v2 _ (by lia) (by lia))
     | exact u1 _ _ (by lia) (by lia) (by lia)
   ·show Kr rk (bubble (arrOf st2) (lo+k) (lo+k - (lo+l))) i=_
    rw [kb,if_neg (by lia),if_neg (by lia)]
    exact l1 i hi
 ·rintro r st1 ⟨rfl,b1,u1,l1⟩
  rw [show min (max (max q 1) n) n=n by lia] at u1
  exact⟨rfl,b1,u1,l1⟩
 ·refine⟨rfl,b,fun i j hi hij hj=>?_,fun _ _=>rfl⟩
  rcases ar7 j (lo+q) with z | z
  ·exact u i j hi hij z
  ·rw [show i=j by lia]; exact aA2 _
 ·rintro r st1 ⟨rfl,b1,u1,l1⟩
  exact ap2 (h st1 b1 u1 l1)
end
noncomputable def gN:Bool->Keyed->Array Keyed->Nat->Nat->Nat->StateT SortSt Sem (Option Nat):=sortPriv% PySem.Builtin.gallop
noncomputable def i9 (lf:Bool) (key:Keyed) (xs:Array Keyed) (bs i:Nat):StateT SortSt Sem (Option Bool):=do
 let z <- elem' xs (bs+i)
 if lf then lt' z key else return (<- lt' key z).map (!·)
theorem V8 (lf:Bool) (key:Keyed) (xs:Array Keyed) (bs n h:Nat):gN lf key xs bs n h=(do
 let mut la:=0
 let mut of:=1
 let mut l:=0
 let mut g:=0
 let some rt <- i9 lf key xs bs h | return none
 if rt then
  let mx:=n - h
  for _ in [0:n] do
   if of >= mx then break
   let some mr <- i9 lf key xs bs (h+of) | return none
   if !mr then break
   la:=of
   of:=2 * of+1
  l:=h+la+1
  g:=h+min of mx
 else
  let mx:=h+1
  for _ in [0:n] do
   if of >= mx then break
   let some fd <- i9 lf key xs bs (h - of) | return none
   if fd then break
   la:=of
   of:=2 * of+1
  l:=h+1 - min of mx
  g:=h - la
 for _ in [0:n] do
  if l >= g then break
  let m:=l+(g - l) / 2
  let some mr <- i9 lf key xs bs m | return none
  if mr then l:=m+1 else g:=m
 return some g):=rfl
section
variable {rk : Keyed → Int} {κ : SortKind} {st : SortSt} {prog : Program} {w : World} {A : Around} {E : Value → Shared → Prop} {s : Shared} {Ok : Keyed → Prop}
noncomputable def b9 (rk:Keyed->Int) (lf:Bool) (key:Keyed) (xs:Array Keyed) (bs i:Nat):Bool:=if lf then decide (Kr rk xs (bs+i) < rk key) else decide (Kr rk xs (bs+i)<=rk key)
theorem m5 (c:bG prog w A E s κ Ok rk) (hk:kindOf st=κ) {lf:Bool}{key:Keyed}{xs:Array Keyed}{bs i:Nat}{Q:Option Bool->SortSt->Prop} (ok:Ok key) (o:aY Ok xs) (hi:bs+i < xs.size)
  (h:Q (some (b9 rk lf key xs bs i)) st):wpS (model prog w) A E s (i9 lf key xs bs i) Q st:=by
 unfold i9
 refine ao7 (bQ hi ?_)
 unfold b9 at h
 rw [bC hi] at h
 cases lf with
 | true=>
  simp only [if_true] at h ⊢
  exact c _ _ (o _ (ar6 hi)) ok st Q hk h
 | false=>
  simp only [as8,aA1] at h ⊢
  refine ao7 (c _ _ ok (o _ (ar6 hi)) st _ hk (ap2 ?_))
  have e:(!decide (rk key < rk xs[bs+i]))=decide (rk xs[bs+i]<=rk key):=by
   by_cases z:rk xs[bs+i]<=rk key
   ·rw [ap7 z,ao5 (by lia)]; rfl
   ·rw [ao5 z,ap7 (by lia)]; rfl
  show Q (some (!decide (rk key < rk xs[bs+i]))) st
  rw [e]; exact h
noncomputable abbrev GS:=Option (Option Nat) × Nat × Nat
noncomputable def uU (lf:Bool) (key:Keyed) (xs:Array Keyed) (bs n l g:Nat):StateT SortSt Sem GS:=forIn [0:n] ((none,l,g):GS) fun _ r=>
 if r.2.1 >= r.2.2 then pure (ForInStep.done (none,r.2.1,r.2.2)) else do
  match <- i9 lf key xs bs (r.2.1+(r.2.2 - r.2.1) / 2) with
  | some q=>if q=true then pure (ForInStep.yield (none,r.2.1+(r.2.2 - r.2.1) / 2+1,r.2.2)) else pure (ForInStep.yield (none,r.2.1,r.2.1+(r.2.2 - r.2.1) / 2))
  | _=>pure (ForInStep.done (some none,r.2.1,r.2.2))
theorem uV (c:bG prog w A E s κ Ok rk) (hk:kindOf st=κ) {lf:Bool}{key:Keyed}{xs:Array Keyed}{bs n l g:Nat}{Q:GS->SortSt->Prop} (ok:Ok key) (o:aY Ok xs) (hz:bs+n<=xs.size)
  (mono:∀ i j,i<=j->j < n->b9 rk lf key xs bs j=true->b9 rk lf key xs bs i=true) (hlg:l<=g) (hg:g<=n) (h1:∀ i,i < l->b9 rk lf key xs bs i=true) (h2:∀ i,g<=i->i < n->b9 rk lf key xs bs i=false)
  (hq:∀ k,k<=n->(∀ i,i < k->b9 rk lf key xs bs i=true)->(∀ i,k<=i->i < n->b9 rk lf key xs bs i=false)->Q (none,k,k) st):wpS (model prog w) A E s (uU lf key xs bs n l g) Q st:=by
 unfold uU
 refine au1 (I:=fun x r st'=>st'=st/\∃ l g,r=(none,l,g)/\l<=g/\g<=n/\g - l<=n - x/\(∀ i,i < l->b9 rk lf key xs bs i=true)/\∀ i,g<=i->i < n->b9 rk lf key xs bs i=false) ?_ ?_ ⟨rfl,l,g,rfl,hlg,hg,by lia,h1,h2⟩
 ·rintro x r st' _ hx ⟨rfl,l,g,rfl,d1,d2,d3,f1,f2⟩
  dsimp only
  by_cases hc:l >= g
  ·rw [if_pos hc]
   have e:g=l:=by lia
   subst e
   exact ap2 (hq g d2 f1 f2)
  ·rw [if_neg hc]
   refine ao7 (m5 c hk ok o (by lia) ?_)
   cases z:b9 rk lf key xs bs (l+(g - l) / 2) with
   | true=>exact ap2 ⟨rfl,_,_,rfl,by lia,d2,by lia,fun i hi=>mono i (l+(g - l) / 2) (by lia) (by lia) z,f2⟩
   | false=>
    refine ap2 ⟨rfl,_,_,rfl,by lia,by lia,by lia,f1,fun i i1 i2=>?_⟩
    cases y:b9 rk lf key xs bs i with
    | false=>rfl
    | true=>rw [mono _ i i1 i2 y] at z; cases z
 ·rintro r st' ⟨rfl,l,g,rfl,d1,d2,d3,f1,f2⟩
  have e:g=l:=by lia
  subst e
  exact hq g d2 f1 f2
theorem j5 (c:bG prog w A E s κ Ok rk) (hk:kindOf st=κ) {lf:Bool}{key:Keyed}{xs:Array Keyed}{bs n h:Nat}{Q:Option Nat->SortSt->Prop} (ok:Ok key) (o:aY Ok xs) (hh:h < n) (hz:bs+n<=xs.size) (u:Up rk xs bs (bs+n))
  (hq:∀ k,k<=n->(∀ i,i < k->b9 rk lf key xs bs i=true)->(∀ i,k<=i->i < n->b9 rk lf key xs bs i=false)->Q (some k) st):wpS (model prog w) A E s (gN lf key xs bs n h) Q st:=by
 have mono:∀ i j,i<=j->j < n->b9 rk lf key xs bs j=true->b9 rk lf key xs bs i=true:=fun i j hij hj e=>by
  have:=u (bs+i) (bs+j) (by lia) (by lia) (by lia)
  unfold b9 at e ⊢
  cases lf with
  | true=>simp only [if_true,ar5] at e ⊢; lia
  | false=>simp only [as8,aA1,ar5] at e ⊢; lia
 have monf:∀ i j,i<=j->j < n->b9 rk lf key xs bs i=false->b9 rk lf key xs bs j=false:=fun i j hij hj e=>by
  cases z:b9 rk lf key xs bs j with
  | false=>rfl
  | true=>rw [mono i j hij hj z] at e; cases e
 rw [V8]
 refine ao7 (m5 c hk ok o (by lia) ?_)
 dsimp only
 cases z:b9 rk lf key xs bs h with
 | true=>
  rw [if_pos rfl]
  refine ao7 (aA3 (au1 (I:=fun x r st'=>st'=st/\∃ la of,r=(none,la,of)/\la < of/\x < of/\h+la < n/\b9 rk lf key xs bs (h+la)=true)
   (Q:=fun r st'=>st'=st/\∃ la of,r=(none,la,of)/\la < of/\h+la < n/\b9 rk lf key xs bs (h+la)=true/\(of < n - h->b9 rk lf key xs bs (h+of)=false)) ?_ ?_ ⟨rfl,0,1,rfl,by lia,by lia,by lia,z⟩) ?_)
  ·rintro x r st' _ hx ⟨rfl,la,of,rfl,d1,d2,d3,f⟩
   dsimp only
   by_cases hc:of >= n - h
   ·rw [if_pos hc]
    exact ap2 ⟨rfl,la,of,rfl,d1,d3,f,fun y=>absurd y (by lia)⟩
   ·rw [if_neg hc]
    refine ao7 (m5 c hk ok o (by lia) ?_)
    cases y:b9 rk lf key xs bs (h+of) with
    | true=>exact ap2 ⟨rfl,of,2 * of+1,rfl,by lia,by lia,by lia,y⟩
    | false=>exact ap2 ⟨rfl,la,of,rfl,d1,d3,f,fun _=>y⟩
  ·rintro r st' ⟨rfl,la,of,rfl,d1,d2,d3,f⟩
   exact⟨rfl,la,of,rfl,d1,d3,f,fun y=>absurd y (by lia)⟩
  ·rintro r st' ⟨rfl,la,of,rfl,d1,d3,f,ft⟩
   dsimp only
   refine ao7 (uV (l:=h+la+1) (g:=h+min of (n - h)) c hk ok o hz mono (by lia) (by lia) (fun i hi=>mono i (h+la) (by lia) d3 f) (fun i i1 i2=>?_) fun k k1 k2 k3=>ap2 (hq k k1 k2 k3))
   rcases ar7 of (n - h) with y | y
   ·exact monf (h+of) i (by lia) i2 (ft y)
   ·exact absurd i1 (by lia)
 | false=>
  rw [if_neg aq5]
  refine ao7 (aA3 (au1 (I:=fun x r st'=>st'=st/\∃ la of,r=(none,la,of)/\la < of/\x < of/\la<=h/\b9 rk lf key xs bs (h - la)=false)
   (Q:=fun r st'=>st'=st/\∃ la of,r=(none,la,of)/\la < of/\la<=h/\b9 rk lf key xs bs (h - la)=false/\(of < h+1->b9 rk lf key xs bs (h - of)=true)) ?_ ?_ ⟨rfl,0,1,rfl,by lia,by lia,by lia,z⟩) ?_)
  ·rintro x r st' _ hx ⟨rfl,la,of,rfl,d1,d2,d3,f⟩
   dsimp only
   by_cases hc:of >= h+1
   ·rw [if_pos hc]
    exact ap2 ⟨rfl,la,of,rfl,d1,d3,f,fun y=>absurd y (by lia)⟩
   ·rw [if_neg hc]
    refine ao7 (m5 c hk ok o (by lia) ?_)
    cases y:b9 rk lf key xs bs (h - of) with
    | false=>exact ap2 ⟨rfl,of,2 * of+1,rfl,by lia,by lia,by lia,y⟩
    | true=>exact ap2 ⟨rfl,la,of,rfl,d1,d3,f,fun _=>y⟩
  ·rintro r st' ⟨rfl,la,of,rfl,d1,d2,d3,f⟩
   exact⟨rfl,la,of,rfl,d1,d3,f,fun y=>absurd y (by lia)⟩
  ·rintro r st' ⟨rfl,la,of,rfl,d1,d3,f,ft⟩
   dsimp only
   refine ao7 (uV (l:=h+1 - min of (h+1)) (g:=h - la) c hk ok o hz mono (by lia) (by lia) (fun i hi=>?_) (fun i i1 i2=>monf (h - la) i i1 i2 f) fun k k1 k2 k3=>ap2 (hq k k1 k2 k3))
   rcases ar7 of (h+1) with y | y
   ·exact mono i (h - of) (by lia) (by lia) (ft y)
   ·exact absurd hi (by lia)
end
noncomputable def j6:Nat->StateT SortSt Sem Unit:=sortPriv% PySem.Builtin.setMinGallop
noncomputable def pR:Array Keyed->Array Keyed->StateT SortSt Sem (Array Keyed):=sortPriv% PySem.Builtin.mergeLo
theorem V9 (g:Nat):j6 g=modify (fun st=>SortSt.mk' (kindOf st) (arrOf st) (pendingOf st) g (failedOf st)):=rfl
noncomputable abbrev LS:=Option (Array Keyed) × Array Keyed × Nat × Nat × Nat × Nat × Nat
noncomputable abbrev pS:=Option (Array Keyed) × Array Keyed × Nat × Nat × Nat × Nat
noncomputable abbrev LO:=Option (Array Keyed) × Array Keyed × Nat × Nat × Nat
noncomputable def m6 (x y o:Array Keyed) (i j mg p q:Nat):StateT SortSt Sem (ForInStep LS):=do
 let v <- elem' x i
 if (i+1+1 == x.size)=true then pure (.done (some (o.push v ++ y.extract j y.size ++ x.extract (i+1) x.size),o.push v,i+1,j,mg,p,q))
 else if (decide (p < 7) && decide (q < 7))=true then pure (.done (none,o.push v,i+1,j,mg,p,q)) else pure (.yield (none,o.push v,i+1,j,mg,p,q))
noncomputable def m7 (x y o:Array Keyed) (i j mg p q:Nat):StateT SortSt Sem (ForInStep LS):=do
 let v <- elem' y j
 if (j+1 == y.size)=true then pure (.done (some (o.push v ++ x.extract i x.size ++ y.extract (j+1) y.size),o.push v,i,j+1,mg,p,q)) else do
  let u <- elem' x i
  match <- gN true u y (j+1) (y.size - (j+1)) 0 with
  | some k=>
   if k > 0 then
    if (j+1+k == y.size)=true then pure (.done (some (o.push v ++ y.extract (j+1) (j+1+k) ++ x.extract i x.size ++ y.extract (j+1+k) y.size),o.push v ++ y.extract (j+1) (j+1+k),i,j+1+k,mg,p,k))
    else m6 x y (o.push v ++ y.extract (j+1) (j+1+k)) i (j+1+k) mg p k
   else m6 x y (o.push v) i (j+1) mg p k
  | _=>pure (.done (some (o.push v ++ x.extract i x.size ++ y.extract (j+1) y.size),o.push v,i,j+1,mg,p,q))
noncomputable def m8 (x y o:Array Keyed) (i j mg p q:Nat):StateT SortSt Sem (ForInStep LS):=do
 j6 mg
 let v <- elem' y j
 match <- gN false v x i (x.size - i) 0 with
 | some k=>
  if k > 0 then
   if (i+k+1 == x.size)=true then pure (.done (some (o ++ x.extract i (i+k) ++ y.extract j y.size ++ x.extract (i+k) x.size),o ++ x.extract i (i+k),i+k,j,mg,k,q))
   else if (i+k == x.size)=true then pure (.done (some (o ++ x.extract i (i+k) ++ x.extract (i+k) x.size ++ y.extract j y.size),o ++ x.extract i (i+k),i+k,j,mg,k,q))
   else m7 x y (o ++ x.extract i (i+k)) (i+k) j mg k q
  else m7 x y o i j mg k q
 | _=>pure (.done (some (o ++ x.extract i x.size ++ y.extract j y.size),o,i,j,mg,p,q))
noncomputable def pT (x y o:Array Keyed) (i j mg p q:Nat):StateT SortSt Sem LS:=forIn [0:x.size+y.size] ((none,o,i,j,mg,p,q):LS) fun _ r=>
 if r.2.2.2.2.1 > 1 then m8 x y r.2.1 r.2.2.1 r.2.2.2.1 (r.2.2.2.2.1 - 1) r.2.2.2.2.2.1 r.2.2.2.2.2.2 else m8 x y r.2.1 r.2.2.1 r.2.2.2.1 r.2.2.2.2.1 r.2.2.2.2.2.1 r.2.2.2.2.2.2
noncomputable def pU (x y o:Array Keyed) (i j mg:Nat):StateT SortSt Sem pS:=forIn [0:x.size+y.size] ((none,o,i,j,0,0):pS) fun _ r=>do
 let v <- elem' y r.2.2.2.1
 let u <- elem' x r.2.2.1
 match <- lt' v u with
 | some q=>
  if q=true then do
   let v <- elem' y r.2.2.2.1
   if (r.2.2.2.1+1 == y.size)=true then pure (.done (some (r.2.1.push v ++ x.extract r.2.2.1 x.size ++ y.extract (r.2.2.2.1+1) y.size),r.2.1.push v,r.2.2.1,r.2.2.2.1+1,0,r.2.2.2.2.2+1))
   else if r.2.2.2.2.2+1 >= mg then pure (.done (none,r.2.1.push v,r.2.2.1,r.2.2.2.1+1,0,r.2.2.2.2.2+1)) else pure (.yield (none,r.2.1.push v,r.2.2.1,r.2.2.2.1+1,0,r.2.2.2.2.2+1))
  else do
   let u <- elem' x r.2.2.1
   if (r.2.2.1+1+1 == x.size)=true then pure (.done (some (r.2.1.push u ++ y.extract r.2.2.2.1 y.size ++ x.extract (r.2.2.1+1) x.size),r.2.1.push u,r.2.2.1+1,r.2.2.2.1,r.2.2.2.2.1+1,0))
   else if r.2.2.2.2.1+1 >= mg then pure (.done (none,r.2.1.push u,r.2.2.1+1,r.2.2.2.1,r.2.2.2.2.1+1,0)) else pure (.yield (none,r.2.1.push u,r.2.2.1+1,r.2.2.2.1,r.2.2.2.2.1+1,0))
 | _=>pure (.done (some (r.2.1 ++ x.extract r.2.2.1 x.size ++ y.extract r.2.2.2.1 y.size),r.2.1,r.2.2.1,r.2.2.2.1,r.2.2.2.2.1,r.2.2.2.2.2))
noncomputable def uW (x y o:Array Keyed) (i j mg:Nat):StateT SortSt Sem LO:=forIn [0:x.size+y.size] ((none,o,i,j,mg):LO) fun _ r=>do
 let u <- pU x y r.2.1 r.2.2.1 r.2.2.2.1 r.2.2.2.2
 match u.1 with
 | some z=>pure (.done (some z,u.2.1,u.2.2.1,u.2.2.2.1,r.2.2.2.2))
 | none=>do
  liftM (rule "list.sort.gallop")
  let v <- pT x y u.2.1 u.2.2.1 u.2.2.2.1 (r.2.2.2.2+1) u.2.2.2.2.1 u.2.2.2.2.2
  match v.1 with
  | some z=>pure (.done (some z,v.2.1,v.2.2.1,v.2.2.2.1,v.2.2.2.2.1))
  | none=>do
   j6 (v.2.2.2.2.1+1)
   pure (.yield (none,v.2.1,v.2.2.1,v.2.2.2.1,v.2.2.2.2.1+1))
theorem W0 (x y:Array Keyed):pR x y=(do
 liftM (rule "list.sort.merge-lo")
 let v <- elem' y 0
 if (1 == y.size)=true then pure (#[v] ++ x.extract 0 x.size ++ y.extract 1 y.size)
 else if (0+1 == x.size)=true then pure (#[v] ++ y.extract 1 y.size ++ x.extract 0 x.size)
 else do
  let z <- get
  let r <- uW x y #[v] 0 1 (gallopOf z)
  match r.1 with
  | some z=>pure z
  | none=>unsupported "internal:list.sort.merge-bound"):=by kernel_rfl
section
variable (rk : Keyed → Int)
noncomputable def Sd (l:List Keyed):Prop:=l.Pairwise fun a b=>rk a<=rk b
structure MI (xs ys o:List Keyed) (i j:Nat):Prop where
 pm:o.Perm (xs.take i ++ ys.take j)
 sx:Sd rk (o ++ xs.drop i)
 sy:Sd rk (o ++ ys.drop j)
end
variable {rk : Keyed → Int} {xs ys o : List Keyed} {i j : Nat}
theorem Sd.ins {o a b d:List Keyed} (h1:Sd rk (o ++ a)) (h2:Sd rk (o ++ (b ++ d))) (h:∀ u ∈ b,∀ t ∈ a,rk u<=rk t):Sd rk ((o ++ b) ++ a):=by
 unfold Sd at *
 rw [aq1]
 obtain ⟨p1,p2,p3⟩:=ar3.mp h1
 obtain ⟨q1,q2,q3⟩:=ar3.mp h2
 obtain ⟨r1,r2,r3⟩:=ar3.mp q2
 refine ar3.mpr ⟨p1,ar3.mpr ⟨r1,p2,h⟩,fun u hu t ht=>?_⟩
 rcases au2.mp ht with z | z
 ·exact q3 u hu t (ax4 _ z)
 ·exact p3 u hu t z
theorem MI.ofy (m:MI rk xs ys o i j) (k:Nat) (h:∀ u ∈ (ys.drop j).take k,∀ t ∈ xs.drop i,rk u<=rk t):MI rk xs ys (o ++ (ys.drop j).take k) i (j+k):=by
 have e:(ys.drop j).take k ++ ys.drop (j+k)=ys.drop j:=by rw [<- List.drop_drop]; exact ar8 k _
 refine⟨?_,Sd.ins m.sx (d:=ys.drop (j+k)) (by rw [e]; exact m.sy) h,by rw [aq1,e]; exact m.sy⟩
 rw [List.take_add,<- aq1]
 exact m.pm.append_right _
theorem MI.ofx (m:MI rk xs ys o i j) (k:Nat) (h:∀ u ∈ (xs.drop i).take k,∀ t ∈ ys.drop j,rk u<=rk t):MI rk xs ys (o ++ (xs.drop i).take k) (i+k) j:=by
 have e:(xs.drop i).take k ++ xs.drop (i+k)=xs.drop i:=by rw [<- List.drop_drop]; exact ar8 k _
 refine⟨?_,by rw [aq1,e]; exact m.sx,Sd.ins m.sy (d:=xs.drop (i+k)) (by rw [e]; exact m.sx) h⟩
 rw [List.take_add]
 refine (m.pm.append_right _).trans ?_
 rw [aq1,aq1]
 exact (List.perm_append_comm).append_left _
theorem MI.fin (m:MI rk xs ys o i j) (h:xs.length<=i ∨ ys.length<=j):(o ++ xs.drop i ++ ys.drop j).Perm (xs ++ ys)/\Sd rk (o ++ xs.drop i ++ ys.drop j):=by
 refine⟨?_,?_⟩
 ·rw [aq1]
  refine (m.pm.append_right _).trans ?_
  have e1:xs=xs.take i ++ xs.drop i:=(ar8 i xs).symm
  have e2:ys=ys.take j ++ ys.drop j:=(ar8 j ys).symm
  conv=>rhs; rw [e1,e2]
  rw [aq1,aq1]
  refine List.Perm.append_left _ ?_
  rw [<- aq1,<- aq1]
  exact (List.perm_append_comm).append_right _
 ·rcases h with h | h
  ·rw [List.drop_eq_nil_of_le h,as5]; exact m.sy
  ·rw [List.drop_eq_nil_of_le h,as5]; exact m.sx
theorem MI.lst (m:MI rk xs ys o i j) (h:∀ u ∈ ys,∀ t ∈ xs.drop i,rk u<=rk t):(o ++ ys.drop j ++ xs.drop i).Perm (xs ++ ys)/\Sd rk (o ++ ys.drop j ++ xs.drop i):=by
 have m2:=m.ofy ys.length fun u hu t ht=>h u (List.mem_of_mem_drop (List.mem_of_mem_take hu)) t ht
 have e:(ys.drop j).take ys.length=ys.drop j:=as2 (by simp)
 rw [e] at m2
 have f:=m2.fin (.inr (by lia))
 rw [List.drop_eq_nil_of_le (as:=ys) (i:=j+ys.length) (by lia),as5] at f
 exact f
theorem uX {x:Array Keyed}{i k:Nat}{u:Keyed} (h:u ∈ (x.toList.drop i).take k):∃ t,t < k/\i+t < x.size/\rk u=Kr rk x (i+t):=by
 obtain ⟨t,ht,e⟩:=av0 h
 have h1:t < k/\i+t < x.size:=by simp at ht; lia
 refine⟨t,h1.1,h1.2,?_⟩
 rw [bC h1.2,<- e]
 simp
theorem k6 {x:Array Keyed}{i:Nat}{u:Keyed} (h:u ∈ x.toList.drop i):∃ t,i+t < x.size/\rk u=Kr rk x (i+t):=by
 obtain ⟨t,ht,e⟩:=av0 h
 have h1:i+t < x.size:=by simp at ht; lia
 refine⟨t,h1,?_⟩
 rw [bC h1,<- e]
 simp
theorem Sd.up {x:Array Keyed} (h:Sd rk x.toList) (lo hi:Nat) (hh:hi<=x.size):Up rk x lo hi:=fun i j _ hij hj=>by
 rw [bC (by lia:i < x.size),bC (by lia:j < x.size)]
 rcases az4 hij with z | z
 ·subst z; exact aA2 _
 ·have:=au9.mp h i j (by simp; lia) (by simp; lia) z
  simpa using this
theorem uY (x:Array Keyed) (i k:Nat):(x.extract i (i+k)).toList=(x.toList.drop i).take k:=by
 simp [List.extract]
theorem m9 (x:Array Keyed) (i:Nat):(x.extract i x.size).toList=x.toList.drop i:=by
 simp [List.extract]
 exact as2 (by simp)
theorem iA {x:Array Keyed}{i:Nat} (h:i < x.size) : [x[i]]=(x.toList.drop i).take 1:=by
 rw [List.drop_eq_getElem_cons (by simpa using h)]; simp
structure Gq (st st':SortSt):Prop where
 kd:kindOf st'=kindOf st
 ar:arrOf st'=arrOf st
 pd:pendingOf st'=pendingOf st
 ok:failedOf st'=failedOf st
theorem Gq.refl (st:SortSt):Gq st st:=⟨rfl,rfl,rfl,rfl⟩
section
variable {κ : SortKind} {st : SortSt} {prog : Program} {w : World} {A : Around} {E : Value → Shared → Prop} {s : Shared} {Ok : Keyed → Prop}
theorem mB {st0:SortSt}{g:Nat}{Q:Unit->SortSt->Prop} (q:Gq st0 st) (h:∀ st',Gq st0 st'->Q () st'):wpS (model prog w) A E s (j6 g) Q st:=by
 rw [V9]; exact wpS_modify (h _ ⟨q.kd,q.ar,q.pd,q.ok⟩)
noncomputable def cJ (rk:Keyed->Int) (x y r:Array Keyed):Prop:=r.toList.Perm (x.toList ++ y.toList)/\Sd rk r.toList
theorem MI.y1 {x y o:Array Keyed} (m:MI rk x.toList y.toList o.toList i j) (hj:j < y.size) (h:∀ t,i+t < x.size->rk y[j]<=Kr rk x (i+t)):MI rk x.toList y.toList (o.push y[j]).toList i (j+1):=by
 have:=m.ofy 1 fun u hu t ht=>?_
 ·rw [<- iA hj] at this; simpa using this
 ·rw [<- iA hj,aq3] at hu
  subst hu
  obtain ⟨q,q1,q2⟩:=k6 (rk:=rk) ht
  rw [q2]; exact h q q1
theorem MI.x1 {x y o:Array Keyed} (m:MI rk x.toList y.toList o.toList i j) (hi:i < x.size) (h:∀ t,j+t < y.size->rk x[i]<=Kr rk y (j+t)):MI rk x.toList y.toList (o.push x[i]).toList (i+1) j:=by
 have:=m.ofx 1 fun u hu t ht=>?_
 ·rw [<- iA hi] at this; simpa using this
 ·rw [<- iA hi,aq3] at hu
  subst hu
  obtain ⟨q,q1,q2⟩:=k6 (rk:=rk) ht
  rw [q2]; exact h q q1
theorem MI.yk {x y o:Array Keyed} (m:MI rk x.toList y.toList o.toList i j) (k:Nat) (h:∀ p t,p < k->j+p < y.size->i+t < x.size->Kr rk y (j+p)<=Kr rk x (i+t)):MI rk x.toList y.toList (o ++ y.extract j (j+k)).toList i (j+k):=by
 have:=m.ofy k fun u hu t ht=>?_
 ·rw [<- uY] at this; rw [at3]; exact this
 ·obtain ⟨p,p1,p2,p3⟩:=uX (rk:=rk) hu
  obtain ⟨q,q1,q2⟩:=k6 (rk:=rk) ht
  rw [q2,p3]; exact h p q p1 p2 q1
theorem MI.xk {x y o:Array Keyed} (m:MI rk x.toList y.toList o.toList i j) (k:Nat) (h:∀ p t,p < k->i+p < x.size->j+t < y.size->Kr rk x (i+p)<=Kr rk y (j+t)):MI rk x.toList y.toList (o ++ x.extract i (i+k)).toList (i+k) j:=by
 have:=m.ofx k fun u hu t ht=>?_
 ·rw [<- uY] at this; rw [at3]; exact this
 ·obtain ⟨p,p1,p2,p3⟩:=uX (rk:=rk) hu
  obtain ⟨q,q1,q2⟩:=k6 (rk:=rk) ht
  rw [q2,p3]; exact h p q p1 p2 q1
theorem j7 {key:Keyed}{xs:Array Keyed}{bs i:Nat}:b9 rk false key xs bs i=decide (Kr rk xs (bs+i)<=rk key):=rfl
theorem j8 {key:Keyed}{xs:Array Keyed}{bs i:Nat}:b9 rk true key xs bs i=decide (Kr rk xs (bs+i) < rk key):=rfl
noncomputable def GI (rk:Keyed->Int) (x y:Array Keyed) (lb:Nat) (st:SortSt) (c:LS) (st':SortSt):Prop:=Gq st st'/\∃ o i j mg p q,c=(none,o,i,j,mg,p,q)/\MI rk x.toList y.toList o.toList i j/\i+1 < x.size/\j < y.size/\lb<=i+j
noncomputable def GQ (rk:Keyed->Int) (x y:Array Keyed) (lb:Nat) (st:SortSt) (c:LS) (st':SortSt):Prop:=Gq st st'/\((∃ r o i j mg p q,c=(some r,o,i,j,mg,p,q)/\cJ rk x y r) ∨ ∃ o i j mg p q,c=(none,o,i,j,mg,p,q)/\MI rk x.toList y.toList o.toList i j/\i+1 < x.size/\j < y.size/\lb<=i+j)
noncomputable def GR (rk:Keyed->Int) (x y:Array Keyed) (lb:Nat) (st:SortSt) (r:ForInStep LS) (st':SortSt):Prop:=match r with | .done c=>GQ rk x y lb st c st' | .yield c=>GI rk x y lb st c st'
theorem MI.done {x y o:Array Keyed} (m:MI rk x.toList y.toList o.toList i j) (hh:x.size<=i ∨ y.size<=j):cJ rk x y (o ++ x.extract i x.size ++ y.extract j y.size):=by
 unfold cJ
 rw [at3,at3,m9,m9]
 exact m.fin (by simpa using hh)
theorem MI.last {x y o:Array Keyed} (m:MI rk x.toList y.toList o.toList i j) (x0:0 < x.size) (hl:∀ u ∈ y.toList,rk u<=rk x[x.size - 1]) (hh:i+1=x.size):cJ rk x y (o ++ y.extract j y.size ++ x.extract i x.size):=by
 unfold cJ
 rw [at3,at3,m9,m9]
 refine m.lst fun u hu t ht=>?_
 obtain ⟨q,q1,q2⟩:=k6 (rk:=rk) ht
 have e:i+q=x.size - 1:=by lia
 rw [q2,e,bC (by lia)]
 exact hl u hu
theorem uZ {st0:SortSt}{x y o:Array Keyed}{mg p q lb:Nat} (x0:0 < x.size) (hl:∀ u ∈ y.toList,rk u<=rk x[x.size - 1]) (g:Gq st0 st) (m:MI rk x.toList y.toList o.toList i j) (hi:i+1 < x.size) (hj:j < y.size) (hb:lb<=i+j)
  (hm:∀ t,j+t < y.size->rk x[i]<=Kr rk y (j+t)):wpS (model prog w) A E s (m6 x y o i j mg p q) (GR rk x y lb st0) st:=by
 unfold m6
 have hi':i < x.size:=by lia
 have m':=m.x1 hi' hm
 refine ao7 (bQ hi' ?_)
 by_cases he:(i+1+1 == x.size)=true
 ·rw [if_pos he]
  have he:i+1+1=x.size:=by simpa using he
  exact ap2 ⟨g,.inl ⟨_,_,_,_,_,_,_,rfl,m'.last x0 hl he⟩⟩
 ·rw [if_neg he]
  have he:i+1+1 ≠ x.size:=by simpa using he
  split
  ·exact ap2 ⟨g,.inr ⟨_,_,_,_,_,_,rfl,m',by lia,hj,by lia⟩⟩
  ·exact ap2 ⟨g,_,_,_,_,_,_,rfl,m',by lia,hj,by lia⟩
theorem v3 (c:bG prog w A E s κ Ok rk) {st0:SortSt} (hk:kindOf st0=κ) {x y o:Array Keyed}{mg p q lb:Nat} (ox:aY Ok x) (oy:aY Ok y) (sx:Sd rk x.toList) (sy:Sd rk y.toList) (x0:0 < x.size) (hl:∀ u ∈ y.toList,rk u<=rk x[x.size - 1]) (g:Gq st0 st) (m:MI rk x.toList y.toList o.toList i j) (hi:i+1 < x.size) (hj:j < y.size) (hb:lb<=i+j)
  (hm:∀ t,i+t < x.size->rk y[j]<=Kr rk x (i+t)):wpS (model prog w) A E s (m7 x y o i j mg p q) (GR rk x y lb st0) st:=by
 unfold m7
 have hi':i < x.size:=by lia
 have m':=m.y1 hj hm
 refine ao7 (bQ hj ?_)
 by_cases he:(j+1 == y.size)=true
 ·rw [if_pos he]
  have he:j+1=y.size:=by simpa using he
  exact ap2 ⟨g,.inl ⟨_,_,_,_,_,_,_,rfl,m'.done (.inr (by lia))⟩⟩
 ·rw [if_neg he]
  have he:j+1 ≠ y.size:=by simpa using he
  refine ao7 (bQ hi' (ao7 (j5 c (g.kd.trans hk) (ox _ (ar6 hi')) oy (by lia) (by lia) (sy.up _ _ (by lia)) fun k k1 k2 k3=>?_)))
  dsimp only
  have ux:=sx.up 0 _ (ao8 x.size)
  have mk:=m'.yk k fun p t hp _ ht=>by
   have a1:=k2 p hp
   rw [j8,ar5] at a1
   have a2:=ux i (i+t) (by lia) (by lia) ht
   rw [bC hi'] at a2
   lia
  have km:∀ t,j+1+k+t < y.size->rk x[i]<=Kr rk y (j+1+k+t):=fun t ht=>by
   have a1:=k3 (k+t) (by lia) (by lia)
   rw [j8,av9,<- Nat.add_assoc] at a1
   lia
  by_cases hk0:k > 0
  ·rw [if_pos hk0]
   by_cases hf:(j+1+k == y.size)=true
   ·rw [if_pos hf]
    have hf:j+1+k=y.size:=by simpa using hf
    exact ap2 ⟨g,.inl ⟨_,_,_,_,_,_,_,rfl,mk.done (.inr (by lia))⟩⟩
   ·rw [if_neg hf]
    have hf:j+1+k ≠ y.size:=by simpa using hf
    exact uZ x0 hl g mk hi (by lia) (by lia) km
  ·rw [if_neg hk0]
   have e0:k=0:=by lia
   subst e0
   exact uZ x0 hl g m' hi (by lia) (by lia) km
theorem v4 (c:bG prog w A E s κ Ok rk) {st0:SortSt} (hk:kindOf st0=κ) {x y o:Array Keyed}{mg p q lb:Nat} (ox:aY Ok x) (oy:aY Ok y) (sx:Sd rk x.toList) (sy:Sd rk y.toList) (x0:0 < x.size) (hl:∀ u ∈ y.toList,rk u<=rk x[x.size - 1]) (g:Gq st0 st) (m:MI rk x.toList y.toList o.toList i j) (hi:i+1 < x.size) (hj:j < y.size) (hb:lb<=i+j) :
  wpS (model prog w) A E s (m8 x y o i j mg p q) (GR rk x y lb st0) st:=by
 unfold m8
 refine ao7 (mB g fun st4 q4=>ao7 (bQ hj (ao7 (j5 c (q4.kd.trans hk) (oy _ (ar6 hj)) ox (by lia) (by lia) (sx.up _ _ (by lia)) fun k k1 k2 k3=>?_))))
 dsimp only
 have uy:=sy.up 0 _ (ao8 y.size)
 have mk:=m.xk k fun p t hp _ ht=>by
  have a1:=k2 p hp
  rw [j7,ar5] at a1
  have a2:=uy j (j+t) (by lia) (by lia) ht
  rw [bC hj] at a2
  lia
 have km:∀ t,i+k+t < x.size->rk y[j]<=Kr rk x (i+k+t):=fun t ht=>by
  have a1:=k3 (k+t) (by lia) (by lia)
  rw [j7,av9,<- Nat.add_assoc] at a1
  lia
 by_cases hk0:k > 0
 ·rw [if_pos hk0]
  by_cases he:(i+k+1 == x.size)=true
  ·rw [if_pos he]
   exact ap2 ⟨q4,.inl ⟨_,_,_,_,_,_,_,rfl,mk.last x0 hl (by simpa using he)⟩⟩
  ·rw [if_neg he]
   have he:i+k+1 ≠ x.size:=by simpa using he
   by_cases hf:(i+k == x.size)=true
   ·rw [if_pos hf]
    have hf:i+k=x.size:=by simpa using hf
    exact ap2 ⟨q4,.inl ⟨_,_,_,_,_,_,_,rfl,mk.done (.inl (by lia))⟩⟩
   ·rw [if_neg hf]
    have hf:i+k ≠ x.size:=by simpa using hf
    exact v3 c hk ox oy sx sy x0 hl q4 mk (by lia) hj (by lia) km
 ·rw [if_neg hk0]
  have e0:k=0:=by lia
  subst e0
  exact v3 c hk ox oy sx sy x0 hl q4 m hi hj hb km
theorem W4 (c:bG prog w A E s κ Ok rk) {st0:SortSt} (hk:kindOf st0=κ) {x y o:Array Keyed}{mg p q lb:Nat} (ox:aY Ok x) (oy:aY Ok y) (sx:Sd rk x.toList) (sy:Sd rk y.toList) (x0:0 < x.size) (hl:∀ u ∈ y.toList,rk u<=rk x[x.size - 1]) (g:Gq st0 st) (m:MI rk x.toList y.toList o.toList i j) (hi:i+1 < x.size) (hj:j < y.size) (hb:lb<=i+j) :
  wpS (model prog w) A E s (pT x y o i j mg p q) (GQ rk x y lb st0) st:=by
 unfold pT
 refine au1 (I:=fun _=>GI rk x y lb st0) ?_ ?_ ⟨g,o,i,j,_,p,q,rfl,m,hi,hj,hb⟩
 ·rintro t c3 st3 _ _ ⟨q3,o,i,j,mg,p,q,rfl,m,hi,hj,pr3⟩
  dsimp only
  split
  ·exact aA3 (v4 c hk ox oy sx sy x0 hl q3 m hi hj pr3) fun r _ hr=>by cases r <;> exact hr
  ·exact aA3 (v4 c hk ox oy sx sy x0 hl q3 m hi hj pr3) fun r _ hr=>by cases r <;> exact hr
 ·rintro c3 st3 ⟨q3,o,i,j,mg,p,q,rfl,m,hi,hj,pr3⟩
  exact⟨q3,.inr ⟨_,_,_,_,_,_,rfl,m,hi,hj,pr3⟩⟩
theorem W5 (c:bG prog w A E s κ Ok rk) {st0:SortSt} (hk:kindOf st0=κ) {x y o:Array Keyed}{mg:Nat}{Q:pS->SortSt->Prop} (ox:aY Ok x) (oy:aY Ok y) (sx:Sd rk x.toList) (sy:Sd rk y.toList) (x0:0 < x.size) (hl:∀ u ∈ y.toList,rk u<=rk x[x.size - 1]) (g:Gq st0 st) (m:MI rk x.toList y.toList o.toList i j) (hi:i+1 < x.size) (hj:j < y.size)
  (h1:∀ r o' i' j' p q st',Gq st0 st'->cJ rk x y r->Q (some r,o',i',j',p,q) st')
  (h2:∀ o' i' j' p q st',Gq st0 st'->MI rk x.toList y.toList o'.toList i' j'->i'+1 < x.size->j' < y.size->i+j+1<=i'+j'->Q (none,o',i',j',p,q) st') :
  wpS (model prog w) A E s (pU x y o i j mg) Q st:=by
 have ux:Up rk x 0 x.size:=sx.up 0 _ (ao8 _)
 have uy:Up rk y 0 y.size:=sy.up 0 _ (ao8 _)
 unfold pU
 refine au1 (I:=fun t c st'=>Gq st0 st'/\∃ o i' j' p q,c=(none,o,i',j',p,q)/\MI rk x.toList y.toList o.toList i' j'/\i'+1 < x.size/\j' < y.size/\i+j+t<=i'+j') ?_ ?_ ⟨g,o,i,j,0,0,rfl,m,hi,hj,by lia⟩
 ·rintro t c2 st2 _ ht ⟨q2,o,i',j',p,q,rfl,m,hi,hj,pr2⟩
  dsimp only
  have hi':i' < x.size:=by lia
  refine ao7 (bQ hj (ao7 (bQ hi' (ao7 (c _ _ (oy _ (ar6 hj)) (ox _ (ar6 hi')) st2 _ (q2.kd.trans hk) ?_)))))
  by_cases hc:rk y[j'] < rk x[i']
  ·rw [ap7 hc]
   dsimp only
   rw [if_pos rfl]
   have m':=m.y1 hj fun t ht=>by
    have:=ux i' (i'+t) (by lia) (by lia) ht
    rw [bC hi'] at this
    lia
   refine ao7 (bQ hj ?_)
   by_cases he:(j'+1 == y.size)=true
   ·rw [if_pos he]
    have he:j'+1=y.size:=by simpa using he
    exact ap2 (h1 _ _ _ _ _ _ _ q2 (m'.done (.inr (by lia))))
   ·rw [if_neg he]
    have he:j'+1 ≠ y.size:=by simpa using he
    split
    ·exact ap2 (h2 _ _ _ _ _ _ q2 m' hi (by lia) (by lia))
    ·exact ap2 ⟨q2,_,_,_,_,_,rfl,m',hi,by lia,by lia⟩
  ·rw [ao5 hc]
   dsimp only
   rw [if_neg aq5]
   have m':=m.x1 hi' fun t ht=>by
    have:=uy j' (j'+t) (by lia) (by lia) ht
    rw [bC hj] at this
    lia
   refine ao7 (bQ hi' ?_)
   by_cases he:(i'+1+1 == x.size)=true
   ·rw [if_pos he]
    exact ap2 (h1 _ _ _ _ _ _ _ q2 (m'.last x0 hl (by simpa using he)))
   ·rw [if_neg he]
    have he:i'+1+1 ≠ x.size:=by simpa using he
    split
    ·exact ap2 (h2 _ _ _ _ _ _ q2 m' (by lia) hj (by lia))
    ·exact ap2 ⟨q2,_,_,_,_,_,rfl,m',by lia,hj,by lia⟩
 ·rintro c2 st2 ⟨q2,o,i',j',p,q,rfl,m,hi,hj,pr2⟩
  exact h2 _ _ _ _ _ _ q2 m hi hj (by lia)
theorem W6 (c:bG prog w A E s κ Ok rk) (hk:kindOf st=κ) {x y:Array Keyed}{Q:Array Keyed->SortSt->Prop} (ox:aY Ok x) (oy:aY Ok y) (sx:Sd rk x.toList) (sy:Sd rk y.toList) (x0:0 < x.size) (y0:0 < y.size)
  (hf:∀ t ∈ x.toList,rk y[0]<=rk t) (hl:∀ u ∈ y.toList,rk u<=rk x[x.size - 1])
  (h:∀ r st',Gq st st'->cJ rk x y r->Q r st'):wpS (model prog w) A E s (pR x y) Q st:=by
 rw [W0]
 refine ao7 (wpS_lift (az2 ⟨rfl,ao7 (bQ y0 ?_)⟩))
 have m0:MI rk x.toList y.toList (#[y[0]]:Array Keyed).toList 0 1:=by
  have mm:MI rk x.toList y.toList [] 0 0:=⟨by simp,sx,sy⟩
  have:=mm.ofy 1 fun u hu t ht=>?_
  ·rw [<- iA y0] at this; exact this
  ·rw [<- iA y0,aq3] at hu
   subst hu
   exact hf t ht
 by_cases e1:(1 == y.size)=true
 ·rw [if_pos e1]
  have e1:1=y.size:=by simpa using e1
  exact ap2 (h _ st (Gq.refl st) (m0.done (.inr (by lia))))
 ·rw [if_neg e1]
  have e1:1 ≠ y.size:=by simpa using e1
  by_cases e2:(0+1 == x.size)=true
  ·rw [if_pos e2]
   exact ap2 (h _ st (Gq.refl st) (m0.last x0 hl (by simpa using e2)))
  ·rw [if_neg e2]
   have e2:0+1 ≠ x.size:=by simpa using e2
   refine ao7 (wpS_get ?_)
   unfold uW
   refine ao7 (aA3 (au1
    (I:=fun n c st'=>Gq st st'/\∃ o i j mg,c=(none,o,i,j,mg)/\MI rk x.toList y.toList o.toList i j/\i+1 < x.size/\j < y.size/\n+1<=i+j)
    (Q:=fun c st'=>Gq st st'/\∃ r o i j mg,c=(some r,o,i,j,mg)/\cJ rk x y r) ?_ ?_ ⟨Gq.refl st,_,0,1,_,rfl,m0,by lia,by lia,by lia⟩) ?_)
   ·rintro n c1 st1 _ hn ⟨q1,o,i,j,mg,rfl,m,hi,hj,pr⟩
    dsimp only
    refine ao7 (W5 c hk ox oy sx sy x0 hl q1 m hi hj (fun r o' i' j' p q st' g md=>ap2 ⟨g,r,_,_,_,_,rfl,md⟩) fun o' i' j' p q st' g m' hi' hj' pr'=>?_)
    refine ao7 (wpS_lift (az2 ⟨rfl,?_⟩))
    refine ao7 (aA3 (W4 c hk ox oy sx sy x0 hl g m' hi' hj' pr') ?_)
    rintro c3 st3 ⟨q3,⟨r,o,i3,j3,mg,p,q,rfl,md⟩ | ⟨o,i3,j3,mg,p,q,rfl,m,hi,hj,pr3⟩⟩
    ·exact ap2 ⟨q3,r,_,_,_,_,rfl,md⟩
    ·exact ao7 (mB q3 fun st4 q4=>ap2 ⟨q4,o,i3,j3,_,rfl,m,hi,hj,by lia⟩)
   ·rintro c1 st1 ⟨q1,o,i,j,mg,rfl,m,hi,hj,pr⟩
    exact absurd pr (by lia)
   ·rintro c1 st1 ⟨q1,r,o,i,j,mg,rfl,md⟩
    exact ap2 (h r _ q1 md)
end
noncomputable def pV:Array Keyed->Array Keyed->StateT SortSt Sem (Array Keyed):=sortPriv% PySem.Builtin.mergeHi
noncomputable abbrev LH:=Option (Array Keyed) × Nat × Nat × Array Keyed × Nat × Nat × Nat
noncomputable abbrev pW:=Option (Array Keyed) × Nat × Nat × Array Keyed × Nat × Nat
noncomputable abbrev LP:=Option (Array Keyed) × Nat × Nat × Array Keyed × Nat
noncomputable def mC (x y o:Array Keyed) (i j mg p q:Nat):StateT SortSt Sem (ForInStep LH):=do
 let v <- elem' x (i - 1)
 if (i - 1 == 0)=true then pure (.done (some (x.extract 0 (i - 1) ++ y.extract 0 j ++ (o.push v).reverse),i - 1,j,o.push v,mg,p,q))
 else if (decide (p < 7) && decide (q < 7))=true then pure (.done (none,i - 1,j,o.push v,mg,p,q)) else pure (.yield (none,i - 1,j,o.push v,mg,p,q))
noncomputable def mD (x y o:Array Keyed) (i j mg p q:Nat):StateT SortSt Sem (ForInStep LH):=do
 let v <- elem' y (j - 1)
 if (j - 1 == 1)=true then pure (.done (some (y.extract 0 (j - 1) ++ x.extract 0 i ++ (o.push v).reverse),i,j - 1,o.push v,mg,p,q)) else do
  let u <- elem' x (i - 1)
  match <- gN true u y 0 (j - 1) (j - 1 - 1) with
  | some z=>
   if j - 1 - z > 0 then
    if (z == 1)=true then pure (.done (some (y.extract 0 z ++ x.extract 0 i ++ (o.push v ++ (y.extract z (j - 1)).reverse).reverse),i,z,o.push v ++ (y.extract z (j - 1)).reverse,mg,p,j - 1 - z))
    else if (z == 0)=true then pure (.done (some (x.extract 0 i ++ y.extract 0 z ++ (o.push v ++ (y.extract z (j - 1)).reverse).reverse),i,z,o.push v ++ (y.extract z (j - 1)).reverse,mg,p,j - 1 - z))
    else mC x y (o.push v ++ (y.extract z (j - 1)).reverse) i z mg p (j - 1 - z)
   else mC x y (o.push v) i (j - 1) mg p (j - 1 - z)
  | _=>pure (.done (some (x.extract 0 i ++ y.extract 0 (j - 1) ++ (o.push v).reverse),i,j - 1,o.push v,mg,p,q))
noncomputable def mE (x y o:Array Keyed) (i j mg p q:Nat):StateT SortSt Sem (ForInStep LH):=do
 j6 mg
 let v <- elem' y (j - 1)
 match <- gN false v x 0 i (i - 1) with
 | some z=>
  if i - z > 0 then
   if (z == 0)=true then pure (.done (some (x.extract 0 z ++ y.extract 0 j ++ (o ++ (x.extract z i).reverse).reverse),z,j,o ++ (x.extract z i).reverse,mg,i - z,q))
   else mD x y (o ++ (x.extract z i).reverse) z j mg (i - z) q
  else mD x y o i j mg (i - z) q
 | _=>pure (.done (some (x.extract 0 i ++ y.extract 0 j ++ o.reverse),i,j,o,mg,p,q))
noncomputable def pX (x y o:Array Keyed) (i j mg p q:Nat):StateT SortSt Sem LH:=forIn [0:x.size+y.size] ((none,i,j,o,mg,p,q):LH) fun _ r=>
 if r.2.2.2.2.1 > 1 then mE x y r.2.2.2.1 r.2.1 r.2.2.1 (r.2.2.2.2.1 - 1) r.2.2.2.2.2.1 r.2.2.2.2.2.2 else mE x y r.2.2.2.1 r.2.1 r.2.2.1 r.2.2.2.2.1 r.2.2.2.2.2.1 r.2.2.2.2.2.2
noncomputable def pY (x y o:Array Keyed) (i j mg:Nat):StateT SortSt Sem pW:=forIn [0:x.size+y.size] ((none,i,j,o,0,0):pW) fun _ r=>do
 let v <- elem' y (r.2.2.1 - 1)
 let u <- elem' x (r.2.1 - 1)
 match <- lt' v u with
 | some q=>
  if q=true then do
   let u <- elem' x (r.2.1 - 1)
   if (r.2.1 - 1 == 0)=true then pure (.done (some (x.extract 0 (r.2.1 - 1) ++ y.extract 0 r.2.2.1 ++ (r.2.2.2.1.push u).reverse),r.2.1 - 1,r.2.2.1,r.2.2.2.1.push u,r.2.2.2.2.1+1,0))
   else if r.2.2.2.2.1+1 >= mg then pure (.done (none,r.2.1 - 1,r.2.2.1,r.2.2.2.1.push u,r.2.2.2.2.1+1,0)) else pure (.yield (none,r.2.1 - 1,r.2.2.1,r.2.2.2.1.push u,r.2.2.2.2.1+1,0))
  else do
   let v <- elem' y (r.2.2.1 - 1)
   if (r.2.2.1 - 1 == 1)=true then pure (.done (some (y.extract 0 (r.2.2.1 - 1) ++ x.extract 0 r.2.1 ++ (r.2.2.2.1.push v).reverse),r.2.1,r.2.2.1 - 1,r.2.2.2.1.push v,0,r.2.2.2.2.2+1))
   else if r.2.2.2.2.2+1 >= mg then pure (.done (none,r.2.1,r.2.2.1 - 1,r.2.2.2.1.push v,0,r.2.2.2.2.2+1)) else pure (.yield (none,r.2.1,r.2.2.1 - 1,r.2.2.2.1.push v,0,r.2.2.2.2.2+1))
 | _=>pure (.done (some (x.extract 0 r.2.1 ++ y.extract 0 r.2.2.1 ++ r.2.2.2.1.reverse),r.2.1,r.2.2.1,r.2.2.2.1,r.2.2.2.2.1,r.2.2.2.2.2))
noncomputable def v7 (x y o:Array Keyed) (i j mg:Nat):StateT SortSt Sem LP:=forIn [0:x.size+y.size] ((none,i,j,o,mg):LP) fun _ r=>do
 let u <- pY x y r.2.2.2.1 r.2.1 r.2.2.1 r.2.2.2.2
 match u.1 with
 | some z=>pure (.done (some z,u.2.1,u.2.2.1,u.2.2.2.1,r.2.2.2.2))
 | none=>do
  liftM (rule "list.sort.gallop")
  let v <- pX x y u.2.2.2.1 u.2.1 u.2.2.1 (r.2.2.2.2+1) u.2.2.2.2.1 u.2.2.2.2.2
  match v.1 with
  | some z=>pure (.done (some z,v.2.1,v.2.2.1,v.2.2.2.1,v.2.2.2.2.1))
  | none=>do
   j6 (v.2.2.2.2.1+1)
   pure (.yield (none,v.2.1,v.2.2.1,v.2.2.2.1,v.2.2.2.2.1+1))
theorem W7 (x y:Array Keyed):pV x y=(do
 liftM (rule "list.sort.merge-hi")
 let v <- elem' x (x.size - 1)
 if (x.size - 1 == 0)=true then pure (x.extract 0 (x.size - 1) ++ y.extract 0 y.size ++ (#[v]:Array Keyed).reverse)
 else if (y.size == 1)=true then pure (y.extract 0 y.size ++ x.extract 0 (x.size - 1) ++ (#[v]:Array Keyed).reverse)
 else do
  let z <- get
  let r <- v7 x y #[v] (x.size - 1) y.size (gallopOf z)
  match r.1 with
  | some z=>pure z
  | none=>unsupported "internal:list.sort.merge-bound"):=by kernel_rfl
structure MH (rk:Keyed->Int) (xs ys o:List Keyed) (i j:Nat):Prop where
 pm:o.Perm (xs.drop i ++ ys.drop j)
 sx:Sd rk (xs.take i ++ o)
 sy:Sd rk (ys.take j ++ o)
variable {rk : Keyed → Int} {xs ys o : List Keyed} {i j : Nat}
theorem Sd.insR {o a b d:List Keyed} (h1:Sd rk (a ++ o)) (h2:Sd rk ((d ++ b) ++ o)) (h:∀ t ∈ a,∀ u ∈ b,rk t<=rk u):Sd rk (a ++ (b ++ o)):=by
 unfold Sd at *
 obtain ⟨p1,p2,p3⟩:=ar3.mp h1
 obtain ⟨q1,q2,q3⟩:=ar3.mp h2
 obtain ⟨r1,r2,r3⟩:=ar3.mp q1
 refine ar3.mpr ⟨p1,ar3.mpr ⟨r2,p2,fun u hu t ht=>q3 u (ar0 _ hu) t ht⟩,fun u hu t ht=>?_⟩
 rcases au2.mp ht with z | z
 ·exact h u hu t z
 ·exact p3 u hu t z
theorem mF (l:List Keyed) {z j:Nat} (h:z<=j):l.take z ++ (l.take j).drop z=l.take j:=by
 have e:l.take z=(l.take j).take z:=by rw [List.take_take,Nat.min_eq_left h]
 rw [e]; exact ar8 z _
theorem pZ (l:List Keyed) {z j:Nat} (h:z<=j):(l.take j).drop z ++ l.drop j=l.drop z:=by
 rw [aB1,show l.drop j=(l.drop z).drop (j - z) by rw [List.drop_drop,Nat.add_sub_cancel' h]]
 exact ar8 _ _
theorem MH.ofy (m:MH rk xs ys o i j) {z:Nat} (hz:z<=j) (h:∀ t ∈ xs.take i,∀ u ∈ (ys.take j).drop z,rk t<=rk u):MH rk xs ys ((ys.take j).drop z ++ o) i z:=by
 refine⟨?_,Sd.insR m.sx (d:=ys.take z) (by rw [mF _ hz]; exact m.sy) h,by rw [<- aq1,mF _ hz]; exact m.sy⟩
 rw [<- pZ ys hz]
 refine (m.pm.append_left _).trans ?_
 rw [<- aq1,<- aq1]
 exact (List.perm_append_comm).append_right _
theorem MH.ofx (m:MH rk xs ys o i j) {z:Nat} (hz:z<=i) (h:∀ t ∈ ys.take j,∀ u ∈ (xs.take i).drop z,rk t<=rk u):MH rk xs ys ((xs.take i).drop z ++ o) z j:=by
 refine⟨?_,by rw [<- aq1,mF _ hz]; exact m.sx,Sd.insR m.sy (d:=xs.take z) (by rw [mF _ hz]; exact m.sx) h⟩
 rw [<- pZ xs hz,aq1]
 exact m.pm.append_left _
theorem MH.fin (m:MH rk xs ys o i j) (h:i=0 ∨ j=0):(xs.take i ++ ys.take j ++ o).Perm (xs ++ ys)/\Sd rk (xs.take i ++ ys.take j ++ o):=by
 refine⟨?_,?_⟩
 ·have e1:xs=xs.take i ++ xs.drop i:=(ar8 i xs).symm
  have e2:ys=ys.take j ++ ys.drop j:=(ar8 j ys).symm
  conv=>rhs; rw [e1,e2]
  rw [aq1,aq1]
  refine List.Perm.append_left _ ((m.pm.append_left _).trans ?_)
  rw [<- aq1,<- aq1]
  exact (List.perm_append_comm).append_right _
 ·rcases h with h | h
  ·subst h; simpa using m.sy
  ·subst h; simpa using m.sx
theorem MH.fst (m:MH rk xs ys o i j) (h:∀ t ∈ ys.take j,∀ u ∈ xs,rk t<=rk u):(ys.take j ++ xs.take i ++ o).Perm (xs ++ ys)/\Sd rk (ys.take j ++ xs.take i ++ o):=by
 have m2:=m.ofx (av8 i) fun t ht u hu=>h t ht u (List.mem_of_mem_take (List.mem_of_mem_drop hu))
 have f:=m2.fin (.inl rfl)
 simpa using f
theorem k7 {x:Array Keyed}{i:Nat}{u:Keyed} (h:u ∈ x.toList.take i):∃ t,t < i/\t < x.size/\rk u=Kr rk x t:=by
 obtain ⟨t,ht,e⟩:=av0 h
 have h1:t < i/\t < x.size:=by simp at ht; lia
 refine⟨t,h1.1,h1.2,?_⟩
 rw [bC h1.2,<- e]
 simp
theorem k8 {x:Array Keyed}{z i:Nat}{u:Keyed} (h:u ∈ (x.toList.take i).drop z):∃ t,z<=t/\t < i/\t < x.size/\rk u=Kr rk x t:=by
 obtain ⟨t,ht,e⟩:=av0 h
 have h1:z+t < i/\z+t < x.size:=by simp at ht; lia
 refine⟨z+t,by lia,h1.1,h1.2,?_⟩
 rw [bC h1.2,<- e]
 simp
theorem iB (x:Array Keyed) (z i:Nat):(x.extract z i).toList=(x.toList.take i).drop z:=by
 rw [aB1]; simp [List.extract]
theorem mG (x:Array Keyed) (i:Nat):(x.extract 0 i).toList=x.toList.take i:=by
 simp [List.extract]
theorem k9 {x:Array Keyed}{i:Nat} (h:i < x.size) : [x[i]]=(x.toList.take (i+1)).drop i:=by
 rw [aB1,iA h,show i+1 - i=1 by lia]
section
variable {κ : SortKind} {st : SortSt} {prog : Program} {w : World} {A : Around} {E : Value → Shared → Prop} {s : Shared} {Ok : Keyed → Prop}
theorem MH.y1 {x y o:Array Keyed} (m:MH rk x.toList y.toList o.toList.reverse i (j+1)) (hj:j < y.size) (h:∀ t,t < i->t < x.size->Kr rk x t<=rk y[j]):MH rk x.toList y.toList (o.push y[j]).toList.reverse i j:=by
 have:=m.ofy (Nat.le_succ j) fun t ht u hu=>?_
 ·rw [<- k9 hj] at this; simpa using this
 ·rw [<- k9 hj,aq3] at hu
  subst hu
  obtain ⟨q,q1,q2,q3⟩:=k7 (rk:=rk) ht
  rw [q3]; exact h q q1 q2
theorem MH.x1 {x y o:Array Keyed} (m:MH rk x.toList y.toList o.toList.reverse (i+1) j) (hi:i < x.size) (h:∀ t,t < j->t < y.size->Kr rk y t<=rk x[i]):MH rk x.toList y.toList (o.push x[i]).toList.reverse i j:=by
 have:=m.ofx (Nat.le_succ i) fun t ht u hu=>?_
 ·rw [<- k9 hi] at this; simpa using this
 ·rw [<- k9 hi,aq3] at hu
  subst hu
  obtain ⟨q,q1,q2,q3⟩:=k7 (rk:=rk) ht
  rw [q3]; exact h q q1 q2
theorem MH.yk {x y o:Array Keyed} (m:MH rk x.toList y.toList o.toList.reverse i j) {z:Nat} (hz:z<=j) (h:∀ t p,t < i->t < x.size->z<=p->p < j->p < y.size->Kr rk x t<=Kr rk y p):MH rk x.toList y.toList (o ++ (y.extract z j).reverse).toList.reverse i z:=by
 have:=m.ofy hz fun t ht u hu=>?_
 ·rw [<- iB] at this; simpa using this
 ·obtain ⟨q,q1,q2,q3⟩:=k7 (rk:=rk) ht
  obtain ⟨p,p1,p2,p3,p4⟩:=k8 (rk:=rk) hu
  rw [q3,p4]; exact h q p q1 q2 p1 p2 p3
theorem MH.xk {x y o:Array Keyed} (m:MH rk x.toList y.toList o.toList.reverse i j) {z:Nat} (hz:z<=i) (h:∀ t p,t < j->t < y.size->z<=p->p < i->p < x.size->Kr rk y t<=Kr rk x p):MH rk x.toList y.toList (o ++ (x.extract z i).reverse).toList.reverse z j:=by
 have:=m.ofx hz fun t ht u hu=>?_
 ·rw [<- iB] at this; simpa using this
 ·obtain ⟨q,q1,q2,q3⟩:=k7 (rk:=rk) ht
  obtain ⟨p,p1,p2,p3,p4⟩:=k8 (rk:=rk) hu
  rw [q3,p4]; exact h q p q1 q2 p1 p2 p3
theorem MH.done {x y o:Array Keyed} (m:MH rk x.toList y.toList o.toList.reverse i j) (hh:i=0 ∨ j=0):cJ rk x y (x.extract 0 i ++ y.extract 0 j ++ o.reverse):=by
 unfold cJ
 rw [at3,at3,mG,mG,Array.toList_reverse]
 exact m.fin hh
theorem MH.frst {x y o:Array Keyed} (m:MH rk x.toList y.toList o.toList.reverse i j) (y0:0 < y.size) (hf:∀ t ∈ x.toList,rk y[0]<=rk t) (hh:j=1):cJ rk x y (y.extract 0 j ++ x.extract 0 i ++ o.reverse):=by
 unfold cJ
 rw [at3,at3,mG,mG,Array.toList_reverse]
 refine m.fst fun t ht u hu=>?_
 subst hh
 obtain ⟨q,q1,q2,q3⟩:=k7 (rk:=rk) ht
 have e:q=0:=by lia
 subst e
 rw [q3,bC y0]
 exact hf u hu
structure HB (rk:Keyed->Int) (x y:Array Keyed) (lb i j:Nat) (o:Array Keyed):Prop where
 m:MH rk x.toList y.toList o.toList.reverse i j
 i0:0 < i
 i1:i < x.size
 j0:1 < j
 j1:j<=y.size
 pr:i+j+lb<=x.size+y.size
noncomputable def HI (rk:Keyed->Int) (x y:Array Keyed) (lb:Nat) (st:SortSt) (c:LH) (st':SortSt):Prop:=Gq st st'/\∃ i j o mg p q,c=(none,i,j,o,mg,p,q)/\HB rk x y lb i j o
noncomputable def HQ (rk:Keyed->Int) (x y:Array Keyed) (lb:Nat) (st:SortSt) (c:LH) (st':SortSt):Prop:=Gq st st'/\((∃ r i j o mg p q,c=(some r,i,j,o,mg,p,q)/\cJ rk x y r) ∨ ∃ i j o mg p q,c=(none,i,j,o,mg,p,q)/\HB rk x y lb i j o)
noncomputable def HR (rk:Keyed->Int) (x y:Array Keyed) (lb:Nat) (st:SortSt) (r:ForInStep LH) (st':SortSt):Prop:=match r with | .done c=>HQ rk x y lb st c st' | .yield c=>HI rk x y lb st c st'
theorem v8 {st0:SortSt}{x y o:Array Keyed}{i j mg p q lb:Nat} (g:Gq st0 st) (b:HB rk x y lb (i+1) j o) (hm:∀ (hi:i < x.size) t,t < j->t < y.size->Kr rk y t<=rk x[i]):wpS (model prog w) A E s (mC x y o (i+1) j mg p q) (HR rk x y lb st0) st:=by
 unfold mC
 obtain ⟨m,i0,i1,j0,j1,pr⟩:=b
 have hi':i < x.size:=by lia
 have m':=m.x1 hi' (hm hi')
 simp only [Nat.add_sub_cancel]
 refine ao7 (bQ hi' ?_)
 by_cases he:(i == 0)=true
 ·rw [if_pos he]
  have he:i=0:=by simpa using he
  exact ap2 ⟨g,.inl ⟨_,_,_,_,_,_,_,rfl,m'.done (.inl he)⟩⟩
 ·rw [if_neg he]
  have he:i ≠ 0:=by simpa using he
  split
  ·exact ap2 ⟨g,.inr ⟨_,_,_,_,_,_,rfl,m',by lia,by lia,j0,j1,by lia⟩⟩
  ·exact ap2 ⟨g,_,_,_,_,_,_,rfl,m',by lia,by lia,j0,j1,by lia⟩
theorem v9 (c:bG prog w A E s κ Ok rk) {st0:SortSt} (hk:kindOf st0=κ) {x y o:Array Keyed}{i j mg p q lb:Nat} (ox:aY Ok x) (oy:aY Ok y) (sx:Sd rk x.toList) (sy:Sd rk y.toList) (y0:0 < y.size) (hf:∀ t ∈ x.toList,rk y[0]<=rk t) (g:Gq st0 st) (b:HB rk x y lb (i+1) (j+1) o)
  (hm:∀ (hj:j < y.size) t,t < i+1->t < x.size->Kr rk x t<=rk y[j]):wpS (model prog w) A E s (mD x y o (i+1) (j+1) mg p q) (HR rk x y lb st0) st:=by
 unfold mD
 obtain ⟨m,i0,i1,j0,j1,pr⟩:=b
 have hi':i < x.size:=by lia
 have hj:j < y.size:=by lia
 have m':=m.y1 hj (hm hj)
 simp only [Nat.add_sub_cancel]
 refine ao7 (bQ hj ?_)
 by_cases he:(j == 1)=true
 ·rw [if_pos he]
  have he:j=1:=by simpa using he
  exact ap2 ⟨g,.inl ⟨_,_,_,_,_,_,_,rfl,m'.frst y0 hf he⟩⟩
 ·rw [if_neg he]
  have he:j ≠ 1:=by simpa using he
  refine ao7 (bQ hi' (ao7 (j5 c (g.kd.trans hk) (ox _ (ar6 hi')) oy (by lia) (by lia) (sy.up _ _ (by lia)) fun z k1 k2 k3=>?_)))
  dsimp only
  have ux:=sx.up 0 _ (ao8 x.size)
  have mk:=m'.yk k1 fun t p ht ht' hp hp' _=>by
   have a1:=k3 p hp hp'
   rw [j8,av9,Nat.zero_add] at a1
   have a2:=ux t i (by lia) (by lia) hi'
   rw [bC (i:=i) hi'] at a2
   lia
  have km:∀ (hi:i < x.size) t,t < z->t < y.size->Kr rk y t<=rk x[i]:=fun _ t ht _=>by
   have a1:=k2 t ht
   rw [j8,ar5,Nat.zero_add] at a1
   lia
  by_cases hk0:j - z > 0
  ·rw [if_pos hk0]
   by_cases h1:(z == 1)=true
   ·rw [if_pos h1]
    have h1:z=1:=by simpa using h1
    exact ap2 ⟨g,.inl ⟨_,_,_,_,_,_,_,rfl,mk.frst y0 hf h1⟩⟩
   ·rw [if_neg h1]
    have h1:z ≠ 1:=by simpa using h1
    by_cases h0:(z == 0)=true
    ·rw [if_pos h0]
     have h0:z=0:=by simpa using h0
     exact ap2 ⟨g,.inl ⟨_,_,_,_,_,_,_,rfl,mk.done (.inr h0)⟩⟩
    ·rw [if_neg h0]
     have h0:z ≠ 0:=by simpa using h0
     exact v8 g ⟨mk,by lia,i1,by lia,by lia,by lia⟩ km
  ·rw [if_neg hk0]
   have e0:z=j:=by lia
   subst e0
   exact v8 g ⟨m',by lia,i1,by lia,by lia,by lia⟩ km
theorem vA (c:bG prog w A E s κ Ok rk) {st0:SortSt} (hk:kindOf st0=κ) {x y o:Array Keyed}{i j mg p q lb:Nat} (ox:aY Ok x) (oy:aY Ok y) (sx:Sd rk x.toList) (sy:Sd rk y.toList) (y0:0 < y.size) (hf:∀ t ∈ x.toList,rk y[0]<=rk t) (g:Gq st0 st) (b:HB rk x y lb i (j+1) o) :
  wpS (model prog w) A E s (mE x y o i (j+1) mg p q) (HR rk x y lb st0) st:=by
 unfold mE
 obtain ⟨m,i0,i1,j0,j1,pr⟩:=b
 have hj:j < y.size:=by lia
 simp only [Nat.add_sub_cancel]
 refine ao7 (mB g fun st4 q4=>ao7 (bQ hj (ao7 (j5 c (q4.kd.trans hk) (oy _ (ar6 hj)) ox (by lia) (by lia) (sx.up _ _ (by lia)) fun z k1 k2 k3=>?_))))
 dsimp only
 have uy:=sy.up 0 _ (ao8 y.size)
 have mk:=m.xk k1 fun t p ht ht' hp hp' _=>by
  have a1:=k3 p hp hp'
  rw [j7,av9,Nat.zero_add] at a1
  have a2:=uy t j (by lia) (by lia) hj
  rw [bC (i:=j) hj] at a2
  lia
 have km:∀ (hj:j < y.size) t,t < z->t < x.size->Kr rk x t<=rk y[j]:=fun _ t ht _=>by
  have a1:=k2 t ht
  rw [j7,ar5,Nat.zero_add] at a1
  exact a1
 by_cases hk0:i - z > 0
 ·rw [if_pos hk0]
  by_cases he:(z == 0)=true
  ·rw [if_pos he]
   exact ap2 ⟨q4,.inl ⟨_,_,_,_,_,_,_,rfl,mk.done (.inl (by simpa using he))⟩⟩
  ·rw [if_neg he]
   have he:z ≠ 0:=by simpa using he
   obtain ⟨z2,rfl⟩:∃ z2,z=z2+1:=⟨z - 1,by lia⟩
   exact v9 c hk ox oy sx sy y0 hf q4 ⟨mk,by lia,by lia,j0,j1,by lia⟩ km
 ·rw [if_neg hk0]
  have e0:z=i:=by lia
  subst e0
  obtain ⟨z2,rfl⟩:∃ z2,z=z2+1:=⟨z - 1,by lia⟩
  exact v9 c hk ox oy sx sy y0 hf q4 ⟨m,i0,i1,j0,j1,pr⟩ km
theorem W8 (c:bG prog w A E s κ Ok rk) {st0:SortSt} (hk:kindOf st0=κ) {x y o:Array Keyed}{i j mg p q lb:Nat} (ox:aY Ok x) (oy:aY Ok y) (sx:Sd rk x.toList) (sy:Sd rk y.toList) (y0:0 < y.size) (hf:∀ t ∈ x.toList,rk y[0]<=rk t) (g:Gq st0 st) (b:HB rk x y lb i j o) :
  wpS (model prog w) A E s (pX x y o i j mg p q) (HQ rk x y lb st0) st:=by
 unfold pX
 refine au1 (I:=fun _=>HI rk x y lb st0) ?_ ?_ ⟨g,i,j,o,_,p,q,rfl,b⟩
 ·rintro t c3 st3 _ _ ⟨q3,i,j,o,mg,p,q,rfl,b3⟩
  obtain ⟨j3,rfl⟩:∃ j3,j=j3+1:=⟨j - 1,by have:=b3.j0; lia⟩
  dsimp only
  split
  ·exact aA3 (vA c hk ox oy sx sy y0 hf q3 b3) fun r _ hr=>by cases r <;> exact hr
  ·exact aA3 (vA c hk ox oy sx sy y0 hf q3 b3) fun r _ hr=>by cases r <;> exact hr
 ·rintro c3 st3 ⟨q3,i,j,o,mg,p,q,rfl,b3⟩
  exact⟨q3,.inr ⟨_,_,_,_,_,_,rfl,b3⟩⟩
theorem W9 (c:bG prog w A E s κ Ok rk) {st0:SortSt} (hk:kindOf st0=κ) {x y o:Array Keyed}{i j mg n:Nat}{Q:pW->SortSt->Prop} (ox:aY Ok x) (oy:aY Ok y) (sx:Sd rk x.toList) (sy:Sd rk y.toList) (y0:0 < y.size) (hf:∀ t ∈ x.toList,rk y[0]<=rk t) (g:Gq st0 st) (b:HB rk x y n i j o)
  (h1:∀ r i' j' o' p q st',Gq st0 st'->cJ rk x y r->Q (some r,i',j',o',p,q) st') (h2:∀ i' j' o' p q st',Gq st0 st'->HB rk x y (n+1) i' j' o'->Q (none,i',j',o',p,q) st') :
  wpS (model prog w) A E s (pY x y o i j mg) Q st:=by
 have ux:Up rk x 0 x.size:=sx.up 0 _ (ao8 _)
 have uy:Up rk y 0 y.size:=sy.up 0 _ (ao8 _)
 unfold pY
 refine au1 (I:=fun t c st'=>Gq st0 st'/\∃ i j o p q,c=(none,i,j,o,p,q)/\HB rk x y (n+t) i j o) ?_ ?_ ⟨g,i,j,o,0,0,rfl,b⟩
 ·rintro t c2 st2 _ ht ⟨q2,i',j',o,p,q,rfl,m,i0,i1,j0,j1,pr⟩
  obtain ⟨i2,rfl⟩:∃ i2,i'=i2+1:=⟨i' - 1,by lia⟩
  obtain ⟨j2,rfl⟩:∃ j2,j'=j2+1:=⟨j' - 1,by lia⟩
  simp only [Nat.add_sub_cancel]
  have hi:i2 < x.size:=by lia
  have hj:j2 < y.size:=by lia
  refine ao7 (bQ hj (ao7 (bQ hi (ao7 (c _ _ (oy _ (ar6 hj)) (ox _ (ar6 hi)) st2 _ (q2.kd.trans hk) ?_)))))
  by_cases hc:rk y[j2] < rk x[i2]
  ·rw [ap7 hc]
   dsimp only
   rw [if_pos rfl]
   have m':=m.x1 hi fun t ht _=>by
    have:=uy t j2 (by lia) (by lia) hj
    rw [bC hj] at this
    lia
   refine ao7 (bQ hi ?_)
   by_cases he:(i2 == 0)=true
   ·rw [if_pos he]
    exact ap2 (h1 _ _ _ _ _ _ _ q2 (m'.done (.inl (by simpa using he))))
   ·rw [if_neg he]
    have he:i2 ≠ 0:=by simpa using he
    split
    ·exact ap2 (h2 _ _ _ _ _ _ q2 ⟨m',by lia,by lia,j0,j1,by lia⟩)
    ·exact ap2 ⟨q2,_,_,_,_,_,rfl,m',by lia,by lia,j0,j1,by lia⟩
  ·rw [ao5 hc]
   dsimp only
   rw [if_neg aq5]
   have m':=m.y1 hj fun t ht _=>by
    have:=ux t i2 (by lia) (by lia) hi
    rw [bC hi] at this
    lia
   refine ao7 (bQ hj ?_)
   by_cases he:(j2 == 1)=true
   ·rw [if_pos he]
    exact ap2 (h1 _ _ _ _ _ _ _ q2 (m'.frst y0 hf (by simpa using he)))
   ·rw [if_neg he]
    have he:j2 ≠ 1:=by simpa using he
    split
    ·exact ap2 (h2 _ _ _ _ _ _ q2 ⟨m',i0,i1,by lia,by lia,by lia⟩)
    ·exact ap2 ⟨q2,_,_,_,_,_,rfl,m',i0,i1,by lia,by lia,by lia⟩
 ·rintro c2 st2 ⟨q2,i',j',o,p,q,rfl,m,i0,i1,j0,j1,pr⟩
  exact h2 _ _ _ _ _ _ q2 ⟨m,i0,i1,j0,j1,by lia⟩
theorem X0 (c:bG prog w A E s κ Ok rk) (hk:kindOf st=κ) {x y:Array Keyed}{Q:Array Keyed->SortSt->Prop} (ox:aY Ok x) (oy:aY Ok y) (sx:Sd rk x.toList) (sy:Sd rk y.toList) (x0:0 < x.size) (y0:0 < y.size)
  (hf:∀ t ∈ x.toList,rk y[0]<=rk t) (hl:∀ u ∈ y.toList,rk u<=rk x[x.size - 1])
  (h:∀ r st',Gq st st'->cJ rk x y r->Q r st'):wpS (model prog w) A E s (pV x y) Q st:=by
 rw [W7]
 refine ao7 (wpS_lift (az2 ⟨rfl,ao7 (bQ (by lia:x.size - 1 < x.size) ?_)⟩))
 have m0:MH rk x.toList y.toList (#[x[x.size - 1]]:Array Keyed).toList.reverse (x.size - 1) y.size:=by
  have mm:MH rk x.toList y.toList [] x.size y.size:=⟨by simp,by rw [as2 (by simp),as5]; exact sx,by rw [as2 (by simp),as5]; exact sy⟩
  have e:=k9 (x:=x) (i:=x.size - 1) (by lia)
  rw [show x.size - 1+1=x.size by lia] at e
  have:=mm.ofx (Nat.sub_le x.size 1) fun t ht u hu=>?_
  ·rw [<- e] at this; simpa using this
  ·rw [<- e,aq3] at hu
   subst hu
   exact hl t (List.mem_of_mem_take ht)
 by_cases e1:(x.size - 1 == 0)=true
 ·rw [if_pos e1]
  exact ap2 (h _ st (Gq.refl st) (m0.done (.inl (by simpa using e1))))
 ·rw [if_neg e1]
  have e1:x.size - 1 ≠ 0:=by simpa using e1
  by_cases e2:(y.size == 1)=true
  ·rw [if_pos e2]
   exact ap2 (h _ st (Gq.refl st) (m0.frst y0 hf (by simpa using e2)))
  ·rw [if_neg e2]
   have e2:y.size ≠ 1:=by simpa using e2
   refine ao7 (wpS_get ?_)
   unfold v7
   refine ao7 (aA3 (au1
    (I:=fun n c st'=>Gq st st'/\∃ i j o mg,c=(none,i,j,o,mg)/\HB rk x y (n+1) i j o)
    (Q:=fun c st'=>Gq st st'/\∃ r i j o mg,c=(some r,i,j,o,mg)/\cJ rk x y r) ?_ ?_ ⟨Gq.refl st,_,_,_,_,rfl,m0,by lia,by lia,by lia,by lia,by lia⟩) ?_)
   ·rintro n c1 st1 _ hn ⟨q1,i,j,o,mg,rfl,b⟩
    dsimp only
    refine ao7 (W9 c hk ox oy sx sy y0 hf q1 b (fun r o' i' j' p q st' g md=>ap2 ⟨g,r,_,_,_,_,rfl,md⟩) fun i' j' o' p q st' g b'=>?_)
    refine ao7 (wpS_lift (az2 ⟨rfl,?_⟩))
    refine ao7 (aA3 (W8 c hk ox oy sx sy y0 hf g b') ?_)
    rintro c3 st3 ⟨q3,⟨r,i3,j3,o,mg,p,q,rfl,md⟩ | ⟨i3,j3,o,mg,p,q,rfl,b3⟩⟩
    ·exact ap2 ⟨q3,r,_,_,_,_,rfl,md⟩
    ·exact ao7 (mB q3 fun st4 q4=>ap2 ⟨q4,i3,j3,o,_,rfl,b3⟩)
   ·rintro c1 st1 ⟨q1,i,j,o,mg,rfl,b⟩
    have:=b.pr
    exact absurd this (by lia)
   ·rintro c1 st1 ⟨q1,r,i,j,o,mg,rfl,md⟩
    exact ap2 (h r _ q1 md)
end
theorem X1 (i:Nat):mergeAt' i=(do
 let z <- get
 let (some (sa,na,pw),some (sb,nb,_)):=((pendingOf z)[i]?,(pendingOf z)[i+1]?) | unsupported "internal:list.sort.pending"
 set (SortSt.mk' (kindOf z) (arrOf z) (((pendingOf z).setIfInBounds i (sa,na+nb,pw)).eraseIdxIfInBounds (i+1)) (gallopOf z) (failedOf z))
 let some k <- gN false (<- elem' (arrOf z) sb) (arrOf z) sa na 0 | return false
 let (sa,na):=(sa+k,na - k)
 if na == 0 then return true
 let some nb <- gN true (<- elem' (arrOf z) (sa+na - 1)) (arrOf z) sb nb (nb - 1) | return false
 if nb == 0 then return true
 let x:=(arrOf z).extract sa sb
 let y:=(arrOf z).extract sb (sb+nb)
 let m <- if na<=nb then pR x y else pV x y
 modify fun z=>setArr z (m.toList.zipIdx.foldl (fun a (p,j)=>a.setIfInBounds (sa+j) p) (arrOf z))
 return (failedOf (<- get)).isNone):=rfl
variable {rk : Keyed → Int}
theorem X2 {σ:Type}{M:Model}{A:Around}{E:Value->Shared->Prop}{s:Shared}{a b:σ}{Q:PUnit->σ->Prop} (h:Q ⟨⟩ a):wpS M A E s (set a:StateT σ Sem PUnit) Q b:=by
 unfold wpS; rw [StateT.run_set]; exact ao9 ⟨rfl,h⟩
theorem vB (o:Nat):∀ (m:List Keyed) (n:Nat) (a:Array Keyed) (t:Nat),o+n+m.length<=a.size->
  ((m.zipIdx n).foldl (fun a (p,j)=>a.setIfInBounds (o+j) p) a)[t]? = if o+n<=t/\t < o+n+m.length then m[t - (o+n)]? else a[t]?
 | [],n,a,t,_=>by
  show a[t]? = _
  rw [if_neg (fun z=>Nat.not_lt_of_ge z.1 z.2)]
 | p :: m,n,a,t,h=>by
  rw [List.zipIdx_cons,List.foldl_cons]
  have h':o+(n+1)+m.length<=(a.setIfInBounds (o+n) p).size:=by rw [Array.size_setIfInBounds]; simp at h; lia
  have ih:=vB o m (n+1) (a.setIfInBounds (o+n) p) t h'
  refine ih.trans ?_
  have hs:o+n < a.size:=by simp at h; lia
  rw [Array.getElem?_setIfInBounds]
  by_cases e:o+n=t
  ·subst e
   rw [if_neg (by lia),if_pos rfl,if_pos hs,if_pos (by simp),Nat.sub_self]; rfl
  ·rw [if_neg e]
   by_cases c:o+n<=t/\t < o+n+(p :: m).length
   ·rw [if_pos c,if_pos (by simp at c; lia)]
    rw [show t - (o+n)=(t - (o+(n+1)))+1 by lia]; rfl
   ·rw [if_neg c,if_neg (by simp at c ⊢; lia)]
theorem vC {a:Array Keyed}{lo hi:Nat} (u:Up rk a lo hi) (hh:hi<=a.size):Sd rk (a.extract lo hi).toList:=by
 unfold Sd
 rw [au9]
 intro i j hi' hj hij
 have h2:lo+j < hi:=by simp at hj; lia
 have:=u (lo+i) (lo+j) (by lia) (by lia) h2
 rw [bC (by lia:lo+i < a.size),bC (by lia:lo+j < a.size)] at this
 simpa using this
theorem vD {a:Array Keyed}{lo mid hi:Nat} (u:Up rk a lo mid) (v:Up rk a mid hi) (h0:lo < mid) (h1:mid < hi) (h:Kr rk a (mid - 1)<=Kr rk a mid):Up rk a lo hi:=fun i j hi' hij hj=>by
 rcases ar7 j mid with z | z
 ·exact u i j hi' hij z
 ·rcases ar7 i mid with y | y
  ·have a1:=u i (mid - 1) hi' (by lia) (by lia)
   have a2:=v mid j (ao8 _) z hj
   lia
  ·exact v i j y hij hj
theorem vE {a:Array Keyed}{lo hi t:Nat} (h:t < hi - lo) (hh:hi<=a.size):Kr rk (a.extract lo hi) t=Kr rk a (lo+t):=by
 refine i8 ?_
 rw [Array.getElem?_extract_of_lt (by lia)]
 exact (getElem?_pos a (lo+t) (by lia)).symm
section
variable {κ : SortKind} {a0 : Array Keyed} {pd : Array (Nat × Nat × Nat)} {st : SortSt} {prog : Program} {w : World} {A : Around} {E : Value → Shared → Prop} {s : Shared} {Ok : Keyed → Prop}
theorem X3 {a m:Array Keyed}{p x e:Nat} (hpx:p<=x) (hxe:x<=e) (he:e<=a.size) (md:cJ rk (a.extract p x) (a.extract x e) m) :
  let r:=m.toList.zipIdx.foldl (fun a (q,j)=>a.setIfInBounds (p+j) q) a
  r.Perm a/\(∀ t,(t < p ∨ e<=t)->Kr rk r t=Kr rk a t)/\(∀ t t',p<=t->t<=t'->t' < e->Kr rk r t<=Kr rk r t')/\∀ t,p<=t->t < e->∃ t',p<=t'/\t' < e/\Kr rk r t=Kr rk a t':=by
 intro r
 have ml:m.toList.length=e - p:=by
  rw [md.1.length_eq]; simp; lia
 have g:∀ t,r[t]? = if p<=t/\t < e then m[t - p]? else a[t]?:=fun t=>by
  have:=vB p m.toList 0 a t (by lia)
  rw [show r=(m.toList.zipIdx 0).foldl (fun a (q,j)=>a.setIfInBounds (p+j) q) a from rfl,this]
  simp only [Nat.add_zero,ml,show p+(e - p)=e by lia,av2]
 have ex:(a.extract p x).toList ++ (a.extract x e).toList=(a.toList.take e).drop p:=by
  rw [iB,iB,aB1,aB1,aB1]
  rw [show x=p+(x - p) by lia,<- List.drop_drop,show p+(x - p) - p=x - p by lia,show e - (p+(x - p))=(e - p) - (x - p) by lia]
  have:=ar8 (x - p) ((a.toList.drop p).take (e - p))
  rw [List.take_take,aB1,Nat.min_eq_left (by lia)] at this
  exact this
 have rl:r.toList=a.toList.take p ++ (m.toList ++ a.toList.drop e):=by
  apply List.ext_getElem?
  intro t
  rw [av2,g]
  rcases ar7 t p with z | z
  ·rw [if_neg (by lia),aw5 (by simp; lia),List.getElem?_take_of_lt z,av2]
  ·rw [ay9 (by simp; lia)]
   have lp:(a.toList.take p).length=p:=by simp; lia
   rw [lp]
   rcases ar7 t e with y | y
   ·rw [if_pos ⟨z,y⟩,aw5 (by lia),av2]
   ·rw [if_neg (by lia),ay9 (by lia),ml,List.getElem?_drop,av2]
    congr 1; lia
 have mp:m.toList.Perm ((a.toList.take e).drop p):=ex ▸ md.1
 refine⟨?_,fun t ht=>i8 (by rw [g,if_neg (by lia)]),fun t t' h1 h2 h3=>?_,fun t h1 h2=>?_⟩
 ·refine Array.perm_iff_toList_perm.mpr ?_
  rw [rl]
  have:a.toList=a.toList.take p ++ ((a.toList.take e).drop p ++ a.toList.drop e):=by
   rw [pZ _ (by lia:p<=e)]; exact (ar8 p _).symm
  conv=>rhs; rw [this]
  exact (mp.append_right _).append_left _
 ·have e1:Kr rk r t=Kr rk m (t - p):=i8 (by rw [g,if_pos (by lia)])
  have e2:Kr rk r t'=Kr rk m (t' - p):=i8 (by rw [g,if_pos (by lia)])
  rw [e1,e2]
  have ms:m.size=e - p:=by rw [<- ml]; simp
  exact md.2.up 0 m.size (ao8 _) (t - p) (t' - p) (by lia) (by lia) (by lia)
 ·have e1:Kr rk r t=Kr rk m (t - p):=i8 (by rw [g,if_pos (by lia)])
  have ms:m.size=e - p:=by rw [<- ml]; simp
  have hm:t - p < m.size:=by lia
  have mm:m[t - p] ∈ (a.toList.take e).drop p:=mp.mem_iff.mp (by simp)
  obtain ⟨t',q1,q2,q3,q4⟩:=k8 (rk:=rk) mm
  exact⟨t',q1,q2,by rw [e1,bC hm]; exact q4⟩
theorem X4 (c:bG prog w A E s κ Ok rk) (o:aY Ok a0) (b:SB κ a0 pd st) {i sa na pw sb nb pw':Nat}{Q:Bool->SortSt->Prop} (e1:pd[i]? = some (sa,na,pw)) (e2:pd[i+1]? = some (sb,nb,pw')) (hs:sb=sa+na) (n0:0 < na) (m0:0 < nb) (hz:sb+nb<=a0.size)
  (u:Up rk (arrOf st) sa sb) (v:Up rk (arrOf st) sb (sb+nb))
  (h:∀ st',SB κ a0 ((pd.setIfInBounds i (sa,na+nb,pw)).eraseIdxIfInBounds (i+1)) st'->Up rk (arrOf st') sa (sb+nb)->(∀ t,(t < sa ∨ sb+nb<=t)->Kr rk (arrOf st') t=Kr rk (arrOf st) t)->Q true st'):wpS (model prog w) A E s (mergeAt' i) Q st:=by
 have sz:=b.sz
 rw [X1]
 refine ao7 (wpS_get ?_)
 rw [b.pd,e1,e2]
 dsimp only
 refine ao7 (X2 ?_)
 generalize hst:SortSt.mk' (kindOf st) (arrOf st) ((pd.setIfInBounds i (sa,na+nb,pw)).eraseIdxIfInBounds (i+1)) (gallopOf st) (failedOf st)=st1
 have b1:SB κ a0 ((pd.setIfInBounds i (sa,na+nb,pw)).eraseIdxIfInBounds (i+1)) st1:=by rw [<- hst]; exact⟨b.pm,b.kd,b.ok,rfl⟩
 have ar:arrOf st1=arrOf st:=by rw [<- hst]
 have oa:=b.all o
 have hsb:sb < (arrOf st).size:=by lia
 refine ao7 (bQ hsb (ao7 (j5 c b1.kd (oa _ (ar6 hsb)) oa n0 (by lia) (hs ▸ u) fun k k1 k2 k3=>?_)))
 dsimp only
 have k2':∀ t,sa<=t->t < sa+k->Kr rk (arrOf st) t<=Kr rk (arrOf st) sb:=fun t t1 t2=>by
  have:=k2 (t - sa) (by lia)
  rw [j7,ar5,show sa+(t - sa)=t by lia] at this
  rw [bC hsb]; exact this
 have k3':∀ t,sa+k<=t->t < sb->Kr rk (arrOf st) sb < Kr rk (arrOf st) t:=fun t t1 t2=>by
  have:=k3 (t - sa) (by lia) (by lia)
  rw [j7,av9,show sa+(t - sa)=t by lia] at this
  rw [bC hsb]; lia
 by_cases ek:(na - k == 0)=true
 ·rw [if_pos ek]
  have ek:na - k=0:=by simpa using ek
  refine ap2 (h st1 b1 ?_ fun t _=>by rw [ar])
  rw [ar]
  exact vD u v (by lia) (by lia) (k2' (sb - 1) (by lia) (by lia))
 ·rw [if_neg ek]
  have ek:na - k ≠ 0:=by simpa using ek
  have el:sa+k+(na - k) - 1=sb - 1:=by lia
  rw [el]
  have hsl:sb - 1 < (arrOf st).size:=by lia
  refine ao7 (bQ hsl (ao7 (j5 c b1.kd (oa _ (ar6 hsl)) oa (by lia) (by lia) v fun l l1 l2 l3=>?_)))
  dsimp only
  have l2':∀ t,sb<=t->t < sb+l->Kr rk (arrOf st) t < Kr rk (arrOf st) (sb - 1):=fun t t1 t2=>by
   have:=l2 (t - sb) (by lia)
   rw [j8,ar5,show sb+(t - sb)=t by lia] at this
   rw [bC hsl]; exact this
  have l3':∀ t,sb+l<=t->t < sb+nb->Kr rk (arrOf st) (sb - 1)<=Kr rk (arrOf st) t:=fun t t1 t2=>by
   have:=l3 (t - sb) (by lia) (by lia)
   rw [j8,av9,show sb+(t - sb)=t by lia] at this
   rw [bC hsl]; lia
  by_cases en:(l == 0)=true
  ·rw [if_pos en]
   have en:l=0:=by simpa using en
   subst en
   refine ap2 (h st1 b1 ?_ fun t _=>by rw [ar])
   rw [ar]
   exact vD u v (by lia) (by lia) (l3' sb (by lia) (by lia))
  ·rw [if_neg en]
   have en:l ≠ 0:=by simpa using en
   have sub:∀ p e,aY Ok ((arrOf st).extract p e):=fun p e z hz=>oa z (by
    have:z ∈ ((arrOf st).extract p e).toList:=Array.mem_toList_iff.mpr hz
    rw [iB] at this
    exact Array.mem_toList_iff.mp (List.mem_of_mem_take (List.mem_of_mem_drop this)))
   have sx:Sd rk ((arrOf st).extract (sa+k) sb).toList:=vC (fun i j h1 h2 h3=>u i j (by lia) h2 h3) (by lia)
   have sy:Sd rk ((arrOf st).extract sb (sb+l)).toList:=vC (fun i j h1 h2 h3=>v i j h1 h2 (by lia)) (by lia)
   have x0:0 < ((arrOf st).extract (sa+k) sb).size:=by simp; lia
   have y0:0 < ((arrOf st).extract sb (sb+l)).size:=by simp; lia
   have hf:∀ t ∈ ((arrOf st).extract (sa+k) sb).toList,rk ((arrOf st).extract sb (sb+l))[0]<=rk t:=fun t ht=>by
    rw [iB] at ht
    obtain ⟨t',q1,q2,q3,q4⟩:=k8 (rk:=rk) ht
    rw [q4,<- bC (rk:=rk) y0,vE (by lia) (by lia)]
    exact Int.le_of_lt (k3' t' q1 q2)
   have hl:∀ t ∈ ((arrOf st).extract sb (sb+l)).toList,rk t<=rk ((arrOf st).extract (sa+k) sb)[((arrOf st).extract (sa+k) sb).size - 1]:=fun t ht=>by
    rw [iB] at ht
    obtain ⟨t',q1,q2,q3,q4⟩:=k8 (rk:=rk) ht
    have e:((arrOf st).extract (sa+k) sb).size=sb - (sa+k):=by simp; lia
    rw [q4,<- bC (rk:=rk) (by lia),vE (by lia) (by lia),e,show sa+k+(sb - (sa+k) - 1)=sb - 1 by lia]
    exact Int.le_of_lt (l2' t' q1 q2)
   have fin:∀ (m:Array Keyed) (st2:SortSt),Gq st1 st2->cJ rk ((arrOf st).extract (sa+k) sb) ((arrOf st).extract sb (sb+l)) m->
     wpS (model prog w) A E s (do modify (fun z=>setArr z (m.toList.zipIdx.foldl (fun a (p,j)=>a.setIfInBounds (sa+k+j) p) (arrOf z))); return (failedOf (<- get)).isNone) Q st2:=fun m st2 g md=>by
    have b2:SB κ a0 ((pd.setIfInBounds i (sa,na+nb,pw)).eraseIdxIfInBounds (i+1)) st2:=⟨by rw [g.ar]; exact b1.pm,g.kd.trans b1.kd,g.ok.trans b1.ok,g.pd.trans b1.pd⟩
    have a2:arrOf st2=arrOf st:=g.ar.trans ar
    obtain ⟨r1,r2,r3,r4⟩:=X3 (by lia) (by lia) (by lia) md
    generalize hr:m.toList.zipIdx.foldl (fun a (q,j)=>a.setIfInBounds (sa+k+j) q) (arrOf st)=r at r1 r2 r3 r4
    refine ao7 (wpS_modify (ao7 (wpS_get (ap2 ?_))))
    have b3:=b2.put (xs:=m.toList.zipIdx.foldl (fun a (q,j)=>a.setIfInBounds (sa+k+j) q) (arrOf st2)) (by rw [a2,hr]; exact r1)
    have er:arrOf (setArr st2 (m.toList.zipIdx.foldl (fun a (q,j)=>a.setIfInBounds (sa+k+j) q) (arrOf st2)))=r:=by rw [<- hr,a2]
    have tr:(failedOf (setArr st2 (m.toList.zipIdx.foldl (fun a (q,j)=>a.setIfInBounds (sa+k+j) q) (arrOf st2)))).isNone=true:=by rw [b3.ok]; rfl
    rw [tr]
    refine h _ b3 (fun i j hi hij hj=>?_) fun t ht=>?_
    ·rw [er]
     have bl:∀ t,sa<=t->t < sa+k->∀ t',sa+k<=t'->t' < sb+l->Kr rk (arrOf st) t<=Kr rk (arrOf st) t':=fun t t1 t2 t' t3 t4=>by
      rcases ar7 t' sb with z | z
      ·exact u t t' t1 (by lia) z
      ·have a1:=k2' t t1 t2
       have a2:=v sb t' (ao8 _) z (by lia)
       lia
     have br:∀ t,sb+l<=t->t < sb+nb->∀ t',sa+k<=t'->t' < sb+l->Kr rk (arrOf st) t'<=Kr rk (arrOf st) t:=fun t t1 t2 t' t3 t4=>by
      rcases ar7 t' sb with z | z
      ·have a1:=u t' (sb - 1) (by lia) (by lia) (by lia)
       have a2:=l3' t t1 t2
       lia
      ·exact v t' t z (by lia) t2
     have blr:∀ t,sa<=t->t < sa+k->∀ t',sb+l<=t'->t' < sb+nb->Kr rk (arrOf st) t<=Kr rk (arrOf st) t':=fun t t1 t2 t' t3 t4=>by
      have a1:=bl t t1 t2 (sb - 1) (by lia) (by lia)
      have a2:=l3' t' t3 t4
      lia
     rcases ar7 i (sa+k) with z | z
     ·rw [r2 i (.inl z)]
      rcases ar7 j (sa+k) with y | y
      ·rw [r2 j (.inl y)]; exact u i j hi hij (by lia)
      ·rcases ar7 j (sb+l) with x | x
       ·obtain ⟨t',q1,q2,q3⟩:=r4 j y x
        rw [q3]; exact bl i hi z t' q1 q2
       ·rw [r2 j (.inr x)]; exact blr i hi z j x hj
     ·rcases ar7 j (sb+l) with x | x
      ·exact r3 i j z hij x
      ·rw [r2 j (.inr x)]
       rcases ar7 i (sb+l) with y | y
       ·obtain ⟨t',q1,q2,q3⟩:=r4 i z y
        rw [q3]; exact br j x hj t' q1 q2
       ·rw [r2 i (.inr y)]; exact v i j (by lia) hij hj
    ·rw [er]; exact r2 t (by lia)
   by_cases hle:na - k<=l
   ·rw [if_pos hle]
    exact ao7 (W6 c b1.kd (sub _ _) (sub _ _) sx sy x0 y0 hf hl fun m st2 g md=>fin m st2 g md)
   ·rw [if_neg hle]
    exact ao7 (X0 c b1.kd (sub _ _) (sub _ _) sx sy x0 y0 hf hl fun m st2 g md=>fin m st2 g md)
end
noncomputable def Ch:Nat->List (Nat × Nat)->Nat->Prop
 | a,[],b=>a=b
 | a,(p,n) :: r,b=>p=a/\0 < n/\Ch (a+n) r b
theorem Ch.split:∀ {l l':List (Nat × Nat)}{a b:Nat},Ch a (l ++ l') b->∃ m,Ch a l m/\Ch m l' b
 | [],_,a,_,h=>⟨a,rfl,h⟩
 | (p,n) :: l,l',a,b,h=>by
  obtain ⟨h1,h2,h3⟩:=h
  obtain ⟨m,q1,q2⟩:=Ch.split h3
  exact⟨m,⟨h1,h2,q1⟩,q2⟩
theorem Ch.join:∀ {l l':List (Nat × Nat)}{a m b:Nat},Ch a l m->Ch m l' b->Ch a (l ++ l') b
 | [],_,a,m,_,h,h'=>by cases (show a=m from h); exact h'
 | (p,n) :: l,l',a,m,b,h,h'=>⟨h.1,h.2.1,Ch.join h.2.2 h'⟩
theorem Ch.len:∀ {l:List (Nat × Nat)}{a b:Nat},Ch a l b->a+l.length<=b
 | [],a,b,h=>by cases (show a=b from h); simp
 | (p,n) :: l,a,b,h=>by
  have:=Ch.len h.2.2
  have:=h.2.1
  simp; lia
theorem Ch.mem:∀ {l:List (Nat × Nat)}{a b:Nat}{r:Nat × Nat},Ch a l b->r ∈ l->a<=r.1/\r.1+r.2<=b/\0 < r.2
 | (p,n) :: l,a,b,r,h,hr=>by
  obtain ⟨h1,h2,h3⟩:=h
  have hb:=Ch.len h3
  rcases ap0.mp hr with e | e
  ·subst e
   have h1:p=a:=h1
   refine⟨?_,?_,h2⟩
   ·show a<=p; lia
   ·show p+n<=b; lia
  ·have:=Ch.mem h3 e
   exact⟨by lia,this.2.1,this.2.2⟩
noncomputable def sk (pd:Array (Nat × Nat × Nat)):List (Nat × Nat):=pd.toList.map fun r=>(r.1,r.2.1)
theorem mH (pd:Array (Nat × Nat × Nat)):(sk pd).length=pd.size:=by simp [sk]
structure Rn (rk:Keyed->Int) (a:Array Keyed) (l:List (Nat × Nat)) (lo:Nat):Prop where
 ch:Ch 0 l lo
 up:∀ r ∈ l,Up rk a r.1 (r.1+r.2)
variable {rk : Keyed → Int} {κ : SortKind} {a0 : Array Keyed} {pd : Array (Nat × Nat × Nat)} {st : SortSt} {prog : Program} {w : World} {A : Around} {E : Value → Shared → Prop} {s : Shared} {Ok : Keyed → Prop}
theorem Rn.same {a b:Array Keyed}{l:List (Nat × Nat)}{lo:Nat} (h:Rn rk a l lo) (e:∀ t,t < lo->Kr rk b t=Kr rk a t):Rn rk b l lo:=⟨h.ch,fun r hr i j hi hij hj=>by
 have:=(h.ch.mem hr).2.1
 rw [e i (by lia),e j (by lia)]
 exact h.up r hr i j hi hij hj⟩
theorem vF (c:bG prog w A E s κ Ok rk) (o:aY Ok a0) (b:SB κ a0 pd st) {i lo:Nat}{Q:Bool->SortSt->Prop} (hi:i+1 < pd.size) (hz:lo<=a0.size) (rn:Rn rk (arrOf st) (sk pd) lo)
  (h:∀ pd' st',SB κ a0 pd' st'->pd'.size+1=pd.size->Rn rk (arrOf st') (sk pd') lo->(∀ t,lo<=t->Kr rk (arrOf st') t=Kr rk (arrOf st) t)->Q true st'):wpS (model prog w) A E s (mergeAt' i) Q st:=by
 obtain ⟨⟨sa,na,pw⟩,e1⟩:∃ r,pd[i]? = some r:=⟨pd[i],getElem?_pos pd i (by lia)⟩
 obtain ⟨⟨sb,nb,pw'⟩,e2⟩:∃ r,pd[i+1]? = some r:=⟨pd[i+1],getElem?_pos pd (i+1) hi⟩
 have d1:pd.toList=pd.toList.take i ++ (sa,na,pw) :: (sb,nb,pw') :: pd.toList.drop (i+2):=by
  have hl:i < pd.toList.length:=by simp; lia
  have hl2:i+1 < pd.toList.length:=by simpa using hi
  have g1:pd.toList[i]=(sa,na,pw):=by rw [getElem?_pos pd i (by lia)] at e1; simpa using e1
  have g2:pd.toList[i+1]=(sb,nb,pw'):=by rw [getElem?_pos pd (i+1) hi] at e2; simpa using e2
  have:=ar8 i pd.toList
  rw [List.drop_eq_getElem_cons hl,List.drop_eq_getElem_cons hl2,g1,g2] at this
  exact this.symm
 have li:(pd.toList.take i).length=i:=by simp; lia
 have d2:((pd.setIfInBounds i (sa,na+nb,pw)).eraseIdxIfInBounds (i+1)).toList=pd.toList.take i ++ (sa,na+nb,pw) :: pd.toList.drop (i+2):=by
  have e:((pd.setIfInBounds i (sa,na+nb,pw)).eraseIdxIfInBounds (i+1)).toList=(pd.toList.set i (sa,na+nb,pw)).eraseIdx (i+1):=by
   unfold Array.eraseIdxIfInBounds
   rw [dif_pos (by rw [Array.size_setIfInBounds]; exact hi),Array.toList_eraseIdx,Array.toList_setIfInBounds]
  rw [e]
  conv=>lhs; rw [d1]
  rw [List.set_append_right _ _ (by lia),li,Nat.sub_self,List.set_cons_zero,List.eraseIdx_append_of_length_le (by lia),li,show i+1 - i=1 by lia]
  rfl
 have k1:sk pd=(pd.toList.take i).map (fun r=>(r.1,r.2.1)) ++ (sa,na) :: (sb,nb) :: (pd.toList.drop (i+2)).map (fun r=>(r.1,r.2.1)):=by
  unfold sk; conv=>lhs; rw [d1]
  simp
 have k2:sk ((pd.setIfInBounds i (sa,na+nb,pw)).eraseIdxIfInBounds (i+1))=(pd.toList.take i).map (fun r=>(r.1,r.2.1)) ++ (sa,na+nb) :: (pd.toList.drop (i+2)).map (fun r=>(r.1,r.2.1)):=by
  unfold sk; rw [d2]
  simp
 have ch:=rn.ch
 rw [k1] at ch
 obtain ⟨m,c1,c2⟩:=ch.split
 obtain ⟨f1,f2,f3,f4,f5⟩:=c2
 have f1:sa=m:=f1
 have f3:sb=m+na:=f3
 have up:=rn.up
 rw [k1] at up
 have lo2:=f5.len
 refine X4 c o b e1 e2 (by lia) f2 f4 (by lia) (by have:=up (sa,na) (by simp); rw [f3,<- f1]; exact this) (up (sb,nb) (by simp)) fun st' b' u' fr=>h _ st' b' ?_ ⟨?_,?_⟩ fun t ht=>fr t (by lia)
 ·rw [<- mH,<- mH,k1,k2]; simp; lia
 ·rw [k2]
  refine c1.join ⟨f1,by lia,?_⟩
  rw [<- Nat.add_assoc]; exact f5
 ·intro r hr
  rw [k2] at hr
  rcases au2.mp hr with z | z
  ·intro p q h1 h2 h3
   have:=(c1.mem z).2.1
   rw [fr p (by lia),fr q (by lia)]
   exact up r (ax4 _ z) p q h1 h2 h3
  ·rcases ap0.mp z with z | z
   ·subst z
    show Up rk (arrOf st') sa (sa+(na+nb))
    rw [show sa+(na+nb)=sb+nb by lia]; exact u'
   ·intro p q h1 h2 h3
    have:=(f5.mem z).1
    rw [fr p (by lia),fr q (by lia)]
    exact up r (ar0 _ (aq4 _ (aq4 _ z))) p q h1 h2 h3
noncomputable abbrev RS:=Option Unit × Nat
noncomputable def vG (sz pw:Nat):StateT SortSt Sem (Option Unit × Unit):=forIn [0:sz] ((none,()):Option Unit × Unit) fun _ _=>do
 let z <- get
 match (if (pendingOf z).size > 1 then (pendingOf z)[(pendingOf z).size - 2]? else none) with
 | some (_,_,o)=>if o<=pw then pure (.done (none,())) else do
   let q <- mergeAt' ((pendingOf z).size - 2)
   if (!q)=true then pure (.done (some (),())) else pure (.yield (none,()))
 | _=>pure (.done (none,()))
noncomputable def jn (sz lo n:Nat):StateT SortSt Sem (ForInStep RS):=do
 let z <- get
 match (pendingOf z).back? with
 | some (s1,n1,_)=>do
  let r <- vG sz (power' sz (2 * s1+n1) (2 * s1+n1+n1+n) sz)
  match r.1 with
  | some u=>pure (.done (some u,lo))
  | none=>do
   modify fun s=>setPending s ((pendingOf s).modify ((pendingOf s).size - 1) fun x=>(x.1,x.2.1,power' sz (2 * s1+n1) (2 * s1+n1+n1+n) sz))
   modify fun s=>setPending s ((pendingOf s).push (lo,n,0))
   pure (.yield (none,lo+n))
 | _=>do
  modify fun s=>setPending s ((pendingOf s).push (lo,n,0))
  pure (.yield (none,lo+n))
noncomputable def vH (sz mr lo:Nat):StateT SortSt Sem (ForInStep RS):=if lo >= sz then pure (.done (none,lo)) else do
 match <- countRun' lo (sz - lo) with
 | some n=>
  if n < mr then
   liftM (rule "list.sort.binary-insertion")
   let q <- binarySort' lo (min (sz - lo) mr) n
   if (!q)=true then pure (.done (some (),lo)) else jn sz lo (min (sz - lo) mr)
  else jn sz lo n
 | _=>pure (.done (some (),lo))
noncomputable def vI (sz:Nat):StateT SortSt Sem (Option Unit × Unit):=forIn [0:sz] ((none,()):Option Unit × Unit) fun _ _=>do
 let z <- get
 if (pendingOf z).size<=1 then pure (.done (none,())) else do
  let q <- mergeAt' (if ((if (pendingOf z).size - 2 > 0 then (pendingOf z)[(pendingOf z).size - 2 - 1]?.map (·.2.1) else none).any (· < ((pendingOf z)[(pendingOf z).size - 2+1]?.elim 0 (·.2.1))))=true then (pendingOf z).size - 2 - 1 else (pendingOf z).size - 2)
  if (!q)=true then pure (.done (some (),())) else pure (.yield (none,()))
theorem X5:sortRuns'=(do
 let z <- get
 let r <- (forIn [0:(arrOf z).size] ((none,0):RS) fun _ r=>vH (arrOf z).size (minRun' (arrOf z).size (arrOf z).size 0) r.2)
 match r.1 with
 | some u=>pure u
 | none=>do
  let q <- vI (arrOf z).size
  match q.1 with
  | some u=>pure u
  | none=>pure ()):=by kernel_rfl
theorem vJ {lo nn:Nat} (n1:0 < nn) {pd:Array (Nat × Nat × Nat)}{a:Array Keyed} (r:Rn rk a (sk pd) lo) (u:Up rk a lo (lo+nn)):Rn rk a (sk (pd.push (lo,nn,0))) (lo+nn):=by
 have e:sk (pd.push (lo,nn,0))=sk pd ++ [(lo,nn)]:=by simp [sk]
 refine⟨by rw [e]; exact r.ch.join ⟨rfl,n1,rfl⟩,fun q hq=>?_⟩
 rw [e] at hq
 rcases au2.mp hq with z | z
 ·exact r.up q z
 ·rw [aq3] at z
  subst z
  exact u
theorem vK (c:bG prog w A E s κ Ok rk) (o:aY Ok a0) (b:SB κ a0 pd st) {lo n:Nat}{Q:ForInStep RS->SortSt->Prop} (n1:1<=n) (n2:lo+n<=a0.size) (rn:Rn rk (arrOf st) (sk pd) lo) (u:Up rk (arrOf st) lo (lo+n))
  (h:∀ pd' st',SB κ a0 pd' st'->Rn rk (arrOf st') (sk pd') (lo+n)->Q (.yield (none,lo+n)) st'):wpS (model prog w) A E s (jn a0.size lo n) Q st:=by
 unfold jn
 refine ao7 (wpS_get ?_)
 rw [b.pd]
 cases hb:pd.back? with
 | none=>exact ao7 (wpS_modify (ap2 (h (pd.push (lo,n,0)) _ ⟨b.pm,b.kd,b.ok,by show (pendingOf st).push _=_; rw [b.pd]⟩ (vJ n1 rn u))))
 | some q=>
  obtain ⟨s1,m1,q3⟩:=q
  dsimp only
  generalize power' a0.size (2 * s1+m1) (2 * s1+m1+m1+n) a0.size=pw
  unfold vG
  refine ao7 (aA3 (au1
   (I:=fun _ r st'=>r=(none,())/\∃ pd,SB κ a0 pd st'/\Rn rk (arrOf st') (sk pd) lo/\Up rk (arrOf st') lo (lo+n))
   (Q:=fun r st'=>r=(none,())/\∃ pd,SB κ a0 pd st'/\Rn rk (arrOf st') (sk pd) lo/\Up rk (arrOf st') lo (lo+n)) ?_ (fun _ _ z=>z) ⟨rfl,pd,b,rn,u⟩) ?_)
  ·rintro t r st4 _ ht ⟨rfl,pd4,b4,r4,u4⟩
   refine ao7 (wpS_get ?_)
   rw [b4.pd]
   cases ho:(if pd4.size > 1 then pd4[pd4.size - 2]? else none) with
   | none=>exact ap2 ⟨rfl,pd4,b4,r4,u4⟩
   | some z=>
    obtain ⟨z1,z2,z3⟩:=z
    have h1:pd4.size > 1:=by
     by_cases y:pd4.size > 1
     ·exact y
     ·rw [if_neg y] at ho; cases ho
    dsimp only
    by_cases hp:z3<=pw
    ·rw [if_pos hp]
     exact ap2 ⟨rfl,pd4,b4,r4,u4⟩
    ·rw [if_neg hp]
     refine ao7 (vF c o b4 (by lia) (by lia) r4 fun pd5 st5 b5 _ r5 f5=>?_)
     exact ap2 ⟨rfl,pd5,b5,r5,fun i j hi hij hj=>by rw [f5 i hi,f5 j (by lia)]; exact u4 i j hi hij hj⟩
  ·rintro r st4 ⟨rfl,pd4,b4,r4,u4⟩
   refine ao7 (wpS_modify (ao7 (wpS_modify (ap2 ?_))))
   have e:sk (pd4.modify (pd4.size - 1) fun x=>(x.1,x.2.1,pw))=sk pd4:=by
    unfold sk
    rw [Array.toList_modify]
    apply List.ext_getElem?
    intro t
    rw [ar2,ar2,List.getElem?_modify]
    cases pd4.toList[t]? with
    | none=>simp
    | some v=>by_cases y:pd4.size - 1=t <;> simp [y]
   refine h ((pd4.modify (pd4.size - 1) fun x=>(x.1,x.2.1,pw)).push (lo,n,0)) _ ⟨b4.pm,b4.kd,b4.ok,?_⟩ (vJ n1 (by rw [e]; exact r4) u4)
   show ((pendingOf st4).modify ((pendingOf st4).size - 1) fun x=>(x.1,x.2.1,pw)).push _=_
   rw [b4.pd]
theorem X6 (c:bG prog w A E s κ Ok rk) (o:aY Ok a0) (b:SB κ a0 #[] st) {Q:Unit->SortSt->Prop} (h2:1<=a0.size)
  (h:∀ st',(arrOf st').Perm a0->failedOf st'=none->Up rk (arrOf st') 0 a0.size->Q () st'):wpS (model prog w) A E s sortRuns' Q st:=by
 rw [X5]
 refine ao7 (wpS_get ?_)
 rw [b.sz]
 generalize minRun' a0.size a0.size 0=mr
 refine ao7 (aA3 (au1
  (I:=fun x r st'=>∃ lo pd,r=(none,lo)/\x<=lo/\lo<=a0.size/\SB κ a0 pd st'/\Rn rk (arrOf st') (sk pd) lo)
  (Q:=fun r st'=>∃ pd,r=(none,a0.size)/\SB κ a0 pd st'/\Rn rk (arrOf st') (sk pd) a0.size) ?_ ?_ ⟨0,#[],rfl,ao8 _,av8 _,b,⟨rfl,fun r hr=>absurd hr (by simp [sk])⟩⟩) ?_)
 ·rintro x r st1 _ hx ⟨lo,pd,rfl,xl,lz,b1,rn⟩
  unfold vH
  dsimp only
  by_cases hd:lo >= a0.size
  ·rw [if_pos hd]
   have e:lo=a0.size:=by lia
   subst e
   exact ap2 ⟨pd,rfl,b1,rn⟩
  ·rw [if_neg hd]
   refine ao7 (V6 c o b1 (by lia) (by lia) fun n st2 b2 n1 n2 u2 l2=>?_)
   have rn2:=rn.same l2
   dsimp only
   by_cases hmr:n < mr
   ·rw [if_pos hmr]
    refine ao7 (wpS_lift (az2 ⟨rfl,?_⟩))
    refine ao7 (V7 c o b2 (by lia) (by lia) u2 fun st3 b3 u3 l3=>?_)
    rw [if_neg (by decide)]
    exact vK c o b3 (by lia) (by lia) (rn2.same l3) u3 fun pd' st' b' r'=>⟨_,pd',rfl,by lia,by lia,b',r'⟩
   ·rw [if_neg hmr]
    exact vK c o b2 n1 (by lia) rn2 u2 fun pd' st' b' r'=>⟨lo+n,pd',rfl,by lia,by lia,b',r'⟩
 ·rintro r st1 ⟨lo,pd,rfl,xl,lz,b1,rn⟩
  have e:lo=a0.size:=by lia
  subst e
  exact⟨pd,rfl,b1,rn⟩
 ·rintro r st1 ⟨pd,rfl,b1,rn⟩
  dsimp only
  unfold vI
  refine ao7 (aA3 (au1
   (I:=fun t r st'=>r=(none,())/\∃ pd,SB κ a0 pd st'/\Rn rk (arrOf st') (sk pd) a0.size/\(pd.size+t<=a0.size ∨ pd.size<=1))
   (Q:=fun r st'=>r=(none,())/\∃ pd,SB κ a0 pd st'/\Rn rk (arrOf st') (sk pd) a0.size/\pd.size<=1) ?_ ?_ ⟨rfl,pd,b1,rn,.inl (by have:=rn.ch.len; rw [mH] at this; lia)⟩) ?_)
  ·rintro t r st2 _ ht ⟨rfl,pd,b2,rn2,pr⟩
   refine ao7 (wpS_get ?_)
   rw [b2.pd]
   by_cases h1:pd.size<=1
   ·rw [if_pos h1]
    exact ap2 ⟨rfl,pd,b2,rn2,h1⟩
   ·rw [if_neg h1]
    refine ao7 (vF c o b2 ?_ (ao8 _) rn2 fun pd' st3 b3 sz3 rn3 _=>?_)
    ·split <;> split <;> lia
    ·exact ap2 ⟨rfl,pd',b3,rn3,by lia⟩
  ·rintro r st2 ⟨rfl,pd,b2,rn2,pr⟩
   exact⟨rfl,pd,b2,rn2,by lia⟩
  ·rintro r st2 ⟨rfl,pd,b2,rn2,pr⟩
   refine ap2 (h st2 b2.pm b2.ok ?_)
   have ch:=rn2.ch
   have up:=rn2.up
   rw [<- mH] at pr
   cases e:sk pd with
   | nil=>rw [e] at ch; exact absurd (show 0=a0.size from ch) (by lia)
   | cons r l=>
    rw [e] at ch up pr
    have el:l = []:=List.eq_nil_of_length_eq_zero (by have:=pr; rw [au7] at this; lia)
    subst el
    obtain ⟨p,n⟩:=r
    obtain ⟨q1,q2,q3⟩:=ch
    have q1:p=0:=q1
    have q3:0+n=a0.size:=q3
    subst q1
    have:=up (0,n) (by simp)
    rw [<- q3]; exact this
end SO
namespace L2
open PySem PySem.Spec PyProof.Rows SO
noncomputable abbrev dB (h:Heap) (a:Addr) (vs:List Value):Heap:=((h.update a (Obj.mapSeq fun _=>#[])).push (seqObj "tuple" vs.toArray 0)).push (seqObj "list" #[] 0)
noncomputable abbrev dG (h:Heap) (vs:List Value):Heap:=((h.push (seqObj "list" #[] 0)).update h.objs.size (Obj.mapSeq (· ++ vs.toArray))).push (seqObj "list" vs.toArray 0)
theorem X7 {h:Heap}{vs:List Value}{b:Addr}{o:Obj} (e:h.get? b=some o):(dG h vs).get? b=some o:=by
 have l:=ap3 e
 refine ao3 _ ?_
 rw [Heap.get?_update_ne _ _ _ _ (as1 l)]
 exact ao3 _ e
theorem X8 {h:Heap}{vs:List Value}{a b:Addr}{o:Obj} (hb:b ≠ a) (e:h.get? b=some o):(dB h a vs).get? b=some o:=by
 refine ao3 _ (ao3 _ ?_)
 rw [Heap.get?_update_ne _ _ _ _ hb]; exact e
theorem X9 {prog:Program}{w:World}{A:Around}{E:Value->Shared->Prop}{s:Shared}{a:Addr}{vs:List Value}{n:Nat}{P:PySem.Fin->Shared->Prop}{κ:SortKind}{Ok:Keyed->Prop}{rk:Keyed->Int}
  (e:s.heap.get? a=some (seqObj "list" vs.toArray n)) (h2:2<=vs.length) (big:vs.length<=sizeLine)
  (hk:∀ Q:SortKind->Shared->Prop,Q κ { s with heap:=dB s.heap a vs }->wpAny (model prog w) A (keyKind' vs.toArray) Q E { s with heap:=dB s.heap a vs })
  (c:bG prog w A E { s with heap:=dB s.heap a vs } κ Ok rk) (o:∀ v ∈ vs,Ok (v,v))
  (q:∀ out:List Value,out.Perm vs->out.Pairwise (fun u v=>rk (u,u)<=rk (v,v))->P (.done (.ret .none)) { s with heap:=sortedHeap s.heap a vs out.toArray }):wpAny (model prog w) A (Builtin.«list.sort» ⟨[.ref a],[]⟩) P E s:=by
 have la:=ap3 e
 have cc : ¬ vs.toArray.size < 2:=by simpa using h2
 obtain ⟨k,ek⟩:∃ k,(s.heap.update a (Obj.mapSeq fun _=>#[])).get? a=some (seqObj "list" #[] k):=⟨_,get?_update_seq e fun _=>#[]⟩
 have there:(dB s.heap a vs).get? a=some (seqObj "list" #[] k):=ao3 _ (ao3 _ ek)
 rw [list_sort_plain]
 apply ao2
 apply listItems_at e rfl
 apply ao2
 refine listUpdate_at e rfl ?_ (by simpa using big) (av8 _)
 apply ao2
 apply seqEpoch_at ek rfl
 apply ao2
 refine wpAny_newTuple ?_ big
 apply ao2
 refine wpAny_newList ?_ (av8 _)
 apply ay5
 simp only [cc,aA1]
 apply ao2
 refine hk _ ?_
 have zl:(vs.toArray.zip vs.toArray).toList=vs.zip vs:=by simp
 apply ao2
 refine au5 (X6 (a0:=vs.toArray.zip vs.toArray) (Q:=fun _ st'=>(arrOf st').Perm (vs.toArray.zip vs.toArray)/\failedOf st'=none/\Up rk (arrOf st') 0 (vs.toArray.zip vs.toArray).size) c (fun x hx=>?_) ⟨Array.Perm.refl _,rfl,rfl,rfl⟩ (by simp; lia) fun st' a1 a2 a3=>⟨a1,a2,a3⟩) ?_ fun _ _ z=>z
 ·have hx':x ∈ vs.zip vs:=by rw [<- zl]; exact Array.mem_toList_iff.mpr hx
  obtain ⟨y1,y2⟩:=mem_zip_self hx'
  have:=o x.1 y2
  have ex:x=(x.1,x.1):=Prod.ext rfl y1.symm
  rw [ex]; exact this
 ·rintro ⟨⟨⟩,st'⟩ s' ⟨rfl,pm,ok,up⟩
  have lp:(arrOf st').toList.Perm (vs.zip vs):=by rw [<- zl]; exact Array.perm_iff_toList_perm.mp pm
  have out:(arrOf st').map (·.2)=((arrOf st').toList.map (·.2)).toArray:=by apply Array.toList_inj.mp; rw [Array.toList_map]
  have op:((arrOf st').toList.map (·.2)).Perm vs:=by
   have:=lp.map (·.2)
   rw [lF] at this; exact this
  have sz:(arrOf st').size=vs.length:=by rw [pm.size_eq]; simp
  dsimp only
  apply ao2
  apply seqEpoch_at there rfl
  apply ao2
  refine listUpdate_at there rfl ?_ (av8 _) (by rw [Array.size_map,sz]; exact Nat.le_succ_of_le big)
  rw [ok]
  simp only [bne_self_eq_false,as8,aA1]
  refine ao9 ?_
  have hq:=q _ op ?_
  ·rw [<- out] at hq; exact hq
  ·rw [ax8,au9]
   intro i j hi hj hij
   have hi':i < (arrOf st').size:=by simpa using hi
   have hj':j < (arrOf st').size:=by simpa using hj
   have h1:=up i j (av8 _) (ax0 hij) (by simp; lia)
   rw [bC hi',bC hj'] at h1
   have dg:∀ x ∈ (arrOf st').toList,(x.2,x.2)=x:=fun x hx=>Prod.ext (mem_zip_self (lp.mem_iff.mp hx)).1.symm rfl
   rw [dg _ (aw8 hi),dg _ (aw8 hj)]
   simpa using h1
theorem Y0 {prog:Program}{w:World}{A:Around}{E:Value->Shared->Prop}{s:Shared}{l:Addr}{vs:List Value}{Q:Value->Shared->Prop}{κ:SortKind}{Ok:Keyed->Prop}{rk:Keyed->Int}
  (hl:s.heap.IsList l vs.toArray) (h2:2<=vs.length) (big:vs.length<=sizeLine)
  (hk:∀ (A:Around) (E:Value->Shared->Prop) (Q:SortKind->Shared->Prop),Q κ { s with heap:=dB (dG s.heap vs) (s.heap.objs.size+1) vs }->wpAny (model prog w) A (keyKind' vs.toArray) Q E { s with heap:=dB (dG s.heap vs) (s.heap.objs.size+1) vs })
  (c:∀ (A:Around) (E:Value->Shared->Prop),bG prog w A E { s with heap:=dB (dG s.heap vs) (s.heap.objs.size+1) vs } κ Ok rk) (o:∀ v ∈ vs,Ok (v,v))
  (q:∀ out:List Value,out.Perm vs->out.Pairwise (fun u v=>rk (u,u)<=rk (v,v))->Q (.ref (s.heap.objs.size+1)) { s with heap:=sortedAll s.heap vs out.toArray }):wpAny (model prog w) A (call (.builtin "sorted") [.ref l]) Q E s:=by
 apply Calls.call_function_entry kind_sorted plain_sorted entry_sorted (args_sorted1 _)
 simp only [Builtin.«sorted»]
 apply ao2 (m:=checkCount "sorted" 1 1 _)
 apply ao9
 apply ao2
 refine collect_list hl ?_ big
 apply ao2
 refine wpAny_newList ?_ big
 have one:((s.heap.push (seqObj "list" #[] 0)).update s.heap.objs.size (Obj.mapSeq (· ++ vs.toArray))).objs.size=s.heap.objs.size+1:=(Heap.size_update _ _ _).trans (size_push' _ _)
 have at1:(dG s.heap vs).get? (s.heap.objs.size+1)=some (seqObj "list" vs.toArray 0):=one ▸ aq8 _ rfl
 change wpAny _ _ _ _ _ { s with heap:=dG s.heap vs }
 rw [one]
 apply ao2
 apply ay5
 refine aw6 slot_list_sort ⟨_,at1,rfl⟩ entry_list_sort ?_ (args_list_sort _)
 exact X9 (s:={ s with heap:=dG s.heap vs }) at1 h2 big (hk _ _) (c _ _) o fun out a1 a2=>⟨_,rfl,ao9 ⟨_,rfl,q out a1 a2⟩⟩
noncomputable def mI (h:Heap) (B:Int) (x:Keyed):Int:=match x.1 with
 | .ref b=>match h.get? b with
  | some ob=>match ob.data with
   | .seq us _=>numOf (us.getD 0 .none) * B+numOf (us.getD 1 .none)
   | _=>0
  | none=>0
 | _=>0
structure gB (h:Heap) (M:Int) (v:Value) (p q:Int):Prop where
 at_:∃ b ob us n,v = .ref b/\h.get? b=some ob/\ob.cls = .type "tuple"/\ob.data = .seq (List.toArray us) n/\IntsAre us [p,q]
 lo : -M<=q
 hi:q<=M
theorem gB.rk {h:Heap}{M B:Int}{x:Keyed}{p q:Int} (z:gB h M x.1 p q):mI h B x=p * B+q:=by
 obtain ⟨b,ob,us,n,e1,e2,_,e4,e5⟩:=z.at_
 cases e5 with
 | cons _ t e6=>cases e6 with
  | cons _ u e7=>cases e7; unfold mI; rw [e1]; dsimp only; rw [e2]; dsimp only; rw [e4]; rfl
theorem vL {p q p' q' M:Int} (h1 : -M<=q) (h2:q<=M) (h3 : -M<=q') (h4:q'<=M):HT.bF [p,q] [p',q']=decide (p * (2 * M+1)+q < p' * (2 * M+1)+q'):=by
 rw [HT.gG]
 have mm:∀ {a b:Int},a < b->a * (2 * M+1)+(2 * M+1)<=b * (2 * M+1):=fun {a b} z=>by
  have:=Int.mul_le_mul_of_nonneg_right (show a+1<=b by lia) (show 0<=2 * M+1 by lia)
  rw [Int.add_mul,Int.one_mul] at this
  exact this
 by_cases e:p=p'
 ·subst e
  rw [if_pos rfl,HT.gG]
  by_cases e2:q=q'
  ·subst e2
   rw [if_pos rfl,HT.oD,ao5 (by lia)]
  ·rw [if_neg e2]
   by_cases l:q < q'
   ·rw [ap7 l,ap7 (by lia)]
   ·rw [ao5 l,ao5 (by lia)]
 ·rw [if_neg e]
  by_cases l:p < p'
  ·have:=mm l
   rw [ap7 l,ap7 (by lia)]
  ·have:=mm (show p' < p by lia)
   rw [ao5 l,ao5 (by lia)]
theorem Y1 {prog:Program}{w:World}{A:Around}{E:Value->Shared->Prop}{s:Shared}{M:Int}:bG prog w A E s (tuples' true) (fun x=>∃ p q,gB s.heap M x.1 p q) (mI s.heap (2 * M+1)):=by
 rintro x y ⟨p,q,z⟩ ⟨p',q',z'⟩ st Q hk hq
 rw [z.rk,z'.rk] at hq
 rw [<- vL z.lo z.hi z'.lo z'.hi] at hq
 obtain ⟨b,ob,us,n,e1,e2,e3,e4,e5⟩:=z.at_
 obtain ⟨b',ob',us',n',e1',e2',e3',e4',e5'⟩:=z'.at_
 rw [lt'_eq]
 refine ao7 (wpS_get ?_)
 rw [hk,e1,e1']
 refine ao7 (wpS_lift (wpAny_attempt (PySem.W.kat_lt e2 e4 e2' e4' ?_)))
 have:=tR (prog:=prog) (w:=w) (A:=A) (s:=s) (Q:=fun a s'=>s'=s/\wpS (model prog w) A E s (pure (some a)) Q st) 0 e5 e5' ⟨rfl,ap2 hq⟩
 simpa using this
theorem Y2 {vs vs':List Value} (h:vs.Perm vs'):∀ {xs:List V},aF xs vs->∃ xs',xs'.Perm xs/\aF xs' vs':=by
 induction h with
 | nil=>intro xs r; exact⟨xs,List.Perm.refl _,r⟩
 | cons v _ ih=>
  intro xs r
  cases r with
  | cons r t=>
   obtain ⟨xs',p,r'⟩:=ih t
   exact⟨_ :: xs',p.cons _,.cons r r'⟩
 | swap u v l=>
  intro xs r
  cases r with
  | cons r t=>cases t with
   | cons r2 t2=>exact⟨_,List.Perm.swap _ _ _,.cons r2 (.cons r t2)⟩
 | trans _ _ ih1 ih2=>
  intro xs r
  obtain ⟨x1,p1,r1⟩:=ih1 r
  obtain ⟨x2,p2,r2⟩:=ih2 r1
  exact⟨x2,p2.trans p1,r2⟩
theorem vM {α:Type} (f:α->Int):∀ l:List α,∃ M:Int,∀ y ∈ l,-M<=f y/\f y<=M
 | []=>⟨0,fun _ h=>nomatch h⟩
 | x :: l=>by
  obtain ⟨M,h⟩:=vM f l
  refine⟨max M (max (f x) (- f x)),fun y hy=>?_⟩
  rcases ap0.mp hy with e | e
  ·subst e; lia
  ·have:=h y e; lia
noncomputable def vN (K:PySem.W.Frag):List V->Hp->VK->Prop:=fun xs H Q=>∃ (a:Addr) (ys:List V) (key:V->List Int),xs = [.ref a]/\aG K H a ys/\ys.length<=4096/\(∀ y ∈ ys,∃ b,y = .ref b/\aE K H b ((key y).map V.int)/\(key y).length=2)/\
 ∀ l (zs:List V),H l=none->zs.Perm ys->zs.Pairwise (fun u v=>HT.bF (key v) (key u)=false)->Q (.ref l) (upd H l (.lst zs))
theorem Y3 {X:Cx}:bV X (.builtin "sorted") (vN X.K):=by
 intro pins s σ H xs us Q I r h
 obtain ⟨a,ys,key,rfl,hs,hz4,hk,q⟩:=h
 obtain ⟨u,rfl,ru⟩:=eW r
 cases ru
 obtain ⟨its,rv,p,hz⟩:=I.list hs
 have hl:=rv.length
 have hn:s.heap.objs.size<=s.heap.objs.size+1:=Nat.le_succ _
 by_cases h2:its.length < 2
 ·refine M6 p.isList h2 ?_
  obtain ⟨e,he⟩:=sortedAll_at s.heap its its.toArray
  refine⟨.ref (s.heap.objs.size+1),upd H (s.heap.objs.size+1) (.lst ys),I.laid (t':=s.toks) (fun _ _=>sortedAll_old) hn ⟨hz,its,e,rv,he⟩,rfl,q _ ys (I.hok.fresh hn) (List.Perm.refl _) ?_⟩
  match ys,hl with
  | [],_=>exact List.Pairwise.nil
  | [_],_=>exact List.pairwise_singleton _ _
  | _ :: _ :: _,hl=>simp at hl; lia
 ·obtain ⟨M,hM⟩:=vM (fun y=>(key y).getD 1 0) ys
  have pv:∀ {y:V}{v:Value},aP y v->y ∈ ys->∃ pp qq,key y = [pp,qq]/\gB (dB (dG s.heap its) (s.heap.objs.size+1) its) M v pp qq:=fun {y v} ry hy=>by
   obtain ⟨b,rfl,sq,l2⟩:=hk y hy
   cases ry
   obtain ⟨us,ru,⟨ob,e1,c1,n1,d1⟩,_⟩:=I.tuple sq
   have ia:=gT ru
   have mm:=hM _ hy
   match hkk:key (V.ref b),l2 with
   | [pp,qq],_=>
    rw [hkk] at ia mm
    exact⟨pp,qq,rfl,⟨b,ob,us,n1,rfl,X8 (as1 (Nat.lt_succ_of_lt (ap3 e1))) (X7 e1),c1,d1,ia⟩,mm.1,mm.2⟩
  have pvs:∀ {xs:List V}{vs:List Value},aF xs vs->(∀ y ∈ xs,y ∈ ys)->∀ v ∈ vs,∃ pp qq,gB (dB (dG s.heap its) (s.heap.objs.size+1) its) M v pp qq:=by
   intro xs vs r
   induction r with
   | nil=>intro _ v hv; cases hv
   | cons rx rt ih=>
    intro hh v hv
    rcases ap0.mp hv with z | z
    ·subst z
     obtain ⟨pp,qq,_,z⟩:=pv rx (hh _ aq9)
     exact⟨pp,qq,z⟩
    ·exact ih (fun y hy=>hh y (aq4 _ hy)) v z
  have firsts:∀ {vs:List Value},(∀ v ∈ vs,∃ pp qq,gB (dB (dG s.heap its) (s.heap.objs.size+1) its) M v pp qq)->∃ fs:List Value,PySem.W.KatTups (dB (dG s.heap its) (s.heap.objs.size+1) its) vs fs/\fs.length=vs.length/\∀ v ∈ fs,∃ i t,v=Value.int i t:=by
   intro vs
   induction vs with
   | nil=>intro _; exact⟨[],PySem.W.KatTups.nil,rfl,fun _ z=>nomatch z⟩
   | cons v vs ih=>
    intro hh
    obtain ⟨fs,t1,t2,t3⟩:=ih fun y hy=>hh y (aq4 _ hy)
    obtain ⟨pp,qq,z⟩:=hh v aq9
    obtain ⟨b,ob,us,n,rfl,e2,e3,e4,e5⟩:=z.at_
    cases e5 with
    | cons _ t e6=>exact⟨Value.int pp t :: fs,PySem.W.KatTups.cons e2 e3 e4 (by simp) t1,by simp [t2],fun v hv=>(ap0.mp hv).elim (fun z=>⟨pp,t,z⟩) (t3 v)⟩
  have allp:=pvs rv fun _ h=>h
  obtain ⟨fs,t1,t2,t3⟩:=firsts allp
  refine Y0 (κ:=tuples' true) (Ok:=fun x=>∃ pp qq,gB (dB (dG s.heap its) (s.heap.objs.size+1) its) M x.1 pp qq) (rk:=mI (dB (dG s.heap its) (s.heap.objs.size+1) its) (2 * M+1)) p.isList (by lia) (by rw [<- hl]; exact hz)
   (fun A E Q hQ=>?_) (fun A E=>Y1 (s:={ s with heap:=dB (dG s.heap its) (s.heap.objs.size+1) its })) (fun v hv=>allp v hv) fun out pm so=>?_
  ·refine PySem.W.kat_kind (T:=.type "int") t1 (by lia) (fun v hv=>?_) (by decide) ?_
   ·obtain ⟨i,t,rfl⟩:=t3 v hv
    exact PySem.W.Looks.now
   ·have eT:(Value.type "int" != Value.type "tuple")=true:=by decide
    rw [eT]; exact hQ
  ·obtain ⟨zs,pz,rz⟩:=Y2 pm.symm rv
   obtain ⟨e,he⟩:=sortedAll_at s.heap its out.toArray
   refine⟨.ref (s.heap.objs.size+1),upd H (s.heap.objs.size+1) (.lst zs),I.laid (t':=s.toks) (fun _ _=>sortedAll_old) hn ⟨by rw [pz.length_eq]; exact hz,out,e,rz,he⟩,rfl,q _ zs (I.hok.fresh hn) pz ?_⟩
   have lz:=rz.length
   rw [au9]
   intro i j hi hj hij
   have s1:=au9.mp so i j (by lia) (by lia) hij
   have gi:=oP i hi rz
   have gj:=oP j hj rz
   simp only [ap5,ao6 hi,ao6 hj,ao6 (show i < out.length by lia),ao6 (show j < out.length by lia),Option.getD_some] at gi gj
   obtain ⟨pi,qi,ki,vi⟩:=pv gi (pz.mem_iff.mp (aw8 hi))
   obtain ⟨pj,qj,kj,vj⟩:=pv gj (pz.mem_iff.mp (aw8 hj))
   rw [gB.rk (x:=(out[i],out[i])) vi,gB.rk (x:=(out[j],out[j])) vj] at s1
   rw [ki,kj,vL vj.lo vj.hi vi.lo vi.hi]
   exact ao5 (by lia)
end L2
namespace L2
open PySem PySem.Spec PyProof.Rows
theorem bM.at {P:Program}{w:World}{H:Hp}{h:Heap}{a:Addr}{o:HO} (x:bM P w H h a o):∃ ob,h.get? a=some ob:=by
 cases o with
 | lst xs=>obtain ⟨_,_,_,_,e⟩:=x; exact⟨_,e⟩
 | tup xs=>obtain ⟨_,_,_,⟨_,e,_⟩,_⟩:=x; exact⟨_,e⟩
 | dK kvs=>obtain ⟨_,_,_,_,_,_,_,e,_⟩:=x; exact⟨_,e⟩
 | dT kvs=>obtain ⟨_,_,_,_,_,_,_,e,_⟩:=x; exact⟨_,e⟩
 | set S n=>obtain ⟨_,_,_,_,e,_⟩:=x; exact⟨_,e⟩
 | ins C dx fs=>obtain ⟨_,_,_,e,_⟩:=x; exact⟨_,e⟩
 | own y=>exact x
 | xd fs=>obtain ⟨_,⟨_,_,_,e,_⟩,_⟩:=x; exact⟨_,e⟩
 | rng lo hi=>obtain ⟨_,_,_,e⟩:=x; exact⟨_,e⟩
 | frz ob u=>obtain ⟨e,_⟩:=x; exact⟨_,e⟩
 | tbl ps=>exact⟨_,x⟩
 | met f y=>exact⟨_,x⟩
 | ext φ=>exact x.2.1
structure iC (P:Program) (w:World) (outer:List Env) (H:Hp) (s:Shared) (H':Hp) (B:Heap) (a C:Addr) (s':Shared):Prop where
 os:s'.os=s.os
 bare:AllBare s'.gens
 un:Un (b6 outer) [] H H' s.heap s'.heap
 hok:bD P w H' s'.heap
 fly:∃ a0,Heap.FlyingW B outer a (.ref C) a0 s'.heap
 b0:∀ b o,s.heap.get? b=some o->b ∉ b6 outer->∃ o',B.get? b=some o'
 b1:∀ b o,s.heap.get? b=some o->H b=none->b ∉ b6 outer->B.get? b=some o
 b2:∀ b u o,H' b=some u->s'.heap.get? b=some o->B.get? b=some o
noncomputable def cK (P:Program) (w:World):dZ:=fun outer H s E e s'=>∃ (H':Hp) (B:Heap) (a C:Addr),e = .ref a/\iC P w outer H s H' B a C s'/\E (.ref C) none H'
section
variable {P : Program} {w : World} {outer : List Env} {H H' : Hp} {s s' : Shared} {B h2 : Heap} {a C : Addr}
theorem iC.fresh (f:iC P w outer H s H' B a C s'):H' a=none:=by
 cases q:H' a with
 | none=>rfl
 | some u=>
  obtain ⟨ob,e⟩:=(f.hok a u q).at
  have z:=f.b2 a u ob q e
  obtain ⟨_,_,n,_⟩:=f.fly
  rw [n] at z; cases z
theorem iC.hok2 (f:iC P w outer H s H' B a C s') (k:B.StaysIn h2):bD P w H' h2:=fun b u e=>
 (f.hok b u e).stay (fun c v hc q=>by
  rcases hc with z | z
  ·subst z; exact k _ _ (f.b2 _ _ _ e q)
  ·exact k _ _ (f.b2 _ _ _ z q)) (fun _ q=>q) fun _ _ q=>q
end
section
variable {P : Program} {w : World} {K : PySem.W.Frag} {mg : Str → Option Value} {base : Heap} {N : List Str} {qual : Str} {scope : Scope} {f : Addr} {cd : Value} {A : Around} {outer : List Env} {s₀ : Shared} {H₀ : Hp} {E₀ E₁ : XK}
theorem mJ {pins:List (Addr × Obj)}{σ:St}{H:Hp}{s:Shared} (I:a5 (bW (cK P w) P w K mg base N qual scope f cd A outer s₀ H₀ E₀) pins σ H s) {b:Addr}{o:Obj} (e:s₀.heap.get? b=some o) (n:b ∉ b6 outer) :
  b ∉ b6 (envOfC qual scope s₀.heap.objs.size f cd :: outer):=fun z=>by
 rcases ap0.mp (I.stkSub b z) with y | y
 ·have l:=ap3 e
  have y:b=s₀.heap.objs.size:=y
  exact absurd l (by rw [y]; exact at8 _)
 ·exact n y
theorem Y4 (hE:∀ c d H',E₁ c d H'->E₀ c d H'):jK (cK P w) (bW (cK P w) P w K mg base N qual scope f cd A outer s₀ H₀ E₀) E₁:=by
 intro pins σ H s e s' I hx
 obtain ⟨H',B,a,C,e1,fl,q⟩:=hx
 subst e1
 have I':=I.call' fl.os fl.un fl.hok fl.bare (ch:=[]) (fun b z=>absurd z (by simp))
 obtain ⟨a0,fly⟩:=fl.fly
 refine wpAny_leaves_onW I.ok.frames rfl fly fun h' fly' up=>?_
 have slot:∀ b o,s₀.heap.get? b=some o->b ∈ b6 outer->∃ sl,h'.get? b=some { o with slots:=sl }:=fun b o e hb=>by
  obtain ⟨sl,e1⟩:=I'.base.slot b o e (I.ok.frf b hb) hb (fun z=>nomatch z)
  obtain ⟨_,o2,e2,nf⟩:=I.ok.funs.mem hb
  rw [show (bW (cK P w) P w K mg base N qual scope f cd A outer s₀ H₀ E₀).s₀=s₀ from rfl,e] at e2
  cases e2
  obtain ⟨sl',e3⟩:=up b _ e1 nf
  exact⟨sl',e3⟩
 have old:∀ b o,s₀.heap.get? b=some o->H₀ b=none->b ∉ b6 outer->B.get? b=some o:=fun b o e n hb=>
  fl.b1 b o (I.base.keep b o e n hb (fun z=>nomatch z)) (I.base.free b o e n (fun z=>nomatch z)) (mJ I e hb)
 have old0:∀ b o,s₀.heap.get? b=some o->b ∉ b6 outer->∃ o',B.get? b=some o':=fun b o e hb=>by
  obtain ⟨o1,e1⟩:=I.base.there b o e (fun z=>nomatch z)
  exact fl.b0 b o1 e1 (mJ I e hb)
 refine⟨H',B,a,C,rfl,⟨I'.os,I'.bare,⟨fun b o e n hb _=>fly'.1 _ _ (old b o e n hb),fun b o e n hb _=>slot b o e hb,fun b o e n hx=>I'.base.free b o e n hx,fun b o e _=>?_,I'.base.tups,I'.base.frzs,I'.base.tbls⟩,fl.hok2 fly'.1,⟨a0,fly'⟩,old0,old,fun b u o e h=>?_⟩,hE _ _ _ q⟩
 ·by_cases hb:b ∈ b6 outer
  ·obtain ⟨sl,e1⟩:=slot b o e hb
   exact⟨_,e1⟩
  ·obtain ⟨o',e1⟩:=old0 b o e hb
   exact⟨o',fly'.1 _ _ e1⟩
 ·obtain ⟨ob,e1⟩:=(fl.hok b u e).at
  have e2:=fl.b2 b u ob e e1
  have e3:=fly'.1 _ _ e2
  have h:h'.get? b=some o:=h
  rw [h] at e3; cases e3; exact e2
theorem Y5 {pins:List (Addr × Obj)}{σ:St}{H:Hp}{s:Shared}{h':Heap}{e C:Addr}{args:List Value} (I:a5 (bW (cK P w) P w K mg base N qual scope f cd A outer s₀ H₀ E₀) pins σ H s) (mx:Heap.MadeExcOf s.heap h' e (.ref C) args) (q:E₀ (.ref C) none H) :
  (bW (cK P w) P w K mg base N qual scope f cd A outer s₀ H₀ E₀).xe (.ref e) { s with heap:=h' }:=by
 have tr:∀ b u,H b=some u->b ∉ b6 (envOfC qual scope s₀.heap.objs.size f cd :: outer):=fun b u z n=>by
  rw [I.stkFree b n] at z; cases z
 have inB:∀ b o,s.heap.get? b=some o->b ∉ b6 (envOfC qual scope s₀.heap.objs.size f cd :: outer)->(PySem.W.hideAll s.heap (b6 (envOfC qual scope s₀.heap.objs.size f cd :: outer))).get? b=some o:=fun b o z n=>PySem.W.hideAll_get _ z n
 refine wpAny_leaves_madeW (base:=PySem.W.hideAll s.heap (b6 (envOfC qual scope s₀.heap.objs.size f cd :: outer))) I.ok.frames rfl (fun b o z=>PySem.W.of_hideAll _ z) (PySem.W.funFrames_hide I.stack fun env he b hb=>List.mem_filterMap.mpr ⟨env,he,hb⟩) mx fun h'' t fly _ _ up=>?_
 have slot:∀ b o,s₀.heap.get? b=some o->b ∈ b6 outer->∃ sl,h''.get? b=some { o with slots:=sl }:=fun b o e hb=>by
  obtain ⟨sl,e1⟩:=I.base.slot b o e (I.ok.frf b hb) hb (fun z=>nomatch z)
  obtain ⟨_,o2,e2,nf⟩:=I.ok.funs.mem hb
  rw [show (bW (cK P w) P w K mg base N qual scope f cd A outer s₀ H₀ E₀).s₀=s₀ from rfl,e] at e2
  cases e2
  obtain ⟨sl',e3⟩:=up b _ (mx.keeps _ _ e1) nf
  exact⟨sl',e3⟩
 have old:∀ b o,s₀.heap.get? b=some o->H₀ b=none->b ∉ b6 outer->(PySem.W.hideAll s.heap (b6 (envOfC qual scope s₀.heap.objs.size f cd :: outer))).get? b=some o:=fun b o e n hb=>
  inB b o (I.base.keep b o e n hb (fun z=>nomatch z)) (mJ I e hb)
 have old0:∀ b o,s₀.heap.get? b=some o->b ∉ b6 outer->∃ o',(PySem.W.hideAll s.heap (b6 (envOfC qual scope s₀.heap.objs.size f cd :: outer))).get? b=some o':=fun b o e hb=>by
  obtain ⟨o1,e1⟩:=I.base.there b o e (fun z=>nomatch z)
  exact⟨o1,inB b o1 e1 (mJ I e hb)⟩
 refine⟨H,_,e,C,rfl,⟨I.os,I.bare,⟨fun b o e n hb _=>fly.1 _ _ (old b o e n hb),fun b o e n hb _=>slot b o e hb,fun b o e n hx=>I.base.free b o e n hx,fun b o e _=>?_,I.base.tups,I.base.frzs,I.base.tbls⟩,fun b u z=>?_,⟨_,fly⟩,old0,old,fun b u o z h=>?_⟩,q⟩
 ·by_cases hb:b ∈ b6 outer
  ·obtain ⟨sl,e1⟩:=slot b o e hb
   exact⟨_,e1⟩
  ·obtain ⟨o',e1⟩:=old0 b o e hb
   exact⟨o',fly.1 _ _ e1⟩
 ·refine (I.hok b u z).stay (fun c v hc y=>?_) (fun _ y=>y) fun _ _ y=>y
  rcases hc with z' | z'
  ·subst z'; exact fly.1 _ _ (inB _ _ y (tr _ _ z))
  ·exact fly.1 _ _ (inB _ _ y (tr _ _ z'))
 ·obtain ⟨ob,e1⟩:=(I.hok b u z).at
  have e2:=inB b ob e1 (tr b u z)
  have e3:=fly.1 _ _ e2
  have h:h''.get? b=some o:=h
  rw [h] at e3; cases e3; exact e2
end
structure j9 (X:Cx) (E:XK):Prop where
 pass:jK (cK X.prog X.w) X E
 made:∀ (pins:List (Addr × Obj)) (σ:St) (H:Hp) (s:Shared) (h':Heap) (e C:Addr) (args:List Value),a5 X pins σ H s->Heap.MadeExcOf s.heap h' e (.ref C) args->E (.ref C) none H->X.xe (.ref e) { s with heap:=h' }
 own:PassesOwn (model X.prog X.w) X.A X.env X.xe
theorem Y6 {P:Program}{w:World}{K:PySem.W.Frag}{mg:Str->Option Value}{base:Heap}{N:List Str}{qual:Str}{scope:Scope}{f:Addr}{cd:Value}{A:Around}{outer:List Env}{s₀:Shared}{H₀:Hp}{E₀ E₁:XK} (hE:∀ c d H',E₁ c d H'->E₀ c d H') :
  j9 (bW (cK P w) P w K mg base N qual scope f cd A outer s₀ H₀ E₀) E₁:=
 ⟨Y4 hE,fun _ _ _ _ _ _ _ _ I mx q=>Y5 I mx (hE _ _ _ q),PassesOwn.leaving⟩
noncomputable def vO (E:XK) (C:Addr) (t:TA):TS:=fun _ σ H=>t σ H fun vs H1=>vs.length<=sizeLine/\E (.ref C) none H1
theorem Y7 {X:Cx}{E:XK}{x:Str}{C:Addr}{bm:List Value}{B newId initId:String}{np cpos pos:Pos}{e:Expr}{es:List Expr}{t:TA} (hX:j9 X E) (hc:X.calm=true) (O:OwnCls x C bm newId X.mg X.base) (FB:ExcBaseFacts B newId initId bm) (ha:PA X (e :: es) t) (hg:Gl X x)
  (hd:(x == ("__debug__" : Str))=false:=by decide) (he:starEach (e :: es) X.env=(false,eval e X.env) :: starEach es X.env:=by rfl) (hpl:(backTo cpos (starEach es X.env)).any (·.1)=false:=by rfl) :
  PS X (.Raise (some (.Call (.Name x np) (e :: es) [] cpos)) none pos) (vO E C t):=by
 intro pins s σ H D I h
 obtain ⟨tl,Na,nm,qn,bs,hx,sn,sub,ab,col,dd,k0,k1,k2,k3,k5,mN,hC,hN,hni,T⟩:=O.obj
 refine wpAny_Raise_call_subT (nm:=nm) (q:=qn) (N:=Na) (bs:=bs) (bm:=tl) (hdct:=hx) (sn:=sn) (sub:=sub) (ab:=ab) (col:=col) (dd:=dd) (k0:=k0) (k1:=k1) (k2:=k2) (k3:=k3) (k5:=k5) FB (C:=C) (mN:=mN) (T.hasType FB.hasBase) (I.ok.hd hc) (by rw [he]; show (false || (backTo cpos (starEach es X.env)).any (·.1))=false; rw [hpl]; rfl) hni (jE I hg O.bound ⟨rfl,?_⟩ hd)
 have h1:=ha cpos pins s σ H _ I h
 rw [he] at h1 ⊢
 refine Calls.evalArgs_plain (au5 h1 (fun us s2 h2=>?_) fun _ _ y=>y)
 obtain ⟨vs,H2,I2,r,hl,q⟩:=h2
 have r:aF vs us:=r
 exact⟨rfl,by show us.length<=sizeLine; rw [<- r.length]; exact hl,I2.bk _ _ hC,hN.keeps I2.bk,T.keeps I2.bk,fun h' e' mx=>hX.made pins σ H2 s2 h' e' C _ I2 mx q⟩
theorem dJ.okX {P:Program}{w:World}{K:PySem.W.Frag}{mg:Str->Option Value}{base:Heap}{x qual:Str}{st:Stmt}{f:Addr}{fd:FuncData}{N ps:List Str}{k:Nat}{sp:Sp} (F:dJ K x qual st f fd) (S:FnScope N ps (aO st)) (len:∀ vs H Q E,sp vs H Q E->vs.length=ps.length)
  (hbody:∀ (cdv:Value) (A:Around) (outer:List Env) (s:Shared) (H:Hp) (vs:List V) (Q:VK) (E:XK),bB k (A.deeper (envOfC qual (aO st) s.heap.objs.size f cdv))->sp vs H Q E->
   ∃ t,cH (bW (cK P w) P w K mg base N qual (aO st) f cdv A outer s H E) (cS st) t/\t { nx:=fun _ H'=>Q .non H',rt:=Q } (e8 N vs) H):bZ P w K mg base (cK P w) (k+1) f fd ps sp:=by
 obtain ⟨oc,od,kV,doc,pm,an,cdv,ct,osl,rfl,lk,hcd⟩:=F.ex
 exact sR lk hcd S len fun A outer s H vs Q E hr hsp=>hbody cdv A outer s H vs Q E hr hsp
section
variable {X : Cx} {pins : List (Addr × Obj)} {σ : St} {H H1 H' : Hp} {s s1 s' : Shared} {B h2 : Heap} {a C : Addr}
theorem vP {oe:Obj} (I:a5 X pins σ H1 s1) (fl:iC X.prog X.w X.stack H1 s1 H' B a C s') (st:B.StaysIn h2) (up:s'.heap.UpToSlots h2) (he:h2.get? a=some oe) :
  a5 X pins σ (upd H' a (.frz oe (.own a))) { s' with heap:=h2 }:=by
 obtain ⟨a0,fly⟩:=fl.fly
 have na:B.get? a=none:=fly.2.1
 have nf:a ∉ b6 X.stack:=fun z=>by
  obtain ⟨_,o,e,d⟩:=fly.2.2.1.mem z
  obtain ⟨o2,vs,e2,_,d2,_⟩:=fly.first
  rw [e] at e2; cases e2
  exact d vs d2
 have nb:∀ b o,s1.heap.get? b=some o->b ≠ a:=fun b o e z=>by
  subst z
  obtain ⟨o',e'⟩:=fl.b0 _ o e nf
  rw [na] at e'; cases e'
 have nt:∀ b u,H' b=some u->b ≠ a:=fun b u e z=>by
  subst z; rw [fl.fresh] at e; cases e
 have off:∀ b,b ≠ X.env.locals->b ∉ X.fs->b ∉ b6 X.stack:=fun b n1 n2 z=>(ap0.mp (I.stkSub b z)).elim n1 n2
 have slot:∀ b o,s1.heap.get? b=some o->b ∈ b6 X.stack->∃ sl,h2.get? b=some { o with slots:=sl }:=fun b o e hb=>by
  obtain ⟨sl,e1⟩:=fl.un.any e (I.stkFree b hb) (fun z=>nomatch z)
  obtain ⟨_,o2,e2,d⟩:=I.stack.mem hb
  rw [e] at e2; cases e2
  obtain ⟨sl',e3⟩:=up b _ e1 d
  exact⟨sl',e3⟩
 have ns:∀ m,s1.heap.Ns X.env.locals m->h2.Ns X.env.locals m:=fun m hm=>by
  obtain ⟨o,es,ep,e,r⟩:=hm
  obtain ⟨sl,e1⟩:=fl.un.any e I.free (fun z=>nomatch z)
  exact up.ns ⟨_,es,ep,e1,r⟩
 have hok:bD X.prog X.w (upd H' a (.frz oe (.own a))) h2:=fun b u e=>by
  by_cases hb:b=a
  ·subst hb; rw [bL] at e; cases e; exact⟨he,_,he⟩
  ·rw [aQ hb] at e
   exact (fl.hok2 st b u e).stay (fun _ _ _ q=>q) (fun c q=>by rw [aQ (nt c _ q)]; exact q) fun c xs q=>by rw [aQ (nt c _ q)]; exact q
 have bare:=fl.bare
 have un:=fl.un
 have b0:=fl.b0
 have b1:=fl.b1
 have os:=fl.os
 clear fl fly up
 obtain ⟨hh,g,d,t,os'⟩:=s'
 obtain rfl:os'=s1.os:=os
 show a5 X pins σ _ { s1 with heap:=h2,gens:=g,drawn:=d,toks:=t }
 refine I.step (h':=h2) (g':=g) (d':=d) (t':=t) (ch:=[]) (fun _ z=>nomatch z) (fun b o n1 n2 _ e n=>st _ _ (b1 b o e n (off b n1 n2))) (fun b o n1 hb _ e n=>?_) (fun b o _ e n=>by rw [aQ (nb b o e)]; exact un.free b o e n (fun z=>nomatch z)) (fun b o _ e=>?_)
  (fun b xs q=>by rw [aQ (nt b _ (un.tups b xs q))]; exact un.tups b xs q) (fun b o u q=>by rw [aQ (nt b _ (un.frzs b o u q))]; exact un.frzs b o u q) (fun b ps q=>by
   obtain ⟨more,q'⟩:=un.tbls b ps q
   exact⟨more,by rw [aQ (nt b _ q')]; exact q'⟩) ns hok bare
 ·by_cases hs:b ∈ b6 X.stack
  ·exact slot b o e hs
  ·exact⟨o.slots,st _ _ (b1 b o e n hs)⟩
 ·by_cases hb:b ∈ b6 X.stack
  ·obtain ⟨sl,e1⟩:=slot b o e hb
   exact⟨_,e1⟩
  ·obtain ⟨o',e1⟩:=b0 b o e hb
   exact⟨o',st _ _ e1⟩
noncomputable abbrev Cx.suite (X:Cx) (a:Addr):Cx:={ X with A:=X.A.mark (some (.ref a)),calm:=false,xe:=fun _ _=>False }
theorem Cx.Ok.suite {X:Cx} (ok:X.Ok) (a:Addr):(X.suite a).Ok:=
 ⟨ok.mod,ok.kind,ok.glob,ok.blt,ok.above,ok.inj,ok.has,ok.cab,fun z=>Bool.noConfusion z,ok.frames,ok.stk,ok.exf,ok.bs,ok.bsz,ok.noex,ok.exfs,ok.funs,ok.frf⟩
theorem a5.suite (I:a5 X pins σ H s) (a:Addr):a5 (X.suite a) pins σ H s:=⟨I.ok.suite a,I.os,I.bare,I.base,I.loc,I.cell,I.free,I.freeC,I.pin,I.hok,I.len⟩
theorem a5.unsuite (I:a5 (X.suite a) pins σ H s) (ok:X.Ok):a5 X pins σ H s:=⟨ok,I.os,I.bare,I.base,I.loc,I.cell,I.free,I.freeC,I.pin,I.hok,I.len⟩
theorem mK {M:Model}{A:Around}{E:Value->Shared->Prop}{i:Nat}{x:Str}{pos:Pos}{Q:Unit->Shared->Prop} (I:a5 X pins σ H s) (hN:X.N.Nodup) (hi:X.N[i]? = some x) (hk:X.env.scope.names.lookup x=some .local)
  (h:∀ s',a5 X pins (σ.set i none) H s'->Q () s'):wpAny M A (do bindName X.env x .none; unbindBehindTheSuite X.env x pos) Q E s:=by
 obtain ⟨m,hn,hl⟩:=id I.loc
 obtain ⟨oL,_,_,hoL,_⟩:=id hn
 have ab:∀ b o,X.s₀.heap.get? b=some o->b ≠ X.env.locals:=fun b o e=>as1 (ap1 (ap3 e) I.ok.above)
 refine wpAny_nameGoes_keeps hk hn (by rw [I.ok.kind]; rfl) fun h' v hn' hs=>?_
 refine h _ ⟨I.ok,I.os,I.bare,⟨fun b o e n hb hx=>(hs.2 b (ab b o e)).trans (I.base.keep b o e n hb hx),fun b o e n hb hx=>?_,I.base.free,fun b o e hx=>?_,I.base.tups,I.base.frzs,I.base.tbls⟩,⟨_,hn',fun j y v' e1 e2 e3=>?_⟩,fun y c e=>?_,I.free,I.freeC,fun p hp=>?_,fun b u e=>?_,by simpa using I.len⟩
 ·obtain ⟨sl,e1⟩:=I.base.slot b o e n hb hx
  exact⟨sl,(hs.2 b (ab b o e)).trans e1⟩
 ·obtain ⟨o',e1⟩:=I.base.there b o e hx
  exact⟨o',(hs.2 b (ab b o e)).trans e1⟩
 ·by_cases hj:j=i
  ·subst hj
   have hjl:j < σ.length:=by rw [I.len]; exact (aq7.mp hi).1
   rw [au0 hjl] at e2
   cases e2
  ·rw [aq2 (Ne.symm hj)] at e2
   obtain ⟨u',r',q⟩:=hl j y v' e1 e2 e3
   refine⟨u',r',?_⟩
   rcases q with ⟨k,e⟩ | ⟨k,c,e,z⟩
   ·have ny:y ≠ x:=fun z=>hj (nP hN e1 (z ▸ hi))
    exact .inl ⟨k,by simp [ny,e]⟩
   ·exact .inr ⟨k,c,e,z.sameBut hs (I.cne y c e)⟩
 ·obtain ⟨w',z⟩:=I.cell y c e
  exact⟨w',z.sameBut hs (I.cne y c e)⟩
 ·obtain ⟨e,n,ne,nf,d⟩:=I.pin p hp
  exact⟨(hs.2 p.1 ne).trans e,n,ne,nf,d⟩
 ·refine (I.hok b u e).stay (fun c v hc q=>(hs.2 c fun z=>?_).trans q) (fun _ q=>q) fun _ _ q=>q
  subst z
  rcases hc with z | z
  ·subst z; rw [I.free] at e; cases e
  ·rw [I.free] at z; cases z
theorem Y8 {M:Model}{A:Around}{E:Value->Shared->Prop}{K:PySem.W.Frag}{e C D:Addr}{oe:Obj}{Q:Bool->Shared->Prop} (k:K.In s.heap) (he:s.heap.get? e=some oe) (hc:oe.cls = .ref C) (h1:(PySem.W.clsIn K D).isSome=true) (h2:PySem.W.typeIn K (.ref D)=some (.type "type"))
  (h3:PySem.W.subIn K (.ref D) (.type "BaseException")=some true) (h4:PySem.W.subIn K (.ref C) (.ref D)=some true) (hq:Q true s):wpAny M A (excMatches (.ref e) (.ref D)) Q E s:=by
 obtain ⟨h,g,d,t,os⟩:=s
 have k:K.In h:=k
 have he:h.get? e=some oe:=he
 have l1:PySem.W.Looks M h (isType (.ref D)) true:=by
  unfold PySem.W.clsIn at h1
  split at h1
  ·rename_i c' d' cd' sl' ho
   intro A' Q' E' s' kk q
   unfold isType loadHead
   exact ao2 (wpAny_loadPart (kk _ _ (k _ _ ho)) (ao9 q))
  ·cases h1
 have l2:PySem.W.Looks M h (typeOf (.ref D)) (.type "type"):=PySem.W.looks_typeIn k h2
 have l3:PySem.W.Looks M h (isSubtype (.ref D) (.type "BaseException")) true:=PySem.W.looks_subIn k h3
 have l4:PySem.W.Looks M h (isSubtype (.ref C) (.ref D)) true:=PySem.W.looks_subIn k h4
 have l5:PySem.W.Looks M h (typeOf (.ref e)) (.ref C):=hc ▸ (PySem.W.Looks.ld he).andThen .now
 have l6:PySem.W.Looks M h (isInstance (.ref D) (.type "tuple")) false:=l2.andThen (PySem.W.Looks.of_pure tc_notTuple)
 have l7:PySem.W.Looks M h (isExcClass (.ref D)) true:=by
  unfold isExcClass
  exact l1.andThen (by simpa using l3)
 have f:=tc_notTuple
 unfold excMatches
 repeat (first | exact hq | (with_reducible refine l2.at ?_) | (with_reducible refine l7.at ?_) | (with_reducible refine l1.at ?_) | (with_reducible refine l3.at ?_) | (with_reducible refine l5.at ?_) | (with_reducible refine l4.at ?_) | wp_step)
end
noncomputable def qA (D:cM) (i:Nat):cM:={ nx:=fun σ H=>D.nx (σ.set i none) H,rt:=D.rt,bk:=fun σ H=>D.bk (σ.set i none) H,ct:=fun σ H=>D.ct (σ.set i none) H }
section
variable {X : Cx} {pins : List (Addr × Obj)} {σ : St} {H H1 H' : Hp} {s s1 s' : Shared} {B : Heap} {a C Ch : Addr} {i : Nat} {x n : Str} {np pos hpos : Pos} {b₀ : Stmt} {suite : List Stmt} {ts : TS} {D : cM} {bY : List ExceptHandler}
structure qB (K:PySem.W.Frag) (Ch:Addr):Prop where
 c1:(PySem.W.clsIn K Ch).isSome=true
 c2:PySem.W.typeIn K (.ref Ch)=some (.type "type")
 c3:PySem.W.subIn K (.ref Ch) (.type "BaseException")=some true
theorem Y9 (I:a5 X pins σ H1 s1) (fl:iC X.prog X.w X.stack H1 s1 H' B a C s') (hstk:X.stack=X.env :: X.outer/\X.env.frame=some X.env.locals) (hg:Gl X x) (hm:X.mg x=some (.ref Ch)) (ct:qB X.K Ch) (sub:PySem.W.subIn X.K (.ref C) (.ref Ch)=some true)
  (hN:X.N.Nodup) (hi:X.N[i]? = some n) (hl:X.env.scope.names.lookup n=some .local) (hs:cH (X.suite a) (b₀ :: suite) ts) (q:∀ oe:Obj,oe.cls = .ref C->ts (qA D i) (σ.set i (some (.ref a))) (upd H' a (.frz oe (.own a)))) (hd:(x == ("__debug__" : Str))=false) :
  wpAny (model X.prog X.w) X.A (noteFrame (.ref a) X.env) (fun _ s₂=>wpAny (model X.prog X.w) X.A (setFlight (.ref a) none) (fun _ s₃=>wpAny (model X.prog X.w) X.A (handleBy (.ref a) X.env (.ExceptHandler (some (.Name x np)) (some n) (b₀ :: suite) hpos :: bY)) (SP X pins D) X.xe s₃) X.xe s₂) X.xe s':=by
 obtain ⟨a0,fly⟩:=fl.fly
 rw [hstk.1] at fly
 refine wpAny_looks_onW (outer:=X.outer) (L:=X.env.locals) (by rw [I.ok.frames,hstk.1]) hstk.2 fly fun h4 held up4=>wpAny_landsW held fun h5 fly5 up5=>?_
 obtain ⟨o5,v5,e5,c5,_⟩:=fly5.first
 have I5:=vP I fl fly5.1 (up4.trans up5) e5
 refine wpAny_handleBy_cons (codeAny_handlers_test (jE (I5.suite a) hg hm ?_ hd)) (by intro z; cases z)
 refine Y8 I5.kIn e5 c5 ct.c1 ct.c2 ct.c3 sub ?_
 show codeAny (model X.prog X.w) (X.A.mark (some (.ref a))) (.handlers (.ref a) [.ExceptHandler none (some n) (b₀ :: suite) hpos] X.env) _ _
 refine codeAny_handlers_suite_as (lands_againW fly5 fun h6 fly6 up6=>?_)
 obtain ⟨o6,v6,e6,c6,_⟩:=fly6.first
 have I6:=vP I fl fly6.1 ((up4.trans up5).trans up6) e6
 refine nQ I6 hN hi (.inl hl) (v:=.ref a) rfl (fun s7 I7=>?_) (.inr hl)
 refine au5 (hs pins s7 _ _ (qA D i) (I7.suite a) (q o6 c6)) (fun f s8 h8=>?_) fun _ _ z=>z.elim
 show wpAny (model X.prog X.w) X.A (do bindName X.env n .none; unbindBehindTheSuite X.env n hpos) (fun _ s9=>SP X pins D f s9) X.xe s8
 cases f with
 | next=>obtain ⟨σ',H',J,q⟩:=h8; exact mK (J.unsuite I.ok) hN hi hl fun s9 J9=>⟨_,_,J9,q⟩
 | brk=>obtain ⟨σ',H',J,q⟩:=h8; exact mK (J.unsuite I.ok) hN hi hl fun s9 J9=>⟨_,_,J9,q⟩
 | cont=>obtain ⟨σ',H',J,q⟩:=h8; exact mK (J.unsuite I.ok) hN hi hl fun s9 J9=>⟨_,_,J9,q⟩
 | ret u=>obtain ⟨v,σ',H',J,r,q⟩:=h8; exact mK (J.unsuite I.ok) hN hi hl fun s9 J9=>⟨v,_,_,J9,r,q⟩
end
noncomputable abbrev TB:=cM->XK->St->Hp->Prop
noncomputable def XB (X:Cx) (pins:List (Addr × Obj)) (σ:St) (Ex:XK):Value->Shared->Prop:=fun e s'=>∃ H1 s1,a5 X pins σ H1 s1/\cK X.prog X.w X.stack H1 s1 Ex e s'
noncomputable def PB (X:Cx) (sts:List Stmt) (t:TB):Prop:=
 ∀ (pins:List (Addr × Obj)) (s:Shared) (σ:St) (H:Hp) (D:cM) (Ex:XK),a5 X pins σ H s->t D Ex σ H->wpAny (model X.prog X.w) X.A (execs sts X.env) (SP X pins D) (XB X pins σ Ex) s
noncomputable def Z0 (sp:Sp) (t:TA):TB:=fun D Ex σ H=>t σ H fun vs H1=>sp vs H1 (fun _ H2=>D.nx σ H2) Ex
noncomputable def Z1 (c:TT) (t u:TB):TB:=fun D Ex σ H=>c σ H fun b H1=>if b=true then t D Ex σ H1 else u D Ex σ H1
section
variable {X : Cx} {k : Nat} {f Ch : Addr} {fd : FuncData} {ps : List Str} {sp : Sp} {x n : Str} {p cp pos np hpos : Pos} {e c : Expr} {es : List Expr} {t : TA} {tb ub : TB} {tc : TT} {sa sb body : List Stmt} {i : Nat} {b₀ : Stmt} {suite : List Stmt} {ts : TS}
theorem Z2 (F:bZ X.prog X.w X.K X.mg X.base (cK X.prog X.w) k f fd ps sp) (hr:bB k X.A) (hg:Gl X x) (hm:X.mg x=some (.ref f)) (hk:PySem.W.keepIn X.K (.ref f)=true) (hb:fP X.K fd ps []) (ha:∀ E,PA (X.wish E) (e :: es) t)
  (hdb:(x == ("__debug__" : Str))=false:=by decide) (he:starEach (e :: es) X.env=(false,eval e X.env) :: starEach es X.env:=by rfl) (hpl:(backTo cp (starEach es X.env)).any (·.1)=false:=by rfl) (hsw:swapsWith (.Call (.Name x p) (e :: es) [] cp) none pos.line X.env=pure false:=by rfl) :
  PB X [.Expr (.Call (.Name x p) (e :: es) [] cp) pos] (Z0 sp t):=by
 intro pins s σ H D Ex I h
 refine wpAny_execs_cons (wpAny_Expr_any ?_ I.quiet hsw)
 refine wpAny_Call_Name_kw (jE I hg hm ?_ hdb)
 refine PySem.W.callWith_K (h₀:=X.base) I.ok.mod.kin hk (aJ (ha (XB X pins σ Ex) cp pins s σ H _ (I.wish _) h) fun us s1 h1=>⟨?_,?_⟩) he hpl
 ·obtain ⟨_,_,I1,_⟩:=h1
  exact I1.kIn
 ·obtain ⟨vs,H1,I1,r,q⟩:=h1
  have I1:=I1.unwish
  have hl:us.length=ps.length:=by rw [<- r.length]; exact F.len _ _ _ _ q
  have bd:=hb s1 us I1.kIn (by rw [as5]; exact hl)
  rw [as5] at bd
  refine wpAny_call (codeAny_mono (F.run X.A X.stack s1 H1 ⟨us,[]⟩ us vs _ Ex hr I1.env0 bd r q) fun rs s' hq=>?_)
  cases rs with
  | error ev=>exact⟨H1,s1,I1,hq⟩
  | ok fl=>
   cases fl with
   | ret u=>
    obtain ⟨v,H2,I2,_,q2⟩:=I1.after hq
    exact wpAny_execs_nil ⟨σ,H2,I2,q2⟩
   | next=>exact False.elim hq
   | brk=>exact False.elim hq
   | cont=>exact False.elim hq
theorem Z3 (hc:∀ E,PT (X.wish E) c tc) (ha:PB X sa tb) (hb:PB X sb ub):PB X [.If c sa sb pos] (Z1 tc tb ub):=by
 intro pins s σ H D Ex I h
 refine wpAny_execs_cons (wpAny_If (aJ (hc (XB X pins σ Ex) pins s σ H _ (I.wish _) h) fun d s1 h1=>?_))
 obtain ⟨H1,I1,q1⟩:=h1
 have I1:=I1.unwish
 have fin:∀ (fl:Flow) (s2:Shared),SP X pins D fl s2->(match fl with | .next=>wpAny (model X.prog X.w) X.A (execs [] X.env) (SP X pins D) (XB X pins σ Ex) s2 | fl=>SP X pins D fl s2):=fun fl s2 q=>by
  cases fl with
  | next=>exact wpAny_execs_nil q
  | _=>exact q
 cases d with
 | true=>exact aJ (ha pins s1 σ H1 D Ex I1 q1) fin
 | false=>exact aJ (hb pins s1 σ H1 D Ex I1 q1) fin
noncomputable def vQ (K:PySem.W.Frag) (Ch:Addr) (i:Nat) (tb:TB) (ts:TS):TS:=fun D σ H=>
 tb D (fun c _ H'=>∀ (a C:Addr) (oe:Obj),c = .ref C->H' a=none->oe.cls = .ref C->PySem.W.subIn K (.ref C) (.ref Ch)=some true/\ts (qA D i) (σ.set i (some (.ref a))) (upd H' a (.frz oe (.own a)))) σ H
theorem Z4 (hstk:X.stack=X.env :: X.outer/\X.env.frame=some X.env.locals) (hb:PB X body tb) (hg:Gl X x) (hm:X.mg x=some (.ref Ch)) (ct:qB X.K Ch) (hN:X.N.Nodup) (hi:X.N[i]? = some n) (hl:X.env.scope.names.lookup n=some .local) (hs:∀ a,cH (X.suite a) (b₀ :: suite) ts)
  (hd:(x == ("__debug__" : Str))=false:=by decide):PS X (.Try body [.ExceptHandler (some (.Name x np)) (some n) (b₀ :: suite) hpos] [] [] pos) (vQ X.K Ch i tb ts):=by
 intro pins s σ H D I h
 refine wpAny_Try_except (au5 (hb pins s σ H D _ I h) (fun fl s1 q=>?_) (fun ev s1 q=>?_))
 ·cases fl with
  | next=>exact wpAny_execs_nil q
  | _=>exact q
 ·obtain ⟨H1,s2,I1,H',B,a,C,e1,fl,q⟩:=q
  subst e1
  obtain ⟨a0,fly⟩:=fl.fly
  obtain ⟨o5,_,_,c5,_⟩:=fly.first
  exact Y9 I1 fl hstk hg hm ct (q a C o5 rfl fl.fresh c5).1 hN hi hl (hs a) (fun oe hc=>(q a C oe rfl fl.fresh hc).2) hd
end
end L2
namespace L2
open PySem PySem.Spec PyProof.Rows PySem.Calls Builtin Builtin.ObjectAttr Builtin.Getset_descriptor
structure fF (K:PySem.W.Frag) (D:Addr):Prop where
 cls:(PySem.W.clsIn K D).isSome=true
 ga:PySem.W.findIn K (.ref D) "__getattribute__" = some (some (.builtin "BaseException.__getattribute__"))
 gt:PySem.W.findIn K (.ref D) "__getattr__" = some none
 fc:PySem.W.findIn K (.ref D) "__class__" = some (some (.builtin "object.__class__"))
 fg:PySem.W.specialIn K (.builtin "object.__class__") "__get__" = some (some (.builtin "getset_descriptor.__get__"))
 ft:PySem.W.takesIn K (.builtin "object.__class__")=some true
 ob:PySem.W.mroIn K D (.type "object")=some true
 be:PySem.W.mroIn K D (.type "BaseException")=some true
noncomputable def gO (h:Heap) (x D:Addr):Prop:=∃ ox:Obj,h.get? x=some ox/\ox.cls = .ref D
theorem gO.type {h:Heap}{x D:Addr}{M:Model} (I:gO h x D):PySem.W.Looks M h (typeOf (.ref x)) (.ref D):=by
 obtain ⟨ox,e,c⟩:=I
 exact c ▸ (PySem.W.Looks.ld e).andThen .now
section
variable {prog : Program} {w : World} {A : Around} {E : Value → Shared → Prop} {K : PySem.W.Frag} {x D : Addr} {h : Heap} {g : Array GenState} {d : Drawn} {t : Nat} {os : OsState}
theorem Z5 {M:Model} (F:fF K D) (k:K.In h):PySem.W.Looks M h (find (.ref x) (.ref D) "__class__") (.bind (.builtin "getset_descriptor.__get__") (.builtin "object.__class__")):=by
 have L1:=PySem.W.looks_findIn (M:=M) k F.fc
 have L2:=PySem.W.looks_specialIn (M:=M) k F.fg
 have L3:=PySem.W.looks_takesIn (M:=M) k F.ft
 unfold find
 refine L1.andThen (PySem.W.Looks.andThen (a:=some (Value.builtin "getset_descriptor.__get__")) L2 ?_)
 refine PySem.W.Looks.andThen (a:=some (Value.builtin "getset_descriptor.__get__",Value.builtin "object.__class__")) ?_ (PySem.W.Looks.tag .now)
 unfold dataDescriptor?
 exact L3.andThen .now
theorem Z6 {tp:Value}{R:Result->Shared->Prop} (F:fF K D) (k:K.In h) (I:gO h x D) (hq:R (.ok (.ret (.ref D))) ⟨h,g,d,t,os⟩):codeAny (model prog w) A (.call (.builtin "getset_descriptor.__get__") ⟨[.builtin "object.__class__",.ref x,tp],[]⟩) R ⟨h,g,d,t,os⟩:=by
 have L0:=I.type (M:=model prog w)
 have L1:=PySem.W.looks_mroIn (M:=model prog w) k F.ob
 refine codeAny_call_builtin PySem.W.KF.slot_gs.plain PySem.W.KF.entry_gs (PySem.W.KF.slot_gs.check _ _ _ _ _ _ _ _ PySem.W.KF.type_class (PySem.W.KF.args_gs _ _ _) ?_)
 unfold Builtin.«getset_descriptor.__get__» descrGet; rw [PySem.W.dga_obj]
 refine ao2 (ao9 ?_); unfold descrGetter descrCheckInstance descrNameAndClass isInstance
 simp only [PySem.W.KF.owner_class]
 repeat lk
 refine⟨Code.quiet_builtin _ (by decide +kernel),codeAny_builtin PySem.W.KF.entry_class ?_⟩; unfold Builtin.«object.__class__» shownTypeOf
 repeat lk
 exact hq
theorem Z7 {M:Model}{nameV:Value}{Q:Unit->Shared->Prop} (F:fF K D) (k:K.In h) (I:gO h x D) (hq:Q () ⟨h,g,d,t,os⟩):wpAny M A (checkBuiltinCall "BaseException.__getattribute__" ⟨[.ref x,nameV],[]⟩) Q E ⟨h,g,d,t,os⟩:=by
 have kd:builtinKind "BaseException.__getattribute__" = some .slot:=by decide +kernel
 have sp:splitId "BaseException.__getattribute__" = some ("BaseException","__getattribute__"):=by decide +kernel
 have L:PySem.W.Looks M h (isInstance (.ref x) (.type "BaseException")) true:=(I.type (M:=M)).andThen (PySem.W.looks_mroIn k F.be)
 have ha:=PySem.F.args_bexc_ga (.ref x) nameV
 simp only [checkBuiltinCall,kd,sp]
 refine ao2 (L.at ?_)
 repeat (any_goals (first | assumption | wp_step))
theorem Z8 {tk:Tok}{Q:Fin->Shared->Prop} (F:fF K D) (k:K.In h) (I:gO h x D) (hq:Q (.done (.ret (.ref D))) ⟨h,g,d,t,os⟩):wpAny (model prog w) A (Builtin.«object.__getattribute__» ⟨[.ref x,.str "__class__" tk],[]⟩) Q E ⟨h,g,d,t,os⟩:=by
 have L0:=I.type (M:=model prog w)
 have L1:=Z5 (M:=model prog w) F k (x:=x)
 refine ao2 (ao9 (ao2 (ao9 (ao2 (L0.at (ao2 (L1.at ?_)))))))
 show wpAny _ _ (holding [_] (call _ _) >>= ret) _ _ _
 exact ao2 (ay5 (wpAny_call (Z6 F k I (ao9 hq))))
theorem Z9 {tk:Tok}{R:Result->Shared->Prop} (F:fF K D) (k:K.In h) (I:gO h x D) (hq:R (.ok (.ret (.ref D))) ⟨h,g,d,t,os⟩):codeAny (model prog w) A (.call (.builtin "BaseException.__getattribute__") ⟨[.ref x,.str "__class__" tk],[]⟩) R ⟨h,g,d,t,os⟩:=
 codeAny_call_builtin PySem.F.excAttr_ValueError.ga.plain PySem.F.entry_bexc_ga (Z7 F k I (Z8 F k I hq))
theorem aa0 {Q:Option Value->Shared->Prop} (F:fF K D) (k:K.In h) (I:gO h x D) (hq:Q (some (.ref D)) ⟨h,g,d,t+1,os⟩):wpAny (model prog w) A (getAttr? (.ref x) "__class__") Q E ⟨h,g,d,t,os⟩:=by
 have L0:=I.type (M:=model prog w)
 have L1:=PySem.W.looks_findIn (M:=model prog w) k F.ga
 have L2:=PySem.W.looks_findIn (M:=model prog w) k F.gt
 have f3:=PySem.F.excAttr_ValueError.ga.bind (.ref x)
 unfold getAttr? getAttrBy? getAttrBy
 refine ao2 (wpAny_mkText (ao2 (wpAny_attempt (ay5 (ao2 (L0.at (ao2 (L1.at ?_))))))))
 have nx:(onTheHeap (Value.ref D) && Value.builtin "BaseException.__getattribute__" == Value.builtin "object.__getattribute__")=false:=by
  rw [show (Value.builtin "BaseException.__getattribute__" == Value.builtin "object.__getattribute__")=false by decide +kernel,Bool.and_false]
 dsimp only
 rw [if_neg (by rw [nx]; decide)]
 unfold getAttrByItsOwn hookBefore
 repeat (any_goals (first | assumption | (with_reducible refine L2.at ?_) | wp_step))
 exact Z9 F k I (PySem.W.handed_on rfl (ao9 hq))
end
theorem aa1 {K:PySem.W.Frag}{x D:Addr} (F:fF K D):PySem.W.KitX K (.ref x) (.ref D) (fun h=>gO h x D) where
 ty:=fun _ _ _ I=>I.type
 it:=fun M h k _=>by
  have z:=F.cls
  unfold PySem.W.clsIn at z
  split at z
  ·rename_i c' d' cd' sl' ho
   intro A' Q' E' s' kk q
   unfold isType loadHead
   exact ao2 (wpAny_loadPart (kk _ _ (k _ _ ho)) (ao9 q))
  ·cases z
 ne:=fun h tp dd its n sl k htp=>by
  have z:=F.cls
  refine Bool.eq_false_iff.mpr fun q=>?_
  obtain rfl:D=tp:=Value.ref.inj (beq_iff_eq.mp q)
  unfold PySem.W.clsIn at z
  split at z
  ·rename_i ho
   have y:=(k _ _ ho).symm.trans htp
   cases y
  ·cases z
 ca:=fun {_ _ _ _ _ s} k I q=>by
  obtain ⟨h,g,d,t,os⟩:=s
  exact aa0 F k I q
end L2
namespace Core
open PySem L2 PP
noncomputable def qD (ns:List Int):Bool:=((ns.zip (ns.drop 1)).map fun p=>decide (p.1 < p.2)).all id
noncomputable def kin (ws:List Int) (ls:List (Int × Int)) (S:List Int) (h:Int):Bool:=!decide (h ∈ S) && decide (ws.getD h.toNat 0<=(((tT ls h).filter fun x=>decide (x ∈ S)).length:Int))
noncomputable def nextOf (ws:List Int) (ls:List (Int × Int)) (S:List Int):List Int:=((List.range ws.length).map fun (i:Nat)=>(i:Int)).filter (kin ws ls S)
noncomputable def kA (ws:List Int) (ls:List (Int × Int)) (S:List Int):Nat->List Int
 | 0=>S
 | k+1=>kA ws ls S k ++ nextOf ws ls (kA ws ls S k)
noncomputable def after (ws:List Int) (ls:List (Int × Int)) (S:List Int) (m:Nat):List (List Int):=(List.range m).map fun k=>nextOf ws ls (kA ws ls S k)
noncomputable def cM (ws:List Int) (ls:List (Int × Int)) (ns:List Int) (m:Nat):Prop:=(∀ k < m,nextOf ws ls (kA ws ls ns k) ≠ [])/\nextOf ws ls (kA ws ls ns m) = []
theorem kB {ns:List Int}{i:Nat}{x:PV} (h:(intz ns)[i]? = some x):∃ n,x = .int n/\ns[i]? = some n:=by
 rw [ar2] at h
 cases e:ns[i]? with
 | none=>rw [e] at h; cases h
 | some n=>rw [e] at h; exact⟨n,(ar1 h).symm,rfl⟩
theorem qE {lo:Int}{n i:Nat}{x:PV} (h:(fA lo n)[i]? = some x):x = .int (lo+i)/\i < n:=by
 have hi:i < n:=by
  have:=(aq7.mp h).1
  rwa [fB] at this
 rw [uE hi] at h
 exact⟨(ar1 h).symm,hi⟩
noncomputable def rng (n:Nat):List Int:=(List.range n).map fun (i:Nat)=>(i:Int)
theorem mL (n:Nat):(rng n).length=n:=by unfold rng; rw [ap9,List.length_range]
theorem mM {n:Nat}{x:Int}:x ∈ rng n ↔ 0<=x/\x < (n:Int):=by
 unfold rng
 rw [ay4]
 constructor
 ·rintro ⟨i,hi,rfl⟩
  have:=List.mem_range.mp hi
  lia
 ·intro h
  exact⟨x.toNat,List.mem_range.mpr (by lia),by lia⟩
theorem aa2 {α:Type}{l:List α}{p:α->Bool}{i:Nat}{x:α} (h:l[i]? = some x):(l.take (i+1)).filter p=(l.take i).filter p ++ (if p x=true then [x] else []):=by
 rw [List.take_add_one,h,List.filter_append]
 congr 1
 cases e:p x <;> simp [e]
theorem kC (a b:List Int):intz (a ++ b)=intz a ++ intz b:=at5
theorem bR (a:List Int):(intz a).length=a.length:=ap9 _
noncomputable def dH (ws:List Int) (ls:List (Int × Int)):PV:=.tup [.tup (intz ws),.tup (ls.map fun l=>.tup [.int l.1,.int l.2])]
noncomputable def cL (x:PV) (ns:List Int):Prop:=x = .tup (intz ns) ∨ x = .lst (intz ns)
theorem cL.seq {x:PV}{ns:List Int} (h:cL x ns):fX x=some (intz ns):=by rcases h with rfl | rfl <;> rfl
theorem cL.seqT {x:PV}{ns:List Int} (h:cL x ns):seqT x=some (intz ns):=by rcases h with rfl | rfl <;> rfl
theorem iD:∀ (ls:List (Int × Int)),flats (ls.map fun l=>PV.tup [.int l.1,.int l.2])=true
 | []=>rfl
 | l :: r=>by
  show (flat (.tup [.int l.1,.int l.2]) && flats (r.map fun l=>PV.tup [.int l.1,.int l.2]))=true
  rw [iD r]; rfl
theorem vR (ws:List Int) (ls:List (Int × Int)):flat (dH ws ls)=true:=by
 show flats [.tup (intz ws),.tup (ls.map fun l=>PV.tup [.int l.1,.int l.2])]=true
 show (flat (.tup (intz ws)) && (flat (.tup (ls.map fun l=>PV.tup [.int l.1,.int l.2])) && true))=true
 show (flats (intz ws) && (flats (ls.map fun l=>PV.tup [.int l.1,.int l.2]) && true))=true
 rw [bN,iD]; rfl
theorem qF (ns:List Int):flat (.tup (intz ns))=true:=bN ns
noncomputable abbrev gC (t:aL) (N:List Str) (p:c8):Prop:=∀ xs Q,p xs Q->t { nx:=fun _=>Q .non,rt:=Q } (dD N xs)
noncomputable def aa3:c8:=fun xs Q=>∃ x ns,xs = [x]/\cL x ns/\ns.length<=1000/\Q (.bl (qD ns))
noncomputable def inB (n:Nat) (x:Int):Bool:=decide (0<=x) && decide (x < (n:Int))
theorem aa4 {x:PV}{ns:List Int} (h:cL x ns):(Slot.sh (flat x) x).tag = .rd->flat x=true:=by
 cases flat x <;> intro z <;> cases z
theorem cL.noscr {x:PV}{ns:List Int} (h:cL x ns):∀ ms,([x]:List PV) ≠ [.scr ms]:=by
 rcases h with rfl | rfl <;> intro ms z <;> cases z
structure DS (ps:List (aZ × PV)) (S:List Int):Prop where
 has:∀ i:Int,(S6 ps (Sum.inl i:aZ)).isSome=decide (i ∈ S)
 len:ps.length<=S.length
 fl:flats (ps.map (·.2))=true
theorem aa5 {ws:List Int}{h:Int} (h0:0<=h) (h1:h < (ws.length:Int)):atI (intz ws) h=some (.int (ws.getD h.toNat 0)):=by
 refine M8 h0 ?_
 have:h.toNat < ws.length:=by lia
 rw [ar2,ap5,ao6 this]; rfl
noncomputable def tups (rs:List (List Int)):List PV:=rs.map fun r=>PV.tup (intz r)
theorem aa6 {rs:List (List Int)}{i:Nat}{x:PV} (h:(tups rs)[i]? = some x):∃ r,x = .tup (intz r)/\rs[i]? = some r:=by
 unfold tups at h
 rw [ar2] at h
 cases e:rs[i]? with
 | none=>rw [e] at h; cases h
 | some n=>rw [e] at h; exact⟨n,(ar1 h).symm,rfl⟩
theorem qG:∀ (rs:List (List Int)),flats (tups rs)=true
 | []=>rfl
 | r :: t=>by
  show (flat (.tup (intz r)) && flats (tups t))=true
  rw [qF,qG t]; rfl
end Core
namespace PP
open PySem L2
noncomputable def qH:PV->Tg->PV->Tg->PK->Prop:=fun x _ y _ Q=>∃ xs n,x = .tup xs/\y = .int n/\flats xs=true/\xs ≠ []/\2<=n/\n<=1000000/\xs.length<=10/\Q (.tup (List.replicate n.toNat xs).flatten) .fr
noncomputable abbrev aa7 (ta tb:aA):aA:=q2 qH ta tb
end PP
namespace Core
open PySem L2 PP
theorem aa8 (g:Tg) (n:Int):Nw g (.int n):=by cases g <;> first | exact trivial | rfl
theorem aa9 (g:Tg) (ns:List Int):Nw g (.tup (intz ns)):=by cases g <;> first | exact trivial | exact qF ns
noncomputable def kD (x:PV) (ns:List Int):Prop:=x = .scr ns ∨ x = .lst (intz ns)
theorem kD.seq {x:PV}{ns:List Int} (h:kD x ns):fX x=some (intz ns):=by rcases h with rfl | rfl <;> rfl
theorem kD.len {x:PV}{ns:List Int} (h:kD x ns):pB x=some ns.length:=by
 rcases h with rfl | rfl
 ·rfl
 ·show some (intz ns).length=_
  rw [bR]
noncomputable def iE:c8:=fun xs Q=>∃ x ns k,xs = [x,.int k]/\kD x ns/\0<=k/\Q (.int (ns.getD k.toNat 0))
noncomputable def vS:aL:=(aM (bU (aT (g6 (a6 1) (aK eB (a8 (a6 0) aC)))) (c7 (jR (a6 0) (a6 1))) bT)
 (c7 (qC (.int 0))))
theorem ab0:gC vS ["script","k"] iE:=by
 rintro xs Q ⟨x,ns,k,rfl,hx,h0,q⟩
 refine⟨_,rfl,_,rfl,_,_,rfl,hx.len,_,_,rfl,rfl,_,rfl,?_⟩
 by_cases h:k < (ns.length:Int)
 ·rw [ap7 h]
  exact bI ⟨_,rfl,_,rfl,_,_,_,hx.seq,rfl,aa5 h0 h,aa8 _ _,q⟩
 ·rw [ao5 h]
  rw [ap5,List.getElem?_eq_none (by lia)] at q
  exact aS ⟨trivial,q⟩
noncomputable def aU (ls:List (Int × Int)):List PV:=ls.map fun l=>PV.tup [.int l.1,.int l.2]
theorem mO (ls:List (Int × Int)):(aU ls).length=ls.length:=ap9 _
noncomputable def c9 (l m:Int × Int):Prop:=l.1 < m.1 ∨ (l.1=m.1/\l.2 < m.2)
noncomputable abbrev si (n:Int):Option Slot:=some (.sh true (.int n))
noncomputable def mP:c8:=fun xs Q=>∃ i,xs = [.int i]/\Q (.bl true)
noncomputable def vT (K:PySem.W.Frag):aL:=(c7 (oW (gK K "int" (a6 0)) (oX (gK K "bool" (a6 0)))))
theorem cL.len {x:PV}{ns:List Int} (h:cL x ns):pB x=some ns.length:=by
 rcases h with rfl | rfl <;> (show some (intz ns).length=_; rw [bR])
theorem ab1 {K:PySem.W.Frag} (k1:PySem.W.kitOne K (.type "int") (.type "int")=some true) (k2:PySem.W.kitOne K (.type "int") (.type "bool")=some false):gC (vT K) ["found"] mP:=by
 rintro xs Q ⟨i,rfl,q⟩
 exact⟨_,rfl,_,_,rfl,k1,_,rfl,bI ⟨_,rfl,_,_,rfl,k2,_,rfl,trivial,q⟩⟩
theorem ab2 {ls:List (Int × Int)}{i:Nat}{x:PV} (h:(aU ls)[i]? = some x):∃ l,x = .tup [.int l.1,.int l.2]/\ls[i]? = some l:=by
 unfold aU at h
 rw [ar2] at h
 cases e:ls[i]? with
 | none=>rw [e] at h; cases h
 | some n=>rw [e] at h; exact⟨n,(ar1 h).symm,rfl⟩
end Core
namespace PySem
theorem qI:fillsNumberSlot (.type "tuple") "mul" = pure false:=
 fillsNumberSlot_seq (id:="tuple.__mul__") (r:=some (.builtin "tuple.__rmul__")) F.slot_tuple_mul.lookup (by decide +kernel) F.slot_tuple_rmul.lookup (by decide +kernel)
theorem qJ:seqRepeat? (.type "tuple")=pure (some (.builtin "tuple.__mul__")):=by
 unfold seqRepeat?
 rw [seqSlot_of (T:="tuple") (name:="__mul__") (id:="tuple.__mul__") F.slot_tuple_mul.lookup (by decide +kernel),seqSlot_of (T:="tuple") (name:="__rmul__") (id:="tuple.__rmul__") F.slot_tuple_rmul.lookup (by decide +kernel)]
 rfl
theorem qK (a:Int) (t:Tok) (l:Addr) (items:Array Value) (n:Nat) (dd:Option Addr) (sl:Array (Option Value)) :
  Meets (Builtin.«int.__rmul__» ⟨[.int a t,.ref l],[]⟩) (fun _ R s=>s.heap.get? l=some { cls:=.type "tuple",dict:=dd,data:=.seq items n,slots:=sl }/\R (.ok (.ret Value.notImplemented)) s):=
 .of_wp fun prog w A R s h=>by obtain ⟨hp,g,d,tk,os⟩:=s; obtain ⟨hl,h⟩:=h; wp_walk; exact⟨_,rfl,h⟩
theorem ab3 (l:Addr) (items:Array Value) (n:Nat) (dd:Option Addr) (sl:Array (Option Value)) (x:Int) (u:Tok) (h0:items.isEmpty=false) (h1:2<=x) (h2:items.size * x.toNat<=sizeLine) (h3:x<=1000000) :
  Meets (Builtin.«tuple.__mul__» ⟨[.ref l,.int x u],[]⟩) (fun _ R s=>s.heap.get? l=some { cls:=.type "tuple",dict:=dd,data:=.seq items n,slots:=sl }/\R (.ok (.ret (Value.ref s.heap.objs.size))) { s with heap:=s.heap.push { cls:=Value.type "tuple",data:=Data.seq (List.foldl (fun x1 x2=>x1 ++ x2) #[] (List.replicate x.toNat items)) } }):=
 .of_wp fun prog w A R s h=>by
  obtain ⟨hp,g,d,tk,os⟩:=s; obtain ⟨hl,h⟩:=h
  have c1:(decide (x < -(2 ^ 63)) || decide (x >= 2 ^ 63))=false:=by
   rw [Bool.or_eq_false_iff]; exact⟨ao5 (by lia),ao5 (by lia)⟩
  have c2:(items.isEmpty || x == 1)=false:=by rw [h0,Bool.false_or]; exact ay1.mpr (by lia)
  have c3:(decide (x<=0) || items.isEmpty)=false:=by rw [h0,Bool.or_false]; exact ao5 (by lia)
  have hsz:((items.size:Nat):Int) * x=((items.size * x.toNat:Nat):Int):=by rw [Int.natCast_mul]; congr 1; lia
  have hl63:(sizeLine:Nat)<=(2 ^ 63 - 1) / 8:=by decide
  have c4:decide (((items.size:Nat):Int) * x > (2 ^ 63 - 1) / 8)=false:=ao5 (by rw [hsz]; lia)
  have c5:Builtin.Tuple.tupleTooMany (((items.size:Nat):Int) * x)=false:=by
   rw [hsz]
   unfold Builtin.Tuple.tupleTooMany
   exact ao5 (by lia)
  wp_walk
  refine wpAny_ite_false (by rw [c1]; rfl) ?_
  wp_walk
  refine wpAny_ite_false (by rw [c2]; rfl) ?_
  wp_walk
  refine wpAny_ite_false (by rw [c3]; rfl) ?_
  wp_walk
  refine wpAny_ite_false c4 ?_
  wp_walk
  refine wpAny_ite_false (by rw [c5]; rfl) ?_
  wp_walk
  have f0:∀ (m:Nat) (acc:Array Value),(List.foldl (fun x1 x2=>x1 ++ x2) acc (List.replicate m items)).size=acc.size+m * items.size:=fun m=>by
   induction m with
   | zero=>intro acc; simp
   | succ m ih=>intro acc; rw [at2,List.foldl_cons,ih,Array.size_append,Nat.succ_mul]; lia
  have c6:decide ((List.foldl (fun x1 x2=>x1 ++ x2) #[] (List.replicate x.toNat items)).size > sizeLine)=false:=ao5 (by
   rw [f0 x.toNat #[]]
   have:x.toNat * items.size=items.size * x.toNat:=Nat.mul_comm _ _
   simp only [Array.size_empty]
   lia)
  refine wpAny_ite_false c6 ?_
  wp_walk
  exact⟨_,rfl,h⟩
end PySem
namespace PP
open PySem L2 PyProof.Rows
noncomputable def vU (K:PySem.W.Frag):R2:=fun x y H Q=>∃ l k xs,x = .ref l/\y = .int k/\aE K H l xs/\xs ≠ []/\2<=k/\k<=1000000/\xs.length * k.toNat<=sizeLine/\∀ p,H p=none->Q (.ref p) (upd H p (.tup (List.replicate k.toNat xs).flatten))
theorem vV {X:Cx}:bA X (binaryOp .Mult) (vU X.K):=by
 intro pins s σ H x y v u Q I rx ry h
 obtain ⟨l,k,xs,rfl,rfl,hH,hne,h1,h2,hz,q⟩:=h
 cases rx
 obtain ⟨t,rfl⟩:=ry
 obtain ⟨its,r,p,_⟩:=I.tuple hH
 obtain ⟨⟨cls,dd,data,sl⟩,ho,hc,n,hd⟩:=id p
 simp only at hc hd
 subst hc hd
 have hl:=r.length
 have hemp:its.toArray.isEmpty=false:=by
  cases its with
  | nil=>exact absurd (r.nil_iff.mp rfl) hne
  | cons a b=>rfl
 refine wpAny_binaryOp_repeat_ref (T:="tuple") (U:="int") (by decide) ⟨_,ho,rfl⟩ (fun s'=>typeIs_int s' k t) qI F.fills_int_mul ay0 qJ F.slot_int_index.lookup
  (aB3 ay0 (typeIs_int s k t) F.entry_int_rmul (F.args_int_rmul_2 _ _) (qK k t l its.toArray n dd sl)
   ⟨ho,rfl,⟨_,ho,rfl⟩,aB3 F.slot_tuple_mul ⟨_,ho,rfl⟩ F.entry_tuple_mul (F.args_tuple_mul_2 _ _) (ab3 l its.toArray n dd sl k t hemp h1 (by rw [ao4,<- hl]; exact hz) h2) ⟨ho,?_⟩⟩)
 have f0:List.foldl (fun x1 x2=>x1 ++ x2) #[] (List.replicate k.toNat its.toArray)=(List.replicate k.toNat its).flatten.toArray:=by
  have:=oG its k.toNat []
  rw [List.nil_append] at this
  exact this
 rw [f0]
 refine⟨.ref s.heap.objs.size,_,I.laid (t':=s.toks) (o:=.tup (List.replicate k.toNat xs).flatten) (fun b ob q=>ao3 _ q) (ao8 _) ?_,rfl,q _ (I.hok.fresh (ao8 _))⟩
 exact⟨by rw [oH,Nat.mul_comm]; exact hz,_,r.rep k.toNat,IsTup.new _ _,dY.new _ _ rfl⟩
theorem Reps.rep {K:PySem.W.Frag}{M:Addr->Prop}{H:Hp}{us:List V}{xs:List PV} (r:Reps K M H us xs):∀ k:Nat,Reps K M H (List.replicate k us).flatten (List.replicate k xs).flatten
 | 0=>.nil
 | k+1=>by rw [at2,at2,aw1,aw1]; exact r.append (Reps.rep r k)
section
variable {X : Cx} {a b e : Expr} {ta tb te : aA} {tr : bJ} {pos p2 p3 pos2 : Pos}
theorem ab4:cO X qH (vU X.K):=by
 rintro W Hs H u v x y g g' Q Q' s n r1 r2 ⟨xs,m,rfl,rfl,f,ne,h1,h2,hl,q⟩ k
 cases r2
 obtain ⟨a,us,rfl,h,r⟩:=r1.sqT
 have lr:=r.length
 refine⟨a,m,us,rfl,rfl,aE.of h,fun z=>ne (by cases xs with | nil=>rfl | cons _ _=>rw [z] at lr; cases lr),h1,h2,lim ?_,fun p hp=>k _ _ _ .fr (b8 hp _) (.tup bL (((r.flat f).rep m.toNat).same (b8 hp _) fun _ z=>z)) q⟩
 have h3:us.length<=10:=by lia
 have h4:m.toNat<=1000000:=by lia
 calc us.length * m.toNat<=10 * 1000000:=Nat.mul_le_mul h3 h4
  _<=16000000:=by decide
theorem ab5 (ha:QE X a ta) (hb:QE X b tb):QE X (.BinOp a .Mult b pos) (q2 qH ta tb):=eO vV ab4 ha hb
noncomputable def qL:V->Int
 | .int i=>i
 | _=>0
noncomputable def iF (H:Hp):V->List Int
 | .ref a=>match H a with
  | some (.tup us)=>us.map qL
  | _=>[]
 | _=>[]
theorem ab6 {H:Hp}{a:Addr}{ns:List Int} (h:H a=some (.tup (ns.map V.int))):iF H (.ref a)=ns:=by
 show (match H a with | some (.tup us)=>us.map qL | _=>[])=ns
 rw [h]
 show (ns.map V.int).map qL=ns
 rw [List.map_map]
 exact List.map_id _
theorem vW {K:PySem.W.Frag}{M:Addr->Prop}{H:Hp}:∀ {us:List V}{ys:List (List Int)},Reps K M H us (ys.map fun r=>PV.tup (intz r))->us.map (iF H)=ys/\∀ u ∈ us,∃ b,u = .ref b/\H b=some (.tup ((iF H u).map V.int))
 | _,[],.nil=>⟨rfl,fun u h=>nomatch h⟩
 | _,y :: ys,.cons r t=>by
  obtain ⟨a,us,rfl,h,r1⟩:=r.sqT
  obtain rfl:=r1.ofInts
  obtain ⟨h1,h2⟩:=vW t
  have hk:=ab6 h
  refine⟨by rw [List.map_cons,h1,hk],fun u hu=>?_⟩
  rcases ap0.mp hu with rfl | hu
  ·exact⟨a,rfl,by rw [hk]; exact h⟩
  ·exact h2 u hu
theorem vX {K:PySem.W.Frag}{M:Addr->Prop}{H:Hp}:∀ {us:List V},(∀ u ∈ us,∃ b,u = .ref b/\H b=some (.tup ((iF H u).map V.int)))->Reps K M H us ((us.map (iF H)).map fun r=>PV.tup (intz r))
 | [],_=>.nil
 | u :: us,h=>by
  obtain ⟨b,rfl,hb⟩:=h u aq9
  exact .cons (.tup hb (Reps.intz _)) (vX fun v hv=>h v (aq4 _ hv))
end
noncomputable def ab7 (K:PySem.W.Frag):Sp:=fun vs H Q _=>∃ (a:Addr) (ns:List Int),vs = [.ref a]/\(aE K H a (ns.map V.int) ∨ aG K H a (ns.map V.int))/\ns.length<=1000/\∀ H',a9 H H'->Q (.bl (Core.qD ns)) H'
section
variable {P : Program} {w : World} {K : PySem.W.Frag} {mg : Str → Option Value} {base : Heap} {f : Addr} {fd : FuncData} {k : Nat}
theorem vY (F:bZ P w K mg base dA k f fd ["things"] (ab7 K)) (b:fP K fd ["things"] []) (kp:PySem.W.keepIn K (.ref f)=true) (m:mg "rises" = some (.ref f)):Df P w K mg base k "rises" ["things"] Core.aa3:=by
 refine⟨f,fd,F.imp fun vs H Q E h=>?_,b,kp,m⟩
 obtain ⟨xs,Qp,r,⟨x,ns,rfl,hx,hl,q⟩,k⟩:=h
 obtain ⟨v,rfl,r1⟩:=r.one
 rcases hx with rfl | rfl
 ·obtain ⟨a,us,rfl,h,r2⟩:=r1.sqT
  obtain rfl:=r2.ofInts
  exact⟨a,ns,rfl,.inl (aE.of h),hl,fun H' s=>k _ H' _ s (.bl _) q⟩
 ·obtain ⟨a,us,rfl,_,h,r2⟩:=r1.sqL
  obtain rfl:=r2.ofInts
  exact⟨a,ns,rfl,.inr (aG.of h),hl,fun H' s=>k _ H' _ s (.bl _) q⟩
end
end PP
namespace Core
open PySem L2 PP
theorem vZ (n:Nat):fA 0 n=intz (rng n):=by
 unfold fA rng
 show _=List.map PV.int (List.map (fun (i:Nat)=>(i:Int)) (List.range n))
 rw [List.map_map]
 refine List.map_congr_left fun i _=>?_
 show PV.int (0+(i:Int))=PV.int (i:Int)
 rw [Int.zero_add]
theorem w4 (n:Nat):(rng n).Nodup:=by
 unfold rng
 rw [List.nodup_iff_pairwise_ne,ax8]
 exact (List.nodup_range (n:=n)).imp fun h e=>h (by lia)
noncomputable def two (l:Int × Int):List Int:=[l.1,l.2]
noncomputable def kE (r:List Int):Int × Int:=(r.getD 0 0,r.getD 1 0)
theorem kF (ls:List (Int × Int)):aU ls=(ls.map two).map fun r=>PV.tup (intz r):=by
 unfold aU
 rw [List.map_map]; rfl
theorem w5 {zs:List (List Int)}{ls:List (Int × Int)} (h:zs.Perm (ls.map two)):∃ ls':List (Int × Int),zs=ls'.map two/\ls'.Perm ls:=by
 refine⟨zs.map kE,?_,?_⟩
 ·rw [List.map_map]
  have:∀ z ∈ zs,(two ∘ kE) z=z:=fun z hz=>by
   obtain ⟨l,_,rfl⟩:=ay4.mp (h.mem_iff.mp hz)
   rfl
  rw [List.map_congr_left this,List.map_id']
 ·have:=h.map kE
  rw [List.map_map] at this
  have e:ls.map (kE ∘ two)=ls:=by
   have:∀ l ∈ ls,(kE ∘ two) l=id l:=fun l _=>rfl
   rw [List.map_congr_left this,List.map_id]
  rw [e] at this
  exact this
theorem w6 {ls:List (Int × Int)} (so:(ls.map two).Pairwise fun u v=>HT.bF v u=false) (nd:ls.Nodup):ls.Pairwise c9:=by
 rw [ax8] at so
 refine (List.pairwise_and_iff.mpr ⟨so,nd⟩).imp fun {a b} h=>?_
 obtain ⟨h1,h2⟩:=h
 unfold two at h1
 rw [HT.gG] at h1
 unfold c9
 by_cases e:b.1=a.1
 ·rw [if_pos e,HT.gG] at h1
  by_cases e2:b.2=a.2
  ·exact absurd (Prod.ext e.symm e2.symm) h2
  ·rw [if_neg e2] at h1
   have:=of_decide_eq_false h1
   lia
 ·rw [if_neg e] at h1
  have:=of_decide_eq_false h1
  lia
theorem ab8 (ws:List Int) (ls:List (Int × Int)):flats [.tup (intz ws),.tup (aU ls)]=true:=vR ws ls
theorem w9 (ns:List Int) {k:Int} (h:0<=k):dQ (intz ns) (some k) none=intz (ns.drop k.toNat):=by
 unfold dQ
 have e1:HT.aH (intz ns).length 0 (some k)=min k.toNat (intz ns).length:=by
  have:=HT.sS (intz ns).length 0 k.toNat
  rw [show ((k.toNat:Nat):Int)=k by lia] at this
  exact this
 have e2:HT.aH (intz ns).length (intz ns).length none=(intz ns).length:=rfl
 rw [e1,e2,bR]
 rw [as2 (by rw [av6,bR]; lia)]
 show _=List.map PV.int _
 rw [List.map_drop]
 by_cases hk:k.toNat<=ns.length
 ·rw [Nat.min_eq_left hk]
 ·rw [Nat.min_eq_right (by lia),List.drop_of_length_le (by rw [bR]; lia),List.drop_of_length_le (by rw [bR]; lia)]
noncomputable def wA:c8:=fun xs Q=>∃ ns:List Int,xs = [.scr ns]/\ns.length<=63/\Q (.bl true)
structure ab9 (K:PySem.W.Frag):Prop where
 ii:PySem.W.kitOne K (.type "int") (.type "int")=some true
 ib:PySem.W.kitOne K (.type "int") (.type "bool")=some false
 tt:PySem.W.kitOne K (.type "tuple") (.type "tuple")=some true
 ll:PySem.W.kitOne K (.type "list") (.type "list")=some true
 bb:PySem.W.kitOne K (.type "bool") (.type "bool")=some true
theorem qM (K:PySem.W.Frag):ab9 K:=by
 have same:∀ n:String,PySem.W.kitMeta n=true->True:=fun _ _=>trivial
 refine⟨?_,?_,?_,?_,?_⟩
 ·unfold PySem.W.kitOne; rw [if_pos (by decide)]
 ·have e:(if PySem.W.kitMeta "bool" = true then (fastBuiltinMro "int").map (·.contains (Value.type "bool")) else none)=some false:=by decide +kernel
  unfold PySem.W.kitOne
  rw [if_neg (by decide)]
  exact e
 ·unfold PySem.W.kitOne; rw [if_pos (by decide)]
 ·unfold PySem.W.kitOne; rw [if_pos (by decide)]
 ·unfold PySem.W.kitOne; rw [if_pos (by decide)]
end Core
namespace PP
open PySem L2 PyProof.Rows
theorem ac0 {P:Program}{w:World}{K:PySem.W.Frag}{mg:Str->Option Value}{base:Heap}{k:Nat}{x:Str}{ps N:List Str}{p:c8}{st:Stmt}{f:Addr}{fd:FuncData} (F:dJ K x x st f fd) (S:FnScope N ps (aO st))
  (len:∀ xs Q,p xs Q->xs.length=ps.length)
  (body:∀ (cdv:Value) (A:Around) (outer:List Env) (s:Shared) (H:Hp) (E:XK),bB k (A.deeper (envOfC x (aO st) s.heap.objs.size f cdv))->
   ∃ t,dE (bW dA P w K mg base N x (aO st) f cdv A outer s H E).nox (cS st) t/\∀ xs Q,p xs Q->t { nx:=fun _=>Q .non,rt:=Q } (dD N xs)):bZ P w K mg base dA (k+1) f fd ps (jP K p):=by
 refine F.ok S (fun vs H Q E h=>?_) (fun cdv A outer s H vs Q E hr h=>?_)
 ·obtain ⟨xs,Qp,r,q,_⟩:=h
  rw [r.length]; exact len xs Qp q
 ·obtain ⟨xs,Qp,r,q,k⟩:=h
  obtain ⟨t,ht,hq⟩:=body cdv A outer s H E hr
  refine⟨_,ht,fun _=>False,dD N xs,_,pM r,hq xs Qp q,?_,?_,?_,?_⟩
  ·exact fun W' σ' H' ρ' e px q=>k _ _ _ px.same .non q
  ·exact fun v H' x s r q=>k _ _ _ s r q
  ·exact fun W' σ' H' ρ' e px q=>q
  ·exact fun W' σ' H' ρ' e px q=>q
noncomputable def mQ (K:PySem.W.Frag):Sp:=fun vs H Q _=>∃ (a:Addr) (ns:List Int),vs = [.ref a]/\fU K H a ns/\ns.length<=63/\∀ H',Q (.bl true) H'
theorem ac1 {P:Program}{w:World}{K:PySem.W.Frag}{mg:Str->Option Value}{base:Heap}{k:Nat}{f:Addr}{fd:FuncData} (F:bZ P w K mg base dA k f fd ["script"] (jP K Core.wA)):bZ P w K mg base dA k f fd ["script"] (mQ K):=
 F.imp fun vs H Q E h=>by
  obtain ⟨a,ns,rfl,hs,hl,q⟩:=h
  refine⟨[.scr ns],fun z=>z = .bl true,.cons (.scr hs) .nil,⟨ns,rfl,hl,rfl⟩,?_⟩
  rintro v H' x _ r rfl
  cases r
  exact q H'
theorem ac2 {K:PySem.W.Frag}{H:Hp}{a:Addr}{ns:List Int} (hO:lA H) (h:aG K H a (ns.map V.int)):fU K H a ns:=by
 rcases h with (h | ⟨o,h⟩) | h
 ·rcases hO a with e | ⟨o,xs,e⟩ <;> (rw [h] at e; cases e)
 ·exact .inl ⟨o,h⟩
 ·exact .inr h
end PP
namespace PyProof.Rows
open PySem
end PyProof.Rows
namespace PP
open PySem L2 PyProof.Rows
section
variable {X : Cx} {a b e : Expr} {ta tb te : aA} {tr : bJ} {pos p2 : Pos}
noncomputable def wB:PV->Tg->PV->Tg->PK->Prop:=fun x _ y _ Q=>∃ xs ys,x = .lst xs/\y = .lst ys/\flats xs=true/\flats ys=true/\xs.length+ys.length<=16000000/\Q (.lst (xs ++ ys)) .fr
noncomputable abbrev wC (ta tb:aA):aA:=q2 wB ta tb
theorem ac3:cO X wB tE:=by
 rintro W Hs H u v x y g g' Q Q' s n r1 r2 ⟨xs,ys,rfl,rfl,f1,f2,hl,q⟩ k
 obtain ⟨a,us,rfl,_,h1,q1⟩:=r1.sqL
 obtain ⟨b,ws,rfl,_,h2,q2⟩:=r2.sqL
 have l1:=q1.length
 have l2:=q2.length
 refine⟨a,b,us,ws,rfl,rfl,h1,h2,lim (by lia),fun p hp=>k _ _ _ .fr (b8 hp _) (.lst (s.free hp) bL (((q1.flat f1).append (q2.flat f2)).same (b8 hp _) fun _ z=>z)) q⟩
theorem ac4 (ha:QE X a ta) (hb:QE X b tb):QE X (.BinOp a .Add b pos) (wC ta tb):=eO J7 ac3 ha hb
end
end PP
namespace Zp
open PySem PyProof.Rows
theorem ac5 (t b:Addr) (xs ys:Array Value) (n n2:Nat) (dd dd2:Option Addr) (sl sl2:Array (Option Value)) (hx:xs.isEmpty=true):Meets (Builtin.«tuple.__add__» ⟨[.ref t,.ref b],[]⟩)
  (fun _ R s=>s.heap.get? t=some { cls:=.type "tuple",dict:=dd,data:=.seq xs n,slots:=sl }/\s.heap.get? b=some { cls:=.type "tuple",dict:=dd2,data:=.seq ys n2,slots:=sl2 }/\R (.ok (.ret (.ref b))) s):=
 .of_wp fun prog w A R s h=>by
  obtain ⟨h1,h2,h⟩:=h
  have sub:isSubtype (Value.type "tuple") (Value.type "tuple")=pure true:=rfl
  wp_walk
  exact⟨_,rfl,h⟩
end Zp
namespace L2
open PySem PySem.Spec PyProof.Rows
section
variable {X : Cx}
noncomputable def wD (K:PySem.W.Frag):R2:=fun x y H Q=>∃ a b xs ys,x = .ref a/\y = .ref b/\aE K H a xs/\aE K H b ys/\xs.length+ys.length<=sizeLine/\
 (xs = []->Q (.ref b) H)/\(xs ≠ []->ys = []->Q (.ref a) H)/\(xs ≠ []->ys ≠ []->∀ p,H p=none->Q (.ref p) (upd H p (.tup (xs ++ ys))))
theorem ac6:bA X (binaryOp .Add) (wD X.K):=by
 intro pins s σ H x y v u Q I rx ry h
 obtain ⟨a,b,xs,ys,ex,ey,ha,hb,hz,q0,q1,q2⟩:=h
 by_cases hx:xs = []
 ·subst ex ey
  cases rx
  cases ry
  obtain ⟨its,r1,p1,_⟩:=I.tuple ha
  obtain ⟨its2,r2,p2,_⟩:=I.tuple hb
  have hi:its = []:=r1.nil_iff.mpr hx
  obtain ⟨⟨cls,dd,data,sl⟩,ho,hc,n,hd⟩:=id p1
  obtain ⟨⟨cls2,dd2,data2,sl2⟩,ho2,hc2,n2,hd2⟩:=id p2
  simp only at hc hd hc2 hd2
  subst hc hd hc2 hd2
  exact concat_meets ⟨_,ho,rfl⟩ ⟨_,ho2,rfl⟩ noFill_tuple_add seq_tuple_add PySem.F.slot_tuple_add PySem.F.entry_tuple_add (PySem.F.args_tuple_add_2 _ _)
   (Zp.ac5 a b its.toArray its2.toArray n n2 dd dd2 sl sl2 (by simp [hi])) ⟨ho,ho2,⟨.ref b,H,I,rfl,q0 hx⟩⟩
 ·exact F8 pins s σ H x y v u Q I rx ry ⟨a,b,xs,ys,ex,ey,ha,hb,hx,hz,q1 hx,q2 hx⟩
end
end L2
namespace PP
open PySem L2 PyProof.Rows
section
variable {X : Cx} {e : Expr} {te : aA} {pos p2 : Pos} {scope : Scope} {N : List Str} {fr : List (Option Nat)} {x y : Str} {tp xp yp : Pos} {kt : Nat} {iter elt : Expr} {ti : dP}
noncomputable abbrev qN (x y:Str) (xp yp:Pos) (kt:Nat) (tp:Pos):Expr:=.Tuple [.Name x xp,.Name y yp] kt tp
theorem ac7 {ifs:List Expr}{tcs:bS} (hc:X.calm=true) (he:∀ (s:Shared) (H:Hp) (C:Addr) (fp:List Addr),QE (bE X scope N s H C fp bX) elt te) (hi:∀ (s:Shared) (H:Hp) (C:Addr) (fp:List Addr),gW (bE X scope N s H C fp bX) ifs (LT (bE X scope N s H C fp bX) tcs))
  (hN:N.Nodup) (h0:N[0]? = some x) (h1:N[1]? = some y) (hl:∀ (s:Shared) (H:Hp) (C:Addr) (fp:List Addr),(bE X scope N s H C fp bX).env.scope.names.lookup x=some .local) (hl2:∀ (s:Shared) (H:Hp) (C:Addr) (fp:List Addr),(bE X scope N s H C fp bX).env.scope.names.lookup y=some .local) (s:Shared) (H:Hp) :
  jL X scope N (qN x y xp yp kt tp) ifs elt s H (kU X.K 2 (gS (cR 0) (gS (cR 1) kT))) (LT (X.frm H) tcs) (LE (X.frm H) te):=
 ⟨fun C fp=>zM (X:=bE X scope N s H C fp bX) hc (sC (kS hN h0 (.inl (hl s H C fp)) (.inr (hl s H C fp))) (sC (kS hN h1 (.inl (hl2 s H C fp)) (.inr (hl2 s H C fp))) zL)),fun C fp=>hi s H C fp,fun C fp=>he s H C fp⟩
theorem ac8 (hi:QI X (qN x y xp yp kt tp) iter ti) (he:∀ (s:Shared) (H:Hp) (C:Addr) (fp:List Addr),QE (bE X scope N s H C fp bX) elt te)
  (hc:X.calm=true:=by rfl) (S:cT X scope N fr:=by exact cT.of rfl rfl) (hN:N.Nodup:=by decide +kernel) (h0:N[0]? = some x:=by rfl) (h1:N[1]? = some y:=by rfl) (hl:∀ (s:Shared) (H:Hp) (C:Addr) (fp:List Addr),(bE X scope N s H C fp bX).env.scope.names.lookup x=some .local:=by intro _ _ _ _; rfl) (hl2:∀ (s:Shared) (H:Hp) (C:Addr) (fp:List Addr),(bE X scope N s H C fp bX).env.scope.names.lookup y=some .local:=by intro _ _ _ _; rfl) (hf:fr[0]? = some none:=by rfl) (hf2:fr[1]? = some none:=by rfl)
  (hs:∀ x,foldedSetIterable iter X.env x=pure x:=by intro _; rfl):QE X (.ListComp elt [⟨qN x y xp yp kt tp,iter,[],0⟩] scope pos) (fY ti fr (pD 0 1) eM te):=
 bO (tO (gh:=fun _=>kU X.K 2 (gS (cR 0) (gS (cR 1) kT))) (tch:=fun H=>LT (X.frm H) eM) (teh:=fun H=>LE (X.frm H) te) hc S hi (ac7 hc he (fun _ _ _ _=>pO) hN h0 h1 hl hl2) hs) fun _ _ _=>lQ (S2 _ 0 1) (fun i e=>by rcases e with e | e <;> (subst e; assumption))
end
section
variable {X : Cx} {a b e o f : Expr} {ta tb te td tk tx : aA} {pos p2 apos cpos : Pos} {σ : L2.St} {H : Hp} {Q' : VK}
noncomputable def wE:PV->Tg->PV->Tg->PK->Prop:=fun x _ y _ Q=>∃ xs n,x = .lst xs/\y = .int n/\flats xs=true/\-1000000<=n/\n<=1000000/\xs.length<=10/\Q (.lst (List.replicate n.toNat xs).flatten) .fr
noncomputable abbrev wF (ta tb:aA):aA:=q2 wE ta tb
theorem ac9:cO X wE tF:=by
 rintro W Hs H u v x y g g' Q Q' s n r1 r2 ⟨xs,m,rfl,rfl,f,h1,h2,hl,q⟩ k
 cases r2
 obtain ⟨a,us,rfl,mm,h,r⟩:=r1.sqL
 have lr:=r.length
 refine⟨a,m,us,rfl,rfl,h,by lia,by lia,lim ?_,fun p hp=>k _ _ _ .fr (b8 hp _) (.lst (s.free hp) bL (((r.flat f).rep m.toNat).same (b8 hp _) fun _ z=>z)) q⟩
 have h3:us.length<=10:=by lia
 have h4:m.toNat<=1000000:=by lia
 calc us.length * m.toNat<=10 * 1000000:=Nat.mul_le_mul h3 h4
  _<=16000000:=by decide
theorem ad0 (ha:QE X a ta) (hb:QE X b tb):QE X (.BinOp a .Mult b pos) (wF ta tb):=eO J8 ac9 ha hb
theorem gD {x:Str}{n:Int}{t:Nat} (hg:Gl X x) (hm:X.mg x=some (.int n t)) (hd:(x == ("__debug__" : Str))=false:=by decide):QE X (.Name x pos) (qC (.int n)):=
 bO (rQ (v:=.int n) hg hm ⟨t,rfl⟩ hd) fun _ _ _=>jM fun _=>.int n
end
section
variable {X : Cx} {a b : Expr} {ta tb : aA} {pos : Pos}
noncomputable def wG:PV->Tg->PV->Tg->PK->Prop:=fun x _ y _ Q=>∃ xs ys,x = .tup xs/\y = .tup ys/\flats xs=true/\flats ys=true/\xs.length+ys.length<=16000000/\Q (.tup (xs ++ ys)) .fr
noncomputable abbrev kG (ta tb:aA):aA:=q2 wG ta tb
theorem ad1:cO X wG (wD X.K):=by
 rintro W Hs H u v x y g g' Q Q' s n r1 r2 ⟨xs,ys,rfl,rfl,f1,f2,hl,q⟩ k
 obtain ⟨a,us,rfl,h1,q1⟩:=r1.sqT
 obtain ⟨b,ws,rfl,h2,q2⟩:=r2.sqT
 have l1:=q1.length
 have l2:=q2.length
 refine⟨a,b,us,ws,rfl,rfl,aE.of h1,aE.of h2,lim (by lia),fun z=>?_,fun _ z=>?_,fun _ _ p hp=>k _ _ _ .fr (b8 hp _) (.tup bL (((q1.flat f1).append (q2.flat f2)).same (b8 hp _) fun _ z=>z)) q⟩
 ·obtain rfl:xs = []:=by cases xs with
   | nil=>rfl
   | cons _ _=>rw [z] at l1; cases l1
  exact k _ _ _ .fr (a9.refl _) (.tup h2 (q2.flat f2)) q
 ·obtain rfl:ys = []:=by cases ys with
   | nil=>rfl
   | cons _ _=>rw [z] at l2; cases l2
  rw [as5] at q
  exact k _ _ _ .fr (a9.refl _) (.tup h1 (q1.flat f1)) q
theorem mR (ha:QE X a ta) (hb:QE X b tb):QE X (.BinOp a .Add b pos) (kG ta tb):=eO ac6 ad1 ha hb
end
end PP
namespace Core
open PySem L2 PP
section
variable {ws : List Int} {ls : List (Int × Int)} {os ns : List Int}
noncomputable def ad2 (ws:List Int) (ls:List (Int × Int)) (T:List Int):Prop:=∀ h ∈ rng ws.length,kin ws ls T h=false
end
theorem qO {i:Nat}{h:Int}{g:Bool}{ρ:aX}{Q:aX->Prop} (q:Q (ρ.set i (some (.sh true (.int h))))):cX i (.int h) g ρ Q:=by
 show Q (ρ.set i (some (.sh (g || true) (.int h))))
 rw [Bool.or_true]; exact q
theorem ad3 (A:List Int):dQ (intz A) none (some 1)=intz (A.take 1):=by
 unfold dQ
 have e1:HT.aH (intz A).length 0 none=0:=rfl
 have e2:HT.aH (intz A).length (intz A).length (some 1)=min 1 (intz A).length:=HT.sS (intz A).length (intz A).length 1
 rw [e1,e2,List.drop_zero,Nat.sub_zero,bR]
 cases A with
 | nil=>rfl
 | cons a r=>
  rw [au7,Nat.min_eq_left (by lia)]; rfl
noncomputable def ad4 (ns S:List Int):Int:=(ns.length:Int) - (((ns.filter fun x=>decide (x ∈ S)).length:Nat):Int)
noncomputable def ad5 (ws:List Int) (ls:List (Int × Int)) (S:List Int) (h:Int):Bool:=decide (ad4 (tT ls h) S < ws.getD h.toNat 0)
noncomputable def stay (ws:List Int) (ls:List (Int × Int)) (S:List Int):List Int:=S.filter (ad5 ws ls S)
theorem ad6 {xs:List PV}{w:Int} (h:0<=w):dQ xs none (some w)=xs.take w.toNat:=by
 unfold dQ
 rw [HT.E2,List.drop_zero,Nat.sub_zero]
 have:HT.aH xs.length xs.length (some w)=min w.toNat xs.length:=by
  show (if w < 0 then (w+(xs.length:Int)).toNat else min w.toNat xs.length)=_
  rw [if_neg (by lia)]
 rw [this,<- List.take_take,List.take_length]
end Core
namespace PP
open PySem L2 PyProof.Rows
noncomputable def fG (xs ys:List PV):List PV:=List.zipWith (fun x y=>PV.tup [x,y]) xs ys
theorem qP (xs ys:List PV):(fG xs ys).length=min xs.length ys.length:=by unfold fG; rw [List.length_zipWith]
theorem wH {xs ys:List PV}{i:Nat}{x y:PV} (h:xs[i]? = some x) (h':ys[i]? = some y):(fG xs ys)[i]? = some (.tup [x,y]):=by
 unfold fG; rw [List.getElem?_zipWith,h,h']
theorem ad7 {xs ys:List PV}{i:Nat}{z:PV} (h:(fG xs ys)[i]? = some z):∃ x y,xs[i]? = some x/\ys[i]? = some y/\z = .tup [x,y]:=by
 unfold fG at h
 rw [List.getElem?_zipWith] at h
 cases e:xs[i]? with
 | none=>rw [e] at h; cases h
 | some x=>
  cases e':ys[i]? with
  | none=>rw [e,e'] at h; cases h
  | some y=>rw [e,e'] at h; exact⟨x,y,rfl,rfl,(ar1 h).symm⟩
theorem ad8 {K:PySem.W.Frag}{H0:Hp}{W:Addr->Prop}{g:Bool}{H1:Hp}{a b:Addr}{us vs:List V}{xs ys:List PV} (tw:∀ a,W a->∃ o,H1 a=some o/\eI o=true) (ha:∀ W' H',Ev W H1 W' H'->aE K H' a us) (hb:∀ W' H',Ev W H1 W' H'->aE K H' b vs)
  (r:Reps K (Ms H0 W g) H1 us xs) (r':Reps K (Ms H0 W g) H1 vs ys):iS K H0 W g H1 (oS K a b) (fG xs ys):=by
 have lr:=r.length
 have lr':=r'.length
 have ll:=qP xs ys
 refine⟨fun W' H' i e hi=>⟨us,vs,us[i]'(by lia),vs[i]'(by lia),ha W' H' e,hb W' H' e,by simp,by simp⟩,fun W' H' i v H2 e y hi=>?_,fun W' H' e=>⟨us,vs,ha W' H' e,hb W' H' e,by lia⟩⟩
 obtain ⟨T,x,y',hT,rfl,rfl,y⟩:=y
 obtain ⟨h1,h2⟩:=y us vs (ha W' _ e) (hb W' _ e)
 obtain ⟨z,hz,rz⟩:=r.get h1
 obtain ⟨z',hz',rz'⟩:=r'.get h2
 have sm:=b8 hT (HO.tup [x,y'])
 exact⟨sm,_,wH hz hz',.tup bL (.cons ((rz.keep (e.keep tw)).same sm fun _ q=>q) (.cons ((rz'.keep (e.keep tw)).same sm fun _ q=>q) .nil))⟩
end PP
namespace Core
open PySem L2 PP
theorem wI {ns:List Int}{w:Int} (h:0<=w):dQ (intz ns) none (some w)=intz (ns.take w.toNat):=by
 rw [ad6 h]; exact List.map_take.symm
theorem lF {ls:List (Int × Int)}{wts:List Int} (e:wts.length=ls.length):(ls.zip wts).map (·.2)=wts:=by
 rw [List.map_snd_zip]; lia
section
variable {ws : List Int} {ls : List (Int × Int)} {ns wts : List Int} {m : Nat}
noncomputable def loose (ls:List (Int × Int)) (wts ns:List Int):List ((Int × Int) × Int):=(ls.zip wts).filter fun z=>!(decide (z.1.1 ∈ ns) && decide (z.1.2 ∈ ns))
end
end Core
set_option maxHeartbeats 1000000
set_option maxHeartbeats 1000000
set_option maxHeartbeats 1000000
set_option maxHeartbeats 1000000
namespace PP
open PySem L2 PyProof.Rows
noncomputable abbrev cE:=(Str->Prop)->c8
noncomputable def EX (K:PySem.W.Frag) (H0:Hp) (Ep:Str->Prop):XK:=fun c d H'=>d=none/\a9 H0 H'/\∃ n C,c = .ref C/\PySem.W.nsIn K mainGlobals n=some (some (.ref C))/\Ep n
noncomputable def wJ (K:PySem.W.Frag) (p:cE):Sp:=fun vs H Q E=>∃ xs Qp Ep,Reps K (fun _=>True) H vs xs/\p Ep xs Qp/\(∀ v H' x,a9 H H'->aB K (fun a=>H a=none) H' v x->Qp x->Q v H')/\
 ∀ n C H',a9 H H'->PySem.W.nsIn K mainGlobals n=some (some (.ref C))->Ep n->E (.ref C) none H'
structure aV (P:Program) (w:World) (K:PySem.W.Frag) (mg:Str->Option Value) (base:Heap) (k:Nat) (x:Str) (ps:List Str) (p:cE):Prop where
 ex:∃ f fd,bZ P w K mg base (cK P w) k f fd ps (wJ K p)/\fP K fd ps []/\PySem.W.keepIn K (.ref f)=true/\mg x=some (.ref f)
section
variable {X : Cx} {σ : L2.St} {H : Hp} {D : cM} {tr : bJ} {Q' : VK} {a b c e : Expr} {es : List Expr} {pos p2 cp np hp : Pos} {t : aL} {te : aA} {tc : bS}
noncomputable def fH (Ep:Str->Prop) (p:cE) (t:bJ):aA:=aK (p Ep) t
theorem wK {p:cE}{Ep:Str->Prop} (h:LE X (fH Ep p tr) σ H Q'):o9 (wJ X.K p) [] (EX X.K X.H₀ Ep) (LA X tr) σ H Q':=by
 obtain ⟨W,ρ,Q,px,q,k⟩:=h
 refine⟨W,ρ,_,px,q,fun vs H1 xs s1 r1 q1=>⟨_,_,Ep,by rw [as5]; exact r1.any,q1,fun v H' x s2 r2 q2=>k v H' x .fr (s1.trans s2) (r2.same (a9.refl _) fun _ z=>s1.free z) q2,fun n C H' s2 z1 z2=>⟨rfl,(px.same.trans s1).trans s2,n,C,rfl,z1,z2⟩⟩⟩
theorem fI {Ep:Str->Prop}{k j:Nat}{x:Str}{ps:List Str}{p:cE} (hX:j9 X (EX X.K X.H₀ Ep)) (d:aV X.prog X.w X.K X.mg X.base k x ps p) (hr:bB j X.A) (ha:QA X (e :: es) tr) (hkj:k<=j:=by decide) (hg:Gl X x:=by rfl) (hdb:(x == ("__debug__" : Str))=false:=by decide)
  (he:starEach (e :: es) X.env=(false,eval e X.env) :: starEach es X.env:=by rfl) (hpl:(backTo pos (starEach es X.env)).any (·.1)=false:=by rfl):QE X (.Call (.Name x p2) (e :: es) [] pos) (fH Ep p tr):=by
 obtain ⟨f,fd,F,b,kp,m⟩:=d.ex
 exact bO (oA F (hr.mono hkj) hg m kp b .nil hX.pass ha hdb he hpl) fun _ _ _=>wK
theorem wL {k j:Nat}{x:Str}{ps:List Str}{p:cE} (d:aV X.prog X.w X.K X.mg X.base k x ps p) (hr:bB j X.A) (ha:QA X (e :: es) tr) (hkj:k<=j:=by decide) (hg:Gl X x:=by rfl) (hdb:(x == ("__debug__" : Str))=false:=by decide)
  (he:starEach (e :: es) X.env=(false,eval e X.env) :: starEach es X.env:=by rfl) (hpl:(backTo pos (starEach es X.env)).any (·.1)=false:=by rfl):QE X (.Call (.Name x p2) (e :: es) [] pos) (aK (p fun _=>False) tr):=by
 obtain ⟨f,fd,F,b,kp,m⟩:=d.ex
 refine bO (oA F (E:=EX X.K X.H₀ fun _=>False) (hr.mono hkj) hg m kp b .nil (fun _ _ _ _ _ _ _ h=>?_) ha hdb he hpl) fun _ _ _ h=>wK (Ep:=fun _=>False) h
 obtain ⟨_,_,_,_,_,_,_,_,_,_,_,_,z⟩:=h
 exact z.elim
noncomputable def kH (Ep:Str->Prop) (n:Str) (t:bJ):aL:=fun _ ρ=>t ρ fun xs=>xs.length<=1000/\Ep n
theorem ad9 {Ep:Str->Prop}{n:Str}{C:Addr} (hn:PySem.W.nsIn X.K mainGlobals n=some (some (.ref C))) (h:LS X (kH Ep n tr) D σ H):vO (EX X.K X.H₀ Ep) C (LA X tr) D σ H:=by
 obtain ⟨W,ρ,D',px,q,k⟩:=h
 exact⟨W,ρ,_,px,q,fun vs H1 xs s1 r z=>⟨by rw [r.length]; exact oY z.1,rfl,px.same.trans s1,n,C,rfl,hn,z.2⟩⟩
structure Xc (K:PySem.W.Frag) (mg:Str->Option Value) (base:Heap) (n:Str):Prop where
 ex:∃ C B newId initId bm,OwnCls n C bm newId mg base/\ExcBaseFacts B newId initId bm/\PySem.W.nsIn K mainGlobals n=some (some (.ref C))
theorem qQ {Ep:Str->Prop}{n:Str} (hX:j9 X (EX X.K X.H₀ Ep)) (x:Xc X.K X.mg X.base n) (ha:QA X (e :: es) tr) (hc:X.calm=true:=by rfl) (hg:Gl X n:=by rfl) (hd:(n == ("__debug__" : Str))=false:=by decide)
  (he:starEach (e :: es) X.env=(false,eval e X.env) :: starEach es X.env:=by rfl) (hpl:(backTo cp (starEach es X.env)).any (·.1)=false:=by rfl):QS X (.Raise (some (.Call (.Name n np) (e :: es) [] cp)) none pos) (kH Ep n tr):=by
 obtain ⟨C,B,newId,initId,bm,O,FB,hn⟩:=x.ex
 exact dF (Y7 hX hc O FB ha hg hd he hpl) fun _ _ _=>ad9 hn
noncomputable abbrev gE:=gI->(Str->Prop)->aX->Prop
noncomputable def LB (X:Cx) (t:gE):TB:=fun D Ex σ H=>∃ (W:Addr->Prop) (ρ:aX) (D':gI) (Ep:Str->Prop),PX X.K X.H₀ W σ ρ H/\t D' Ep ρ/\jN X W H D' D/\∀ n C H',a9 H H'->PySem.W.nsIn X.K mainGlobals n=some (some (.ref C))->Ep n->Ex (.ref C) none H'
noncomputable def QB (X:Cx) (sts:List Stmt) (t:gE):Prop:=PB X sts (LB X t)
theorem wM {sts:List Stmt}{t t':TB} (h:PB X sts t) (m:∀ D Ex σ H,t' D Ex σ H->t D Ex σ H):PB X sts t':=fun pins s σ H D Ex I q=>h pins s σ H D Ex I (m D Ex σ H q)
noncomputable def jA (p:cE) (t:bJ):gE:=fun D Ep ρ=>t ρ fun xs=>p Ep (xs.map (·.1)) fun _=>D.nx ρ
noncomputable def kI (c:bS) (t u:gE):gE:=fun D Ep ρ=>c ρ fun b=>if b=true then t D Ep ρ else u D Ep ρ
theorem kJ {k j:Nat}{x:Str}{ps:List Str}{p:cE} (d:aV X.prog X.w X.K X.mg X.base k x ps p) (hr:bB j X.A) (ha:∀ E,QA (X.wish E) (e :: es) tr) (hkj:k<=j:=by decide) (hg:Gl X x:=by rfl) (hdb:(x == ("__debug__" : Str))=false:=by decide)
  (he:starEach (e :: es) X.env=(false,eval e X.env) :: starEach es X.env:=by rfl) (hpl:(backTo cp (starEach es X.env)).any (·.1)=false:=by rfl) (hsw:swapsWith (.Call (.Name x p2) (e :: es) [] cp) none pos.line X.env=pure false:=by rfl):QB X [.Expr (.Call (.Name x p2) (e :: es) [] cp) pos] (jA p tr):=by
 obtain ⟨f,fd,F,b,kp,m⟩:=d.ex
 refine wM (Z2 (t:=LA X tr) F (hr.mono hkj) hg m kp b (fun E=>ha E) hdb he hpl hsw) fun D Ex σ H h=>?_
 obtain ⟨W,ρ,D',Ep,px,q,k,ke⟩:=h
 exact⟨W,ρ,_,px,q,fun vs H1 xs s1 r q1=>⟨_,_,Ep,r.any,q1,fun v H' x s2 r2 q2=>k.nx W σ H' ρ (Ev.same (s1.trans s2)) (px.mono (s1.trans s2)) q2,fun n C H' s2 z1 z2=>ke n C H' (s1.trans s2) z1 z2⟩⟩
theorem mS {sa sb:List Stmt}{tb ub:gE} (hc:∀ E,QT (X.wish E) c tc) (ha:QB X sa tb) (hb:QB X sb ub):QB X [.If c sa sb pos] (kI tc tb ub):=by
 refine wM (Z3 (tc:=LT X tc) (fun E=>hc E) ha hb) fun D Ex σ H h=>?_
 obtain ⟨W,ρ,D',Ep,px,q,k,ke⟩:=h
 refine⟨W,ρ,_,px,q,fun b H1 s1 q1=>?_⟩
 have ke':∀ n C H',a9 H1 H'->PySem.W.nsIn X.K mainGlobals n=some (some (.ref C))->Ep n->Ex (.ref C) none H':=fun n C H' s2 z1 z2=>ke n C H' (s1.trans s2) z1 z2
 cases b with
 | true=>exact bI ⟨W,ρ,D',Ep,px.mono s1,by simpa using q1,k.step (Ev.same s1),ke'⟩
 | false=>exact aS ⟨W,ρ,D',Ep,px.mono s1,by simpa using q1,k.step (Ev.same s1),ke'⟩
noncomputable def wN (D:gI) (i:Nat):gI:={ nx:=fun ρ=>D.nx (ρ.set i none),rt:=D.rt,bk:=fun ρ=>D.bk (ρ.set i none),ct:=fun ρ=>D.ct (ρ.set i none) }
noncomputable def jB:List Str:=["BadWeb","BadSet","BadOrder","BadPrices","BadBoard","BadDeed","NotWood","NoPaper","NoSuch","TooMany","NoText","OddRound"]
noncomputable def iG (n m:Str):Option Bool:=if jB.contains n then some (n == m || m == "HearthError" || m == "ValueError") else none
noncomputable def qR (m:Str) (i:Nat) (tb:gE) (ts:aL):aL:=fun D ρ=>tb D (fun n=>iG n m=some true/\ts (wN D i) (ρ.set i (some (.sh true (.exc n))))) ρ
theorem ae0 {m:Str}{Ch:Addr}{i:Nat}{tb:gE}{ts:aL} (hs:∀ n C,iG n m=some true->PySem.W.nsIn X.K mainGlobals n=some (some (.ref C))->PySem.W.subIn X.K (.ref C) (.ref Ch)=some true) (h:LS X (qR m i tb ts) D σ H):vQ X.K Ch i (LB X tb) (LS X ts) D σ H:=by
 obtain ⟨W,ρ,D',px,q,k⟩:=h
 refine⟨W,ρ,D',_,px,q,k,fun n C H' s z1 z2 a C' oe hc na hcl=>?_⟩
 cases hc
 refine⟨hs n C z2.1 z1,W,_,wN D' i,(px.mono (s.trans (b8 na _))).setSh (g:=true) (.exc bL z1 hcl),z2.2,?_⟩
 have k':=k.step (Ev.same (W:=W) (s.trans (b8 na (.frz oe (.own a)))))
 exact⟨fun W' σ' H2 ρ' ev px' q'=>k'.nx W' _ H2 _ ev px'.setNone q',k'.rt,fun W' σ' H2 ρ' ev px' q'=>k'.bk W' _ H2 _ ev px'.setNone q',fun W' σ' H2 ρ' ev px' q'=>k'.ct W' _ H2 _ ev px'.setNone q'⟩
structure qS (K:PySem.W.Frag) (mg:Str->Option Value) (m:Str):Prop where
 ex:∃ Ch,mg m=some (.ref Ch)/\qB K Ch/\∀ n C,iG n m=some true->PySem.W.nsIn K mainGlobals n=some (some (.ref C))->PySem.W.subIn K (.ref C) (.ref Ch)=some true
theorem ae1 (i:Nat) {m n:Str}{b₀:Stmt}{suite body:List Stmt}{tb:gE}{ts:aL} (ct:qS X.K X.mg m) (hN:X.N.Nodup) (hb:QB X body tb) (hs:∀ a,dE (X.suite a) (b₀ :: suite) ts) (hstk:X.stack=X.env :: X.outer/\X.env.frame=some X.env.locals:=by exact⟨rfl,rfl⟩) (hi:X.N[i]? = some n:=by rfl) (hl:X.env.scope.names.lookup n=some .local:=by rfl) (hg:Gl X m:=by rfl)
  (hd:(m == ("__debug__" : Str))=false:=by decide):QS X (.Try body [.ExceptHandler (some (.Name m np)) (some n) (b₀ :: suite) hp] [] [] pos) (qR m i tb ts):=by
 obtain ⟨Ch,hm,c,sub⟩:=ct.ex
 exact dF (Z4 (ts:=LS X ts) hstk hb hg hm c hN hi hl (fun a=>pF (hs a) fun _ _ _ ⟨W,ρ,D',px,q,k⟩=>⟨W,ρ,D',px,q,⟨k.nx,k.rt,k.bk,k.ct⟩⟩) hd) fun _ _ _=>ae0 sub
noncomputable def eH:V->Value
 | .ref a=>.ref a
 | .ty n=>.type n
 | _=>.none
noncomputable def ae2 (K:PySem.W.Frag):List V->Hp->VK->Prop:=fun xs H Q=>∃ v v2 b,xs = [v,v2]/\eH v2 ≠ .none/\((∃ a o C,v = .ref a/\H a=some (.frz o (.own a))/\o.cls = .ref C/\fF K C/\PySem.W.kitOne K (.ref C) (eH v2)=some b) ∨ (v = .non/\PySem.W.kitOne K (.type "NoneType") (eH v2)=some b))/\Q (.bl b) H
theorem ae3:bV X (.builtin "isinstance") (ae2 X.K):=by
 intro pins s σ H xs us Q I r h
 obtain ⟨v,v2,b,rfl,hv,hk,q⟩:=h
 obtain ⟨u,u',rfl,ru,ru'⟩:=o4 r
 obtain rfl:u'=eH v2:=by
  cases v2 <;> first | exact ru' | exact absurd rfl hv
 rcases hk with ⟨a,o,C,rfl,hH,hc,F,e⟩ | ⟨rfl,e⟩
 ·obtain ⟨h1,_⟩:=I.hok a _ hH
  cases (show u=Value.ref a from ru)
  exact as4 (aa1 F) I.kIn ⟨o,h1,hc⟩ e (fun z=>nomatch z) fun tk=>⟨.bl b,H,I.tok tk,rfl,q⟩
 ·cases (show u=Value.none from ru)
  exact as4 PySem.W.kitx_none I.kIn trivial e (fun z=>nomatch z) fun tk=>⟨.bl b,H,I.tok tk,rfl,q⟩
noncomputable def ae4 (m:Str):PV->Option Bool
 | .exc n=>iG n m
 | .non=>some false
 | _=>none
noncomputable def jC (m:Str) (te:aA):aA:=fun ρ Q=>te ρ fun x _=>∃ b,ae4 m x=some b/\Q (.bl b) .fr
structure qT (K:PySem.W.Frag) (m:Str) (v2:V):Prop where
 nn:eH v2 ≠ .none
 ex:∀ n C b,PySem.W.nsIn K mainGlobals n=some (some (.ref C))->iG n m=some b->fF K C/\PySem.W.kitOne K (.ref C) (eH v2)=some b
 no:PySem.W.kitOne K (.type "NoneType") (eH v2)=some false
theorem wO {x:Str}{v2:V}{px:Pos} (B:Bt X.mg) (A:qT X.K x v2) (hx:PE X (.Name x px) (tC v2)) (ha:QE X a te) (hg:Gl X "isinstance":=by rfl)
  (he:starEach [a,.Name x px] X.env=(false,eval a X.env) :: starEach [.Name x px] X.env:=by rfl) (he2:starEach [.Name x px] X.env=(false,eval (.Name x px) X.env) :: starEach [] X.env:=by rfl) (hpl:(backTo pos (starEach [.Name x px] X.env)).any (·.1)=false:=by rfl):QE X (.Call (.Name "isinstance" p2) [a,.Name x px] [] pos) (jC x te):=
 bO (oC ae3 hg B.isinst PyProof.Rows.boot_isinstance (fO ha (fO hx iM he2) he) (he:=he) (hpl:=hpl)) fun σ H Q' h=>by
  obtain ⟨W,ρ,Q,px,q,k⟩:=h
  refine⟨W,ρ,_,px,q,?_⟩
  rintro v H1 y g s r ⟨b,e,q⟩
  refine⟨v,v2,b,rfl,A.nn,?_,k _ _ _ .fr s (.bl _) q⟩
  cases r with
  | exc h z c=>
   obtain ⟨F,kt⟩:=A.ex _ _ _ z e
   exact .inl ⟨_,_,_,rfl,h,c,F,kt⟩
  | non=>cases e; exact .inr ⟨rfl,A.no⟩
  | _=>cases e
end
section
variable {X : Cx} {a : Expr} {pos p2 px : Pos} {te : aA}
structure kK (K:PySem.W.Frag) (mg:Str->Option Value) (m:Str):Prop where
 ex:∃ C,mg m=some (.ref C)/\qT K m (.ref C)
structure qU (K:PySem.W.Frag) (mg:Str->Option Value):Prop where
 mg:mg "ValueError" = none
 is:qT K "ValueError" (.ty "ValueError")
theorem wP {x:Str} (B:Bt X.mg) (A:kK X.K X.mg x) (ha:QE X a te) (hgx:Gl X x:=by rfl) (hdx:(x == ("__debug__" : Str))=false:=by decide) (hg:Gl X "isinstance":=by rfl)
  (he:starEach [a,.Name x px] X.env=(false,eval a X.env) :: starEach [.Name x px] X.env:=by rfl) (he2:starEach [.Name x px] X.env=(false,eval (.Name x px) X.env) :: starEach [] X.env:=by rfl) (hpl:(backTo pos (starEach [.Name x px] X.env)).any (·.1)=false:=by rfl):QE X (.Call (.Name "isinstance" p2) [a,.Name x px] [] pos) (jC x te):=by
 obtain ⟨C,m,i⟩:=A.ex
 exact wO B i (rQ hgx m rfl hdx) ha hg he he2 hpl
theorem ae5 (B:Bt X.mg) (A:qU X.K X.mg) (ha:QE X a te) (hgx:Gl X "ValueError":=by rfl) (hg:Gl X "isinstance":=by rfl)
  (he:starEach [a,.Name "ValueError" px] X.env=(false,eval a X.env) :: starEach [.Name "ValueError" px] X.env:=by rfl) (he2:starEach [.Name "ValueError" px] X.env=(false,eval (.Name "ValueError" px) X.env) :: starEach [] X.env:=by rfl) (hpl:(backTo pos (starEach [.Name "ValueError" px] X.env)).any (·.1)=false:=by rfl):QE X (.Call (.Name "isinstance" p2) [a,.Name "ValueError" px] [] pos) (jC "ValueError" te):=
 wO B A.is (rR (v:=.ty "ValueError") hgx A.mg PyProof.Rows.Boot.«ValueError» rfl (by decide) (by decide)) ha hg he he2 hpl
end
structure gP (K:PySem.W.Frag) (C:Addr):Prop where
 cls:PySem.W.isClsIn K C=true
 ty:PySem.W.typeIn K (.ref C)=some (.type "type")
 ga:PySem.W.findIn K (.ref C) "__getattribute__" = some (some (.builtin "BaseException.__getattribute__"))
 gt:PySem.W.findIn K (.ref C) "__getattr__" = some none
 fc:PySem.W.findIn K (.ref C) "__class__" = some (some (.builtin "object.__class__"))
 fg:PySem.W.specialIn K (.builtin "object.__class__") "__get__" = some (some (.builtin "getset_descriptor.__get__"))
 ft:PySem.W.takesIn K (.builtin "object.__class__")=some true
 ob:PySem.W.mroIn K C (.type "object")=some true
 be:PySem.W.mroIn K C (.type "BaseException")=some true
theorem gP.exc {K:PySem.W.Frag}{C:Addr} (h:gP K C):fF K C:=⟨h.cls,h.ga,h.gt,h.fc,h.fg,h.ft,h.ob,h.be⟩
theorem wQ {K:PySem.W.Frag}{h₀:Heap}{mg:Str->Option Value}{x:Str}{C:Addr}{bmB:List Value}{newId:String} (X:K.In h₀) (m:mg x=some (.ref C)) (q:PySem.W.excIn K C bmB newId=true):OwnCls x C bmB newId mg h₀:=by
 refine⟨m,?_⟩
 unfold PySem.W.excIn at q
 split at q
 case h_2=>cases q
 rename_i dd cd sl ho
 split at q
 case h_2=>cases q
 rename_i C' bm k0 k1 k2 k3 n k5 hm hs
 simp only [aw7,beq_iff_eq,Bool.not_eq_true'] at q
 obtain ⟨⟨⟨⟨⟨rfl,rfl⟩,dl⟩,ht⟩,hok⟩,hni⟩:=q
 obtain ⟨nm,bs,mro,ns,qn,hd,sn,sub,ab,col,del⟩:=cd
 dsimp only at hm dl hok hni
 subst hm dl
 obtain rfl:sl = #[k0,k1,k2,k3,some (.builtin n),k5]:=by
  obtain ⟨l⟩:=sl
  exact congrArg Array.mk hs
 exact⟨bm,ns,nm,qn,bs,hd,sn,sub,ab,col,dd,k0,k1,k2,k3,k5,_,X _ _ ho,.of_isNs (PySem.W.isNs_of_in X hok),PySem.W.nsMap_none_of_in X hok hni,PySem.W.tail_of_in X ht⟩
theorem mT {n m:Str}{b:Bool} (h:iG n m=some b):n ∈ jB/\b=(n == m || m == "HearthError" || m == "ValueError"):=by
 unfold iG at h
 split at h
 ·rename_i z
  exact⟨by simpa using z,by cases h; rfl⟩
 ·cases h
theorem mU {K:PySem.W.Frag}{C D:Addr}{b:Bool} (hd:gP K D) (ne:(C == D)=false) (s:PySem.W.subIn K (.ref C) (.ref D)=some b):PySem.W.kitOne K (.ref C) (.ref D)=some b:=by
 have ne':(Value.ref C == Value.ref D)=false:=by
  rw [ay1] at ne ⊢
  exact fun z=>ne (Value.ref.inj z)
 have c:=hd.cls
 unfold PySem.W.isClsIn at c
 unfold PySem.W.kitOne PySem.W.kitCls
 rw [if_neg (by rw [ne']; decide)]
 dsimp only
 rw [if_pos (by rw [c,hd.ty]; decide)]
 exact s
theorem wR {K:PySem.W.Frag}{C:Addr}:PySem.W.kitOne K (.ref C) (.ref C)=some true:=by
 unfold PySem.W.kitOne
 rw [if_pos (at7 _)]
theorem qV {K:PySem.W.Frag}{C:Addr} (s:PySem.W.subIn K (.ref C) (.type "ValueError")=some true):PySem.W.kitOne K (.ref C) (.type "ValueError")=some true:=by
 unfold PySem.W.kitOne PySem.W.kitCls
 rw [if_neg (fun z=>by cases beq_iff_eq.mp z)]
 dsimp only
 rw [if_pos (by decide +kernel)]
 exact s
theorem wS {K:PySem.W.Frag}{D:Addr} (hd:gP K D) (s:PySem.W.subIn K (.type "NoneType") (.ref D)=some false):PySem.W.kitOne K (.type "NoneType") (.ref D)=some false:=by
 have c:=hd.cls
 unfold PySem.W.isClsIn at c
 unfold PySem.W.kitOne PySem.W.kitCls
 rw [if_neg (fun z=>by cases beq_iff_eq.mp z)]
 dsimp only
 rw [if_pos (by rw [c,hd.ty]; decide)]
 exact s
theorem ae6 {K:PySem.W.Frag}:PySem.W.kitOne K (.type "NoneType") (.type "ValueError")=some false:=by
 have e:(if PySem.W.kitMeta "ValueError" = true then (fastBuiltinMro "NoneType").map (·.contains (Value.type "ValueError")) else none)=some false:=by decide +kernel
 unfold PySem.W.kitOne
 rw [if_neg (by decide)]
 exact e
theorem aV.of {P:Program}{w:World}{K:PySem.W.Frag}{mg:Str->Option Value}{base:Heap}{k:Nat}{x:Str}{ps N:List Str}{p:cE}{st:Stmt}{f:Addr}{fd:FuncData} (F:dJ K x x st f fd) (m:mg x=some (.ref f)) (S:FnScope N ps (aO st))
  (hb:∀ (kV doc pm:Value) (an:Option Addr) (cdv ct:Value) (us:List Value),us.length=ps.length->bindArgs (PySem.W.fnOf x x (fR st) (cS st) (aO st) .none kV doc pm an cdv ct) ⟨us,[]⟩=pure (ps.zip us))
  (t:(Str->Prop)->aL) (len:∀ Ep xs Q,p Ep xs Q->xs.length=ps.length) (rd:∀ Ep xs Q,p Ep xs Q->t Ep { nx:=fun _=>Q .non,rt:=Q } (dD N xs))
  (body:∀ (cdv:Value) (A:Around) (outer:List Env) (s:Shared) (H:Hp) (E:XK) (Ep:Str->Prop),bB k (A.deeper (envOfC x (aO st) s.heap.objs.size f cdv))->j9 (bW (cK P w) P w K mg base N x (aO st) f cdv A outer s H E) (EX K H Ep)->
   dE (bW (cK P w) P w K mg base N x (aO st) f cdv A outer s H E) (cS st) (t Ep)):aV P w K mg base (k+1) x ps p:=by
 refine⟨f,fd,F.okX S (fun vs H Q E h=>?_) (fun cdv A outer s H vs Q E hr h=>?_),F.binds hb,F.kp,m⟩
 ·obtain ⟨xs,Qp,Ep,r,q,_⟩:=h
  rw [r.length]; exact len Ep xs Qp q
 ·obtain ⟨xs,Qp,Ep,r,q,k,ke⟩:=h
  have ht:=body cdv A outer s H E Ep hr (Y6 fun c d H' z=>?_)
  ·refine⟨_,ht,fun _=>False,dD N xs,_,pM r,rd Ep xs Qp q,?_,?_,?_,?_⟩
   ·exact fun W' σ' H' ρ' e px q=>k _ _ _ px.same .non q
   ·exact fun v H' x s r q=>k _ _ _ s r q
   ·exact fun W' σ' H' ρ' e px q=>q
   ·exact fun W' σ' H' ρ' e px q=>q
  ·obtain ⟨rfl,s1,n,C,rfl,z1,z2⟩:=z
   exact ke n C H' s1 z1 z2
end PP
namespace Core
open PySem L2 PP
noncomputable abbrev iH (t:(Str->Prop)->aL) (N:List Str) (p:cE):Prop:=∀ Ep xs Q,p Ep xs Q->t Ep { nx:=fun _=>Q .non,rt:=Q } (dD N xs)
end Core
namespace PP
open PySem L2
theorem qW {us:List Value} (h:us.length=1):∃ a,us = [a]:=List.length_eq_one_iff.mp h
theorem qX {us:List Value} (h:us.length=2):∃ a b,us = [a,b]:=by
 cases us with
 | nil=>cases h
 | cons a r=>
  obtain ⟨b,rfl⟩:=qW (us:=r) (by simpa using h)
  exact⟨a,b,rfl⟩
theorem wT {us:List Value} (h:us.length=3):∃ a b c,us = [a,b,c]:=by
 cases us with
 | nil=>cases h
 | cons a r=>
  obtain ⟨b,c,rfl⟩:=qX (us:=r) (by simpa using h)
  exact⟨a,b,c,rfl⟩
section
variable {X : Cx} {e : Expr} {tr : bJ} {pos p2 : Pos}
noncomputable def mV:List PV->(PV->Prop)->Prop:=fun xs Q=>∃ ys:List (List Int),xs = [.lst (ys.map fun r=>PV.tup (intz r))]/\ys.length<=4096/\(∀ y ∈ ys,y.length=2)/\∀ zs:List (List Int),zs.Perm ys->zs.Pairwise (fun u v=>HT.bF v u=false)->Q (.lst (zs.map fun r=>PV.tup (intz r)))
theorem ae7:cV X mV (vN X.K):=by
 rintro H vs xs Q Q' r ⟨ys,rfl,hl,hne,q⟩ k
 obtain ⟨v,rfl,r1⟩:=r.one
 obtain ⟨a,us,rfl,_,h,r2⟩:=r1.sqL
 obtain ⟨h1,h2⟩:=vW r2
 have lr:=r2.length
 rw [ap9] at lr
 refine⟨a,us,iF H,rfl,aG.of h,by lia,fun y hy=>?_,fun l zs hl' pm so=>?_⟩
 ·obtain ⟨b,rfl,hb⟩:=h2 y hy
  refine⟨b,rfl,aE.of hb,hne _ ?_⟩
  rw [<- h1]; exact ay4.mpr ⟨_,hy,rfl⟩
 ·have hz:∀ u ∈ zs,∃ b,u = .ref b/\H b=some (.tup ((iF H u).map V.int)):=fun u hu=>h2 u (pm.mem_iff.mp hu)
  refine k _ _ _ (b8 hl' _) (.lst hl' bL ((vX hz).same (b8 hl' _) fun _ z=>z)) (q _ ?_ ?_)
  ·rw [<- h1]; exact pm.map _
  ·rw [ax8]; exact so
theorem wU (B:Bt X.mg) (ha:QA X [e] tr) (hg:Gl X "sorted":=by rfl) (he:starEach [e] X.env=(false,eval e X.env) :: starEach [] X.env:=by rfl) (hpl:(backTo pos (starEach [] X.env)).any (·.1)=false:=by rfl):QE X (.Call (.Name "sorted" p2) [e] [] pos) (aK mV tr):=
 i6 Y3 ae7 hg B.sorted PyProof.Rows.boot_sorted ha (he:=he) (hpl:=hpl)
end
end PP
namespace Core
open PySem L2 PP
structure WL (n:Int) (ws:List Int) (ls:List (Int × Int)):Prop where
 many:(ws.length:Int)=n
 inn:∀ l ∈ ls,0<=l.1/\l.1 < l.2/\l.2 < n
 most:ls.length<=1700
 ord:ls.Pairwise c9
 pos:∀ w ∈ ws,0<=w
theorem WL.perm {n:Int}{ws:List Int}{ls ls':List (Int × Int)} (h1:(ws.length:Int)=n) (h2:∀ l ∈ ls,0<=l.1/\l.1 < l.2/\l.2 < n) (h3:ls.length<=1700) (nd:ls.Nodup) (h4:∀ w ∈ ws,0<=w) (p:ls'.Perm ls) (so:(ls'.map two).Pairwise fun u v=>HT.bF v u=false):WL n ws ls':=
 ⟨h1,fun l hl=>h2 l (p.mem_iff.mp hl),by rw [p.length_eq]; exact h3,w6 so (p.nodup_iff.mpr nd),h4⟩
theorem wV (n:Nat):∀ (a b:List (List Int)),((((tups a).zip (tups b)).all fun p=>b7 (n+1) p.1 p.2) && (tups a).length == (tups b).length)=decide (a=b)
 | [],[]=>rfl
 | [],_ :: _=>by simp [tups]
 | _ :: _,[]=>by simp [tups]
 | x :: a,y :: b=>by
  have ih:=wV n a b
  have e:∀ (z:List Int) (c:List (List Int)),tups (z :: c)=PV.tup (intz z) :: tups c:=fun _ _=>rfl
  rw [e,e]
  simp only [av4,aA8,au7,uG] at ih ⊢
  by_cases h:x=y
  ·subst h
   have:((tups a).length+1 == (tups b).length+1)=((tups a).length == (tups b).length):=by simp
   rw [this,ap7 rfl,Bool.true_and,ih]
   simp
  ·rw [ao5 h,Bool.false_and,Bool.false_and]
   simp [h]
theorem ae8 (n:Nat) (a b:List (List Int)):b7 (n+2) (.lst (tups a)) (.lst (tups b))=decide (a=b):=wV n a b
theorem wW (n:Nat):∀ (a b:List (List Int)),bK (n+2) (.lst (tups a)) (.lst (tups b))=true
 | [],_=>by unfold bK tups; simp
 | _ :: _,[]=>by unfold bK tups; simp
 | x :: a,y :: b=>by
  have ih:=wW n a b
  show (((PV.tup (intz x) :: tups a).zip (PV.tup (intz y) :: tups b)).all fun p=>bK (n+1) p.1 p.2)=true
  rw [av4,aA8,uI,Bool.true_and]
  exact ih
noncomputable abbrev wX (bs:List Bool):List PV:=bs.map PV.bl
section
variable {ws : List Int} {ls : List (Int × Int)}
noncomputable def cne (ws:List Int) (ls:List (Int × Int)) (S:List Int):Bool:=!decide (S = []) && decide (stay ws ls S=S)
end
noncomputable def far (ns S:List Int):Bool:=decide (((S.filter fun x=>decide (x ∈ ns)).length:Int)=0)
noncomputable def wY (ws:List Int) (ls:List (Int × Int)):List Int->List Int->Bool
 | _,[]=>true
 | B,h :: R=>inB ws.length h && (kin ws ls B h && wY ws ls (B ++ [h]) R)
end Core
namespace Raw
open PySem PySem.W PySem.Calls PyProof.Rows
theorem qY {xs:List Nat} (a:xs.Pairwise (· < ·)) {i k:Nat} (hk:k < xs.length) (h:i<=k):xs.getD i 0<=xs.getD k 0:=by
 rcases ar7 i k with z | z
 ·have:=au9.mp a i k (by lia) hk z
  rw [ap5,ap5,ao6 (by lia),ao6 hk]
  exact ax0 this
 ·rw [Nat.le_antisymm h z]; exact ao8 _
theorem ae9 {xs:Array Nat}{i j:Nat} (h:i < xs.size):xs.getD i j=xs.toList.getD i 0:=by
 rw [ap5,av2,Array.getD_eq_getD_getElem?,Array.getElem?_eq_getElem h]; rfl
theorem qZ {xs:Array Nat}{j:Nat} (a:xs.toList.Pairwise (· < ·)):∀ (fuel lo hi:Nat),lo<=hi->hi<=xs.size->hi - lo<=fuel->(∀ i,i < lo->xs.toList.getD i 0 < j)->(∀ i,hi<=i->i < xs.size->j<=xs.toList.getD i 0)->
  SetTable.below.go xs j fuel lo hi<=xs.size/\(∀ i,i < SetTable.below.go xs j fuel lo hi->xs.toList.getD i 0 < j)/\∀ i,SetTable.below.go xs j fuel lo hi<=i->i < xs.size->j<=xs.toList.getD i 0
 | 0,lo,hi,h1,h2,h3,h4,h5=>by
  have e:lo=hi:=by lia
  subst e
  exact⟨h2,h4,h5⟩
 | fuel+1,lo,hi,h1,h2,h3,h4,h5=>by
  have sz:xs.toList.length=xs.size:=at0
  unfold SetTable.below.go
  by_cases lt:lo < hi
  ·rw [if_pos lt]
   dsimp only
   have m1:lo<=(lo+hi) / 2:=by lia
   have m2:(lo+hi) / 2 < hi:=by lia
   rw [ae9 (by lia)]
   by_cases c:xs.toList.getD ((lo+hi) / 2) 0 < j
   ·rw [if_pos c]
    exact qZ a fuel _ _ (by lia) h2 (by lia) (fun i hi'=>Nat.lt_of_le_of_lt (qY a (by lia) (by lia)) c) h5
   ·rw [if_neg c]
    exact qZ a fuel _ _ (by lia) (by lia) (by lia) h4 fun i h6 h7=>as7 (Nat.le_of_not_lt c) (qY a (by lia) h6)
  ·rw [if_neg lt]
   have e:lo=hi:=by lia
   subst e
   exact⟨h2,h4,h5⟩
theorem af0 {xs:Array Nat}{j:Nat} (a:xs.toList.Pairwise (· < ·)):SetTable.below xs j<=xs.size/\(∀ i,i < SetTable.below xs j->xs.toList.getD i 0 < j)/\∀ i,SetTable.below xs j<=i->i < xs.size->j<=xs.toList.getD i 0:=
 qZ a xs.size 0 xs.size (av8 _) (ao8 _) (by lia) (fun i h=>absurd h (Nat.not_lt_zero _)) fun i h1 h2=>absurd h2 (by lia)
theorem af1 {α:Type} (xs:Array α) (p:Nat) (x:α):(SetTable.insertAt xs p x).toList=xs.toList.take p ++ x :: xs.toList.drop p:=by
 unfold SetTable.insertAt
 simp
 exact as2 (by simp)
theorem af2 {xs:Array Nat}{j:Nat} (a:xs.toList.Pairwise (· < ·)) (ne:xs[SetTable.below xs j]? ≠ some j):(SetTable.insertAt xs (SetTable.below xs j) j).toList.Pairwise (· < ·):=by
 obtain ⟨b1,b2,b3⟩:=af0 (j:=j) a
 have sz:xs.toList.length=xs.size:=at0
 rw [af1]
 refine ar3.mpr ⟨a.sublist (List.take_sublist _ _),List.pairwise_cons.mpr ⟨fun x hx=>?_,a.sublist (List.drop_sublist _ _)⟩,fun x hx y hy=>?_⟩
 ·obtain ⟨i,hi,e⟩:=av0 hx
  rw [av6] at hi
  rw [List.getElem_drop] at e
  have h1:=b3 (SetTable.below xs j) (ao8 _) (by lia)
  have h2:=qY a (i:=SetTable.below xs j) (k:=SetTable.below xs j+i) (by lia) (by lia)
  have h3:xs.toList.getD (SetTable.below xs j+i) 0=x:=by rw [ap5,ao6 (by lia),e]; rfl
  rcases ar7 j x with z | z
  ·exact z
  ·exfalso
   have h4:xs.toList.getD (SetTable.below xs j) 0=j:=by lia
   rw [ap5,ao6 (by lia)] at h4
   refine ne ?_
   rw [<- av2,ao6 (by lia)]
   exact congrArg some h4
 ·have hx':x < j:=by
   obtain ⟨i,hi,e⟩:=av0 hx
   rw [ay6] at hi
   rw [List.getElem_take] at e
   have:=b2 i (by lia)
   rw [ap5,ao6 (by lia),e] at this
   exact this
  rcases ap0.mp hy with e | hy
  ·rw [e]; exact hx'
  ·obtain ⟨i,hi,e⟩:=av0 hy
   rw [av6] at hi
   rw [List.getElem_drop] at e
   have:=b3 (SetTable.below xs j+i) (by lia) (by lia)
   rw [ap5,ao6 (by lia),e] at this
   exact ap1 hx' this
structure eR (b:Bool) (t:SetTable):Prop where
 asc:t.place.toList.Pairwise (· < ·)
 dm:t.dummies = #[]
 led:t.led=b
theorem wZ (j:Nat):SetTable.has #[] j=false:=by
 unfold SetTable.has
 simp
theorem x3 {t:SetTable} (dm:t.dummies = #[]) {h:Int}{j:Nat}{d:Option Nat}:∀ (fuel:Nat) (p:SetTable.Probe),p.dummy=none->SetTable.probe.go t (fun _=>h+1) h fuel p=some (.empty j d)->d=none/\t.slot j = .empty
 | 0,p,_,e=>by cases e
 | fuel+1,p,hp,e=>by
  unfold SetTable.probe.go at e
  have adv:∀ p:SetTable.Probe,p.dummy=none->(t.advance p).dummy=none:=fun p hp=>by
   unfold SetTable.advance
   split <;> exact hp
  cases hs:t.slot p.j with
  | empty=>
   rw [hs] at e
   cases e
   exact⟨hp,hs⟩
  | dummy=>
   exfalso
   unfold SetTable.slot at hs
   dsimp only at hs
   rw [dm,wZ] at hs
   split at hs <;> cases hs
  | live i=>
   rw [hs] at e
   dsimp only at e
   rw [if_neg (by simp; lia)] at e
   exact x3 dm fuel _ (adv p hp) e
theorem af3 {t:SetTable} (dm:t.dummies = #[]) {h:Int}{sl:Nat}{d:Bool} (e:t.freeSlot h=some (sl,d)):t.slot sl = .empty:=by
 unfold SetTable.freeSlot at e
 split at e
 ·rename_i j dummy hm
  obtain ⟨e1,e2⟩:=x3 dm _ _ rfl hm
  subst e1
  cases e
  exact e2
 ·cases e
theorem mW {b:Bool}{t:SetTable} (h:eR b t) (n:Nat):eR b (t.standIn n):=⟨by
 show (Array.range n).toList.Pairwise (· < ·)
 rw [Array.toList_range]; exact List.pairwise_lt_range,rfl,h.led⟩
theorem af4 {b:Bool}{t:SetTable} (h:eR b t) {j:Nat} (hs:t.slot j = .empty):eR b (t.put j).1:=by
 refine⟨?_,?_,h.led⟩
 ·refine af2 h.asc fun e=>?_
  unfold SetTable.slot at hs
  dsimp only at hs
  rw [if_pos (by rw [e]; exact at7 _)] at hs
  cases hs
 ·show (if SetTable.has t.dummies j then SetTable.eraseAt t.dummies (SetTable.below t.dummies j) else t.dummies) = #[]
  rw [h.dm,wZ]; rfl
theorem af5 {b:Bool}{t:SetTable} (h:eR b t) (es:Array (Int × Value)) (k:Int) (x:Value):eR b (layNew t es k x).2.1:=by
 unfold layNew
 split
 ·rename_i sl wd e
  have p:=af4 h (af3 h.dm e)
  show eR b (SetTable.orStandIn _ _)
  unfold SetTable.orStandIn
  split
  ·exact p
  ·exact mW p _
 ·exact mW h _
theorem af6 {b:Bool}{t:SetTable} (h:eR b t) (es:Array (Int × Value)) (n:Nat):eR b (relayAll t es n).2.1:=by
 unfold relayAll
 split
 ·rename_i t' order e
  dsimp only
  split
  ·show eR b t'
   unfold SetTable.relaid SetTable.laid at e
   cases hc:SetTable.layClean (SetTable.sizeAbove n - 1) (es.map (·.1)) with
   | none=>rw [hc] at e; cases e
   | some owner=>
    rw [hc] at e
    cases e
    refine⟨?_,rfl,h.led⟩
    show (List.map _ _).Pairwise (· < ·)
    refine ax8.mpr (List.Pairwise.filterMap _ (R:=(· < ·)) ?_ List.pairwise_lt_range)
    intro i i' hlt x hx y hy
    cases ho:owner.getD i none with
    | none=>rw [ho] at hx; cases hx
    | some v=>
     rw [ho] at hx
     cases ho2:owner.getD i' none with
     | none=>rw [ho2] at hy; cases hy
     | some v2=>
      rw [ho2] at hy
      cases hx; cases hy
      exact hlt
  ·exact mW h _
 ·exact mW h _
theorem x4 {us vs:List Value} (p:us.Perm vs):∀ {ns:List Int},IntsAre vs ns->∃ ms,IntsAre us ms/\ms.Perm ns:=by
 induction p with
 | nil=>intro ns h; exact⟨ns,h,List.Perm.refl _⟩
 | cons x _ ih=>
  intro ns h
  cases h with
  | cons n t r=>
   obtain ⟨ms,h1,h2⟩:=ih r
   exact⟨n :: ms,.cons n t h1,h2.cons n⟩
 | swap x y l=>
  intro ns h
  cases h with
  | cons n t r=>
   cases r with
   | cons n' t' r=>
    exact⟨n' :: n :: _,.cons n' t' (.cons n t r),List.Perm.swap _ _ _⟩
 | trans _ _ ih1 ih2=>
  intro ns h
  obtain ⟨ms,h1,h2⟩:=ih2 h
  obtain ⟨ms',h3,h4⟩:=ih1 h1
  exact⟨ms',h3,h4.trans h2⟩
theorem x5:∀ {us:List Value}{ns:List Int},IntsAre us ns->∀ (k:Int) (t:Nat),IntsAre (us ++ [.int k t]) (ns ++ [k])
 | _,_,.nil,k,t=>.cons k t .nil
 | _,_,.cons n u r,k,t=>.cons n u (x5 r k t)
theorem mX:∀ {us:List Value}{ns:List Int},IntsAre us ns->∀ k:Int,k ∈ ns ↔ ∃ t,Value.int k t ∈ us
 | _,_,.nil,k=>⟨(fun h=>nomatch h),(fun ⟨_,h⟩=>nomatch h)⟩
 | _,_,.cons n u r,k=>by
  constructor
  ·intro h
   rcases ap0.mp h with e | h
   ·exact⟨u,by rw [e]; exact aq9⟩
   ·obtain ⟨t,ht⟩:=(mX r k).mp h
    exact⟨t,aq4 _ ht⟩
  ·rintro ⟨t,h⟩
   rcases ap0.mp h with e | h
   ·cases e; exact aq9
   ·exact aq4 _ ((mX r k).mpr ⟨t,h⟩)
noncomputable abbrev kL (es:Array (Int × Value)) (ep:Nat) (t:SetTable):Obj:={ cls:=.type "set",dict:=none,data:=.set es ep t,slots:=#[] }
section
variable {prog : Program} {w : World} {A : Around} {E : Value → Shared → Prop} {s : Shared}
noncomputable def af7 (prog:Program) (w:World) (es:Array (Int × Value)) (t:SetTable) (ms:List Int):Prop:=ElemsOf (intKind prog w) es.toList/\IntsAre (es.toList.map (·.2)) ms/\es.size < scanBound/\t.fits es.size=true/\eR (!w.params.followText "set-order") t
noncomputable def x6 (prog:Program) (w:World) (h:Heap) (a:Addr) (ms:List Int):Prop:=∃ es ep t,h.get? a=some (kL es ep t)/\af7 prog w es t ms
theorem x8 {h:Heap}{a:Addr}{es es':Array (Int × Value)}{ep:Nat}{t t':SetTable} (ho:h.get? a=some (kL es ep t)):(h.update a (Obj.putSet es' t')).get? a=some (kL es' (ep+1) t'):=by
 have:=Heap.get?_update_self (Obj.putSet es' t') ho (by rw [putSet_of es' t' (rfl:(kL es ep t).data=_)]; rfl)
 rw [putSet_of es' t' (rfl:(kL es ep t).data=_)] at this
 exact this
theorem add_int {a:Addr}{ms:List Int}{k:Int}{u:Nat}{Q:Bool->Shared->Prop} (hS:x6 prog w s.heap a ms) (room:ms.length+1 < scanBound)
  (h:∀ b h' ms',Heap.SameBut a s.heap h'->x6 prog w h' a ms'->(k ∈ ms->ms'.Perm ms)->(k ∉ ms->ms'.Perm (ms ++ [k]))->Q b { s with heap:=h' }) :
  wpAny (model prog w) A (setAddHashed a (.int k u) ((intKind prog w).hash k)) Q E s:=by
 obtain ⟨es,ep,t,ho,hel,hi,hb,hf,tk⟩:=hS
 have key:(intKind prog w).is k (.int k u)=true:=intKind_is _ _ _ _
 have ln:ms.length=es.size:=by
  have:=IntsAre.length hi
  rw [ap9,at0] at this
  exact this.symm
 have isk:∀ v,(intKind prog w).is k v=true->∃ u,v = .int k u:=fun v hv=>Value.isInt_shape hv
 unfold setAddHashed setAddHashedIn
 refine ay5 (ao2 (wpAny_setState_of ho rfl hf ?_))
 dsimp only
 rw [byScan_of (knd:=intKind prog w) (x:=.int k u) rfl hb hel,if_pos rfl]
 unfold setAddByScan
 refine ao2 (ao2 (az2 ?_))
 refine ao2 (wpAny_setScan_of key ho rfl hf hel ?_)
 cases hr:List.findIdx? (fun e=>(intKind prog w).is k e.2) es.toList with
 | some j=>
  dsimp only
  obtain ⟨hj,hp,_⟩:=List.findIdx?_eq_some_iff_getElem.mp hr
  have km:k ∈ ms:=by
   obtain ⟨u',e⟩:=isk _ hp
   exact (mX hi k).mpr ⟨u',by rw [<- e]; exact ay4.mpr ⟨_,aw8 hj,rfl⟩⟩
  have e:s={ s with heap:=s.heap }:=by cases s; rfl
  rw [e]
  exact ao9 (ao9 (h _ s.heap ms (Heap.SameBut.refl a s.heap) ⟨es,ep,t,ho,hel,hi,hb,hf,tk⟩ (fun _=>List.Perm.refl _) fun n=>absurd km n))
 | none=>
  dsimp only
  have km:k ∉ ms:=fun z=>by
   obtain ⟨u',hm⟩:=(mX hi k).mp z
   obtain ⟨e,he,e2⟩:=ay4.mp hm
   have:=List.findIdx?_eq_none_iff.mp hr e he
   rw [e2,intKind_is _ _ _ _] at this; cases this
  have lp:=layNew_perm t es ((intKind prog w).hash k) (.int k u)
  have lf:=layNew_fits t es ((intKind prog w).hash k) (.int k u)
  have lk:=af5 tk es ((intKind prog w).hash k) (.int k u)
  generalize hL:layNew t es ((intKind prog w).hash k) (.int k u)=L at lp lf lk ⊢
  obtain ⟨es1,t1,wd,gave⟩:=L
  dsimp only at lp lf lk ⊢
  rw [Array.toList_push] at lp
  have el1:ElemsOf (intKind prog w) es1.toList:=(hel.push key rfl).perm lp
  have sz1:es1.size=es.size+1:=by rw [<- at0,lp.length_eq,ar4,at0]; rfl
  obtain ⟨ms1,i1,p1⟩:∃ ms1,IntsAre (es1.toList.map (·.2)) ms1/\ms1.Perm (ms ++ [k]):=x4 (lp.map (·.2)) (by rw [at5]; exact x5 hi k u)
  have hb1:es1.size < scanBound:=by lia
  have gw:∀ (b:Bool) (s₁:Shared) (Q':Unit->Shared->Prop),Q' () s₁->wpAny (model prog w) A (match b with | true=>rule "set.scan.the-table-gave-way" | false=>pure ()) Q' E s₁:=fun b s₁ Q' hq=>by
   cases b
   ·exact ao9 hq
   ·exact az2 hq
  refine ao2 (gw _ _ _ ?_)
  split <;> (
   show wpAny _ _ (storeSet a es1 t1 >>= _) _ _ _
   simp only [↓reduceIte]
   refine ao2 (wpAny_storeSet_of ho rfl ?_ (fits_of_scanBound hb1))
   have ho1:=x8 (es':=es1) (t':=t1) ho
   have sb1:=Heap.SameBut.update s.heap a (Obj.putSet es1 t1)
   split
   ·have rp:=relayAll_perm t1 es1 (SetTable.grown es1.size)
    have rf:=relayAll_fits t1 es1 (SetTable.grown es1.size)
    have rk:=af6 lk es1 (SetTable.grown es1.size)
    generalize relayAll t1 es1 (SetTable.grown es1.size)=L at rp rf rk ⊢
    obtain ⟨es2,t2,gave2⟩:=L
    dsimp only at rp rf rk ⊢
    have sz2:es2.size=es1.size:=by rw [<- at0,rp.length_eq,at0]
    obtain ⟨ms2,i2,p2⟩:=x4 (rp.map (·.2)) i1
    refine ao2 (gw _ _ _ ?_)
    refine ao2 (wpAny_storeSet_of ho1 rfl ?_ (fits_of_scanBound (by lia)))
    exact ao9 (ao9 (h _ _ ms2 (sb1.trans (Heap.SameBut.update _ a _)) ⟨es2,_,t2,x8 ho1,el1.perm rp,i2,by lia,rf,rk⟩ (fun z=>absurd z km) fun _=>p2.trans p1))
   ·exact ao9 (ao9 (h _ _ ms1 sb1 ⟨es1,_,t1,ho1,el1,i1,hb1,lf,lk⟩ (fun z=>absurd z km) fun _=>p1)))
end
end Raw
namespace L2
open PySem PySem.Spec PyProof.Rows
section
variable {X : Cx}
theorem af8 (hc:X.calm=true):bV X (.builtin "min") (fun xs H Q=>∃ (a:Addr) (ns:List Int),xs = [.ref a]/\aG X.K H a (ns.map V.int)/\ns ≠ []/\∀ M:Int,M ∈ ns->(∀ x ∈ ns,M<=x)->Q (.int M) H):=by
 intro pins s σ H xs us Q I r h
 obtain ⟨a,ns,rfl,hq,ne,q⟩:=h
 obtain ⟨u,rfl,ru⟩:=eW r
 cases ru
 obtain ⟨its,rv,p,hz⟩:=I.list hq
 have ia:=gT rv
 obtain ⟨ys,ey⟩:=ia.allInts.items
 have en:ns=ys.toList.map (·.1):=by
  have e1:=nums_intItems ys
  rw [<- ey] at e1
  exact ia.numsOf.symm.trans e1
 have pos:0 < ys.size:=Nat.pos_of_ne_zero fun z=>ne (by rw [en,aw9 z]; rfl)
 have hl:s.heap.IsList a (intItems ys):=ey ▸ p.isList
 refine min_intList (I.ok.hd hc) hl pos fun v h' tk ev old=>?_
 obtain ⟨t,rfl⟩:=intItems_at ev
 have best:=argBest_lt (numAt ys) (ys.size - 1)
 have mem:∀ x:Int,x ∈ ns ↔ ∃ j,j < ys.size/\numAt ys j=x:=fun x=>by
  rw [en]
  constructor
  ·intro z
   obtain ⟨j,hj,e⟩:=mem_getD z
   exact⟨j,by simpa using hj,by rw [numAt_eq]; exact e⟩
  ·rintro ⟨j,hj,rfl⟩
   rw [numAt_eq]
   exact getD_mem (by simpa using hj)
 refine⟨.int _,H,I.kept (t':=tk) (h':=h') old,⟨t,rfl⟩,q _ ?_ fun x hx=>?_⟩
 ·exact (mem _).mpr ⟨_,by have:=best.1; lia,rfl⟩
 ·obtain ⟨j,hj,rfl⟩:=(mem x).mp hx
  exact best.2 j (by lia)
end
end L2
namespace PP
open PySem L2
section
variable {X : Cx} {e : Expr} {tr : bJ} {pos p2 : Pos}
noncomputable def x9:List PV->(PV->Prop)->Prop:=fun xs Q=>∃ ns:List Int,xs = [.lst (intz ns)]/\ns ≠ []/\∀ M:Int,M ∈ ns->(∀ x ∈ ns,M<=x)->Q (.int M)
theorem af9:cV X x9 (fun xs H Q=>∃ (a:Addr) (ns:List Int),xs = [.ref a]/\aG X.K H a (ns.map V.int)/\ns ≠ []/\∀ M:Int,M ∈ ns->(∀ x ∈ ns,M<=x)->Q (.int M) H):=by
 rintro H vs xs Q Q' r ⟨ns,rfl,ne,q⟩ k
 obtain ⟨v,rfl,r1⟩:=r.one
 obtain ⟨a,us,rfl,_,h,r2⟩:=r1.sqL
 rw [r2.ofInts] at h
 exact⟨a,ns,rfl,aG.of h,ne,fun M m1 m2=>k _ _ _ (a9.refl _) (.int M) (q M m1 m2)⟩
end
end PP
namespace L2
open PySem PySem.Spec PyProof.Rows
section
variable {X : Cx}
theorem ag0 (hc:X.calm=true):bV X (.builtin "max") (fun xs H Q=>∃ (a:Addr) (ns:List Int),xs = [.ref a]/\aG X.K H a (ns.map V.int)/\ns ≠ []/\∀ M:Int,M ∈ ns->(∀ x ∈ ns,x<=M)->Q (.int M) H):=by
 intro pins s σ H xs us Q I r h
 obtain ⟨a,ns,rfl,hq,ne,q⟩:=h
 obtain ⟨u,rfl,ru⟩:=eW r
 cases ru
 obtain ⟨its,rv,p,hz⟩:=I.list hq
 have ia:=gT rv
 obtain ⟨ys,ey⟩:=ia.allInts.items
 have en:ns=ys.toList.map (·.1):=by
  have e1:=nums_intItems ys
  rw [<- ey] at e1
  exact ia.numsOf.symm.trans e1
 have pos:0 < ys.size:=Nat.pos_of_ne_zero fun z=>ne (by rw [en,aw9 z]; rfl)
 have hl:s.heap.IsList a (intItems ys):=ey ▸ p.isList
 refine max_intList (I.ok.hd hc) hl pos fun v h' tk ev old=>?_
 obtain ⟨t,rfl⟩:=intItems_at ev
 have best:=argBest_gt (numAt ys) (ys.size - 1)
 have mem:∀ x:Int,x ∈ ns ↔ ∃ j,j < ys.size/\numAt ys j=x:=fun x=>by
  rw [en]
  constructor
  ·intro z
   obtain ⟨j,hj,e⟩:=mem_getD z
   exact⟨j,by simpa using hj,by rw [numAt_eq]; exact e⟩
  ·rintro ⟨j,hj,rfl⟩
   rw [numAt_eq]
   exact getD_mem (by simpa using hj)
 refine⟨.int _,H,I.kept (t':=tk) (h':=h') old,⟨t,rfl⟩,q _ ?_ fun x hx=>?_⟩
 ·exact (mem _).mpr ⟨_,by have:=best.1; lia,rfl⟩
 ·obtain ⟨j,hj,rfl⟩:=(mem x).mp hx
  exact best.2 j (by lia)
end
end L2
namespace PP
open PySem L2
section
variable {X : Cx} {a b e o : Expr} {ta tb te to : aA} {tr : bJ} {pos p2 apos cpos : Pos} {σ : St} {H : Hp} {Q' : VK}
noncomputable def xA:List PV->(PV->Prop)->Prop:=fun xs Q=>∃ ns:List Int,xs = [.lst (intz ns)]/\ns ≠ []/\∀ M:Int,M ∈ ns->(∀ x ∈ ns,x<=M)->Q (.int M)
theorem ag1:cV X xA (fun xs H Q=>∃ (a:Addr) (ns:List Int),xs = [.ref a]/\aG X.K H a (ns.map V.int)/\ns ≠ []/\∀ M:Int,M ∈ ns->(∀ x ∈ ns,x<=M)->Q (.int M) H):=by
 rintro H vs xs Q Q' r ⟨ns,rfl,ne,q⟩ k
 obtain ⟨v,rfl,r1⟩:=r.one
 obtain ⟨a,us,rfl,_,h,r2⟩:=r1.sqL
 rw [r2.ofInts] at h
 exact⟨a,ns,rfl,aG.of h,ne,fun M m1 m2=>k _ _ _ (a9.refl _) (.int M) (q M m1 m2)⟩
end
end PP
namespace Core
open PySem L2 PP
noncomputable def tQ (ws:List Int) (ls:List (Int × Int)) (ns R:List Int):Prop:=wY ws ls ns R=true/\ad2 ws ls (ns ++ R)
end Core
namespace PP
open PySem L2
section
variable {X : Cx} {a b : Expr} {ta tb : aA} {pos : Pos}
noncomputable def xB:PV->Tg->PV->Tg->PK->Prop:=fun x _ y _ Q=>∃ ns ms:List Int,x = .tup (intz ns)/\y = .tup (intz ms)/\Q (.bl (HT.bF ns ms)) .fr
theorem ag2:cO X xB (oE X.K):=by
 rintro W Hs H u v x y g g' Q Q' s n r1 r2 ⟨ns,ms,rfl,rfl,q⟩ k
 obtain ⟨p1,us,rfl,h1,r1⟩:=r1.sqT
 obtain ⟨p2,vs,rfl,h2,r2⟩:=r2.sqT
 obtain rfl:=r1.ofInts
 obtain rfl:=r2.ofInts
 exact⟨p1,p2,ns,ms,rfl,rfl,aE.of h1,aE.of h2,k _ _ _ _ (a9.refl _) (.bl _) q⟩
end
end PP
namespace L2
open PySem PySem.Spec PyProof.Rows PP
section
variable {prog : Program} {w : World} {A : Around} {R : Result → Shared → Prop} {I S : Addr} {n : Nat} {l : Addr} {its : Array Value} {s0 : Shared} {bt : Nat → Nat → Bool}
noncomputable abbrev at_ (s:Shared) (h:Heap) (k:Nat):Shared:={ s with heap:=h,toks:=k }
noncomputable abbrev ag3 (g h:Heap):Prop:=∀ b o,g.get? b=some o->h.get? b=some o
noncomputable def bG (prog:Program) (w:World) (A:Around) (s0:Shared) (its:Array Value) (bt:Nat->Nat->Bool):Prop:=
 ∀ (i j:Nat) (v u:Value) (h:Heap) (k:Nat) (Q E:Value->Shared->Prop),its[i]? = some v->its[j]? = some u->ag3 s0.heap h->Q (.bool (bt i j)) (at_ s0 h k)->wpAny (model prog w) A (richCompare .Lt v u) Q E (at_ s0 h k)
end
end L2
namespace Core
open PySem L2 PP
noncomputable def FB (L:List (List Int)) (f:List Int->Int) (r:List Int):Prop:=∃ i,L[i]? = some r/\(∀ (j:Nat) (s:List Int),j < i->L[j]? = some s->f s < f r)/\∀ s ∈ L,f s<=f r
end Core
namespace L2
open PySem PySem.Spec PyProof.Rows
section
variable {prog : Program} {w : World} {A : Around} {E : Value → Shared → Prop} {s : Shared} {l : Addr} {xs : Array (Int × Tok)}
theorem xC {Q:Value->Shared->Prop} (hl:s.heap.IsTuple l (intItems xs))
  (h:∀ h2:Heap,(h2.IsTupleIter s.heap.objs.size l 0/\h2.IsTuple l (intItems xs))->(∀ b ∈ [s.heap.objs.size,l],b < h2.objs.size)->l ≠ s.heap.objs.size->(∀ b o,s.heap.get? b=some o->b ∉ [s.heap.objs.size]/\h2.get? b=some o)->Q (.ref s.heap.objs.size) { s with heap:=h2 }):wpAny (model prog w) A (pyIter (.ref l)) Q E s:=by
 have lb:l < s.heap.objs.size:=by obtain ⟨_,e,_⟩:=hl; exact ap3 e
 refine wpAny_pyIter_tuple hl (h _ ⟨⟨_,aq8 _ rfl,rfl,rfl⟩,hl.push _⟩ (fun b hb=>?_) (as1 lb) fun b o e=>⟨fun hm=>?_,ao3 _ e⟩)
 ·rw [az0]
  rcases ap0.mp hb with rfl | hb
  ·exact Nat.lt_succ_self _
  ·rw [aq3.mp hb]; exact Nat.lt_succ_of_lt lb
 ·rw [aq3.mp hm] at e
  exact absurd (ap3 e) (at8 _)
theorem ag4 {Q:Value->Shared->Prop} (hh:A.handled=none) (hl:s.heap.IsTuple l (intItems xs)) (hne:0 < xs.size)
  (h:∀ v h' tk,(intItems xs)[argBest (fun i j=>decide (numAt xs i > numAt xs j)) (xs.size - 1)]? = some v->(∀ b o,s.heap.get? b=some o->h'.get? b=some o)->Q v { s with heap:=h',toks:=tk }):wpAny (model prog w) A (call (.builtin "max") [.ref l]) Q E s:=by
 refine call_max_walk (xC hl fun h2 st hfp ne old=>?_)
 exact⟨_,_,_,_,_,_,_,rfl,Walks.tuple (A:=A.in1) hh _ l ne (intItems xs),st,hfp,by simpa [intItems] using hne,CmpOf.ints_gt (numAt xs) (fun _ _=>intItems_at),fun v h' tk hP hk=>h v h' tk (by simpa [intItems] using hP) fun b o e=>hk b o (old b o e).1 (old b o e).2⟩
theorem ag5 {Q:Value->Shared->Prop} (hh:A.handled=none) (hl:s.heap.IsTuple l (intItems xs)) (hne:0 < xs.size)
  (h:∀ v h' tk,(intItems xs)[argBest (fun i j=>decide (numAt xs i < numAt xs j)) (xs.size - 1)]? = some v->(∀ b o,s.heap.get? b=some o->h'.get? b=some o)->Q v { s with heap:=h',toks:=tk }):wpAny (model prog w) A (call (.builtin "min") [.ref l]) Q E s:=by
 refine call_min_walk (xC hl fun h2 st hfp ne old=>?_)
 exact⟨_,_,_,_,_,_,_,rfl,Walks.tuple (A:=A.in1) hh _ l ne (intItems xs),st,hfp,by simpa [intItems] using hne,CmpOf.ints_lt (numAt xs) (fun _ _=>intItems_at),fun v h' tk hP hk=>h v h' tk (by simpa [intItems] using hP) fun b o e=>hk b o (old b o e).1 (old b o e).2⟩
end
section
variable {X : Cx}
theorem xD (hc:X.calm=true):bV X (.builtin "max") (fun xs H Q=>∃ (a:Addr) (ns:List Int),xs = [.ref a]/\aE X.K H a (ns.map V.int)/\ns ≠ []/\∀ M:Int,M ∈ ns->(∀ x ∈ ns,x<=M)->Q (.int M) H):=by
 intro pins s σ H xs us Q I r h
 obtain ⟨a,ns,rfl,hq,ne,q⟩:=h
 obtain ⟨u,rfl,ru⟩:=eW r
 cases ru
 obtain ⟨its,rv,p,hz⟩:=I.tuple hq
 have ia:=gT rv
 obtain ⟨ys,ey⟩:=ia.allInts.items
 have en:ns=ys.toList.map (·.1):=by
  have e1:=nums_intItems ys
  rw [<- ey] at e1
  exact ia.numsOf.symm.trans e1
 have pos:0 < ys.size:=Nat.pos_of_ne_zero fun z=>ne (by rw [en,aw9 z]; rfl)
 have hl:s.heap.IsTuple a (intItems ys):=by rw [<- ey]; exact p
 refine ag4 (I.ok.hd hc) hl pos fun v h' tk ev old=>?_
 obtain ⟨t,rfl⟩:=intItems_at ev
 have best:=argBest_gt (numAt ys) (ys.size - 1)
 have mem:∀ x:Int,x ∈ ns ↔ ∃ j,j < ys.size/\numAt ys j=x:=fun x=>by
  rw [en]
  constructor
  ·intro z
   obtain ⟨j,hj,e⟩:=mem_getD z
   exact⟨j,by simpa using hj,by rw [numAt_eq]; exact e⟩
  ·rintro ⟨j,hj,rfl⟩
   rw [numAt_eq]
   exact getD_mem (by simpa using hj)
 refine⟨.int _,H,I.kept (t':=tk) (h':=h') old,⟨t,rfl⟩,q _ ?_ fun x hx=>?_⟩
 ·exact (mem _).mpr ⟨_,by have:=best.1; lia,rfl⟩
 ·obtain ⟨j,hj,rfl⟩:=(mem x).mp hx
  exact best.2 j (by lia)
theorem xE (hc:X.calm=true):bV X (.builtin "min") (fun xs H Q=>∃ (a:Addr) (ns:List Int),xs = [.ref a]/\aE X.K H a (ns.map V.int)/\ns ≠ []/\∀ M:Int,M ∈ ns->(∀ x ∈ ns,M<=x)->Q (.int M) H):=by
 intro pins s σ H xs us Q I r h
 obtain ⟨a,ns,rfl,hq,ne,q⟩:=h
 obtain ⟨u,rfl,ru⟩:=eW r
 cases ru
 obtain ⟨its,rv,p,hz⟩:=I.tuple hq
 have ia:=gT rv
 obtain ⟨ys,ey⟩:=ia.allInts.items
 have en:ns=ys.toList.map (·.1):=by
  have e1:=nums_intItems ys
  rw [<- ey] at e1
  exact ia.numsOf.symm.trans e1
 have pos:0 < ys.size:=Nat.pos_of_ne_zero fun z=>ne (by rw [en,aw9 z]; rfl)
 have hl:s.heap.IsTuple a (intItems ys):=by rw [<- ey]; exact p
 refine ag5 (I.ok.hd hc) hl pos fun v h' tk ev old=>?_
 obtain ⟨t,rfl⟩:=intItems_at ev
 have best:=argBest_lt (numAt ys) (ys.size - 1)
 have mem:∀ x:Int,x ∈ ns ↔ ∃ j,j < ys.size/\numAt ys j=x:=fun x=>by
  rw [en]
  constructor
  ·intro z
   obtain ⟨j,hj,e⟩:=mem_getD z
   exact⟨j,by simpa using hj,by rw [numAt_eq]; exact e⟩
  ·rintro ⟨j,hj,rfl⟩
   rw [numAt_eq]
   exact getD_mem (by simpa using hj)
 refine⟨.int _,H,I.kept (t':=tk) (h':=h') old,⟨t,rfl⟩,q _ ?_ fun x hx=>?_⟩
 ·exact (mem _).mpr ⟨_,by have:=best.1; lia,rfl⟩
 ·obtain ⟨j,hj,rfl⟩:=(mem x).mp hx
  exact best.2 j (by lia)
end
end L2
namespace PP
open PySem L2
section
variable {X : Cx} {a b e : Expr} {ta tb : aA} {tr : bJ} {pos p2 : Pos}
noncomputable def mY:List PV->(PV->Prop)->Prop:=fun xs Q=>∃ ns:List Int,xs = [.tup (intz ns)]/\ns ≠ []/\∀ M:Int,M ∈ ns->(∀ x ∈ ns,x<=M)->Q (.int M)
noncomputable def mZ:List PV->(PV->Prop)->Prop:=fun xs Q=>∃ ns:List Int,xs = [.tup (intz ns)]/\ns ≠ []/\∀ M:Int,M ∈ ns->(∀ x ∈ ns,M<=x)->Q (.int M)
theorem xF:cV X mY (fun xs H Q=>∃ (a:Addr) (ns:List Int),xs = [.ref a]/\aE X.K H a (ns.map V.int)/\ns ≠ []/\∀ M:Int,M ∈ ns->(∀ x ∈ ns,x<=M)->Q (.int M) H):=by
 rintro H vs xs Q Q' r ⟨ns,rfl,ne,q⟩ k
 obtain ⟨v,rfl,r1⟩:=r.one
 obtain ⟨a,us,rfl,h,r2⟩:=r1.sqT
 rw [r2.ofInts] at h
 exact⟨a,ns,rfl,aE.of h,ne,fun M m1 m2=>k _ _ _ (a9.refl _) (.int M) (q M m1 m2)⟩
theorem xG:cV X mZ (fun xs H Q=>∃ (a:Addr) (ns:List Int),xs = [.ref a]/\aE X.K H a (ns.map V.int)/\ns ≠ []/\∀ M:Int,M ∈ ns->(∀ x ∈ ns,M<=x)->Q (.int M) H):=by
 rintro H vs xs Q Q' r ⟨ns,rfl,ne,q⟩ k
 obtain ⟨v,rfl,r1⟩:=r.one
 obtain ⟨a,us,rfl,h,r2⟩:=r1.sqT
 rw [r2.ofInts] at h
 exact⟨a,ns,rfl,aE.of h,ne,fun M m1 m2=>k _ _ _ (a9.refl _) (.int M) (q M m1 m2)⟩
theorem ag6 (B:Bt X.mg) (hc:X.calm=true) (ha:QA X [e] tr) (hg:Gl X "max":=by rfl) (he:starEach [e] X.env=(false,eval e X.env) :: starEach [] X.env:=by rfl) (hpl:(backTo pos (starEach [] X.env)).any (·.1)=false:=by rfl):QE X (.Call (.Name "max" p2) [e] [] pos) (aK mY tr):=
 i6 (xD hc) xF hg B.max PyProof.Rows.boot_max ha (he:=he) (hpl:=hpl)
theorem ag7 (B:Bt X.mg) (hc:X.calm=true) (ha:QA X [e] tr) (hg:Gl X "min":=by rfl) (he:starEach [e] X.env=(false,eval e X.env) :: starEach [] X.env:=by rfl) (hpl:(backTo pos (starEach [] X.env)).any (·.1)=false:=by rfl):QE X (.Call (.Name "min" p2) [e] [] pos) (aK mZ tr):=
 i6 (xE hc) xG hg B.min PyProof.Rows.boot_min ha (he:=he) (hpl:=hpl)
noncomputable def xH (K:PySem.W.Frag):R2:=fun x y H Q=>eV (fun i j=>.bl (decide (i < j))) x y H Q ∨ oE K x y H Q
theorem ag8 (hu:X.A.units < cLine):bA X (compareOp .Lt) (xH X.K):=by
 intro pins s σ H x y v u Q I rx ry h
 rcases h with h | h
 ·exact sJ pins s σ H x y v u Q I rx ry h
 ·exact F6 hu pins s σ H x y v u Q I rx ry h
noncomputable def nA:PV->Tg->PV->Tg->PK->Prop:=fun x g y g' Q=>dO (fun i j=>.bl (decide (i < j))) x g y g' Q ∨ xB x g y g' Q
theorem ag9:cO X nA (xH X.K):=by
 intro W Hs H u v x y g g' Q Q' s n r1 r2 h k
 rcases h with h | h
 ·exact .inl (lK W Hs H u v x y g g' Q Q' s n r1 r2 h k)
 ·exact .inr (ag2 W Hs H u v x y g g' Q Q' s n r1 r2 h k)
theorem ah0 (hu:X.A.units+1 < cLine) (ha:QE X a ta) (hb:QE X b tb):QE X (.Compare a [.Lt] [b] pos) (q2 nA ta tb):=T4 (ag8 (by lia)) ag9 ha hb (iK _)
end
end PP
namespace L2
open PySem PySem.Spec PyProof.Rows
section
variable {X : Cx}
noncomputable def xI (K:PySem.W.Frag) (ta:TA):TI:=fun σ H R=>ta σ H fun vs H1=>∃ a b,vs = [.ref a,.ref b]/\((∃ xs ys,aE K H1 a xs/\aE K H1 b ys/\R (oS K a b) H1) ∨ ∃ xs ys,aG K H1 a xs/\aG K H1 b ys/\R (oU K a b) H1)
theorem ah1 {elts:List Expr}{kt:Nat}{pt:Pos}{a b:Expr}{ta:TA}{p pos:Pos} (hg:Gl X "zip") (hm:X.mg "zip" = none) (ha:PA X [a,b] ta) (hs:starEach [a,b] X.env = [(false,eval a X.env),(false,eval b X.env)]:=by rfl) (hs2:starEach [b] X.env = [(false,eval b X.env)]:=by rfl) :
  PI X (.Tuple elts kt pt) (.Call (.Name "zip" p) [a,b] [] pos) (xI X.K ta):=by
 intro pins s σ H R I h
 refine Call_ (jF I hg hm PyProof.Rows.boot_zip (PyProof.Rows.callWith_type1 (aJ (ha pos pins s σ H _ I h) fun us s1 ⟨vs,H1,I1,r1,q1⟩=>?_) (by rw [hs,hs2]) (by rw [hs2]; rfl)))
 obtain ⟨a',b',e,q1⟩:=q1
 subst e
 obtain ⟨u1,u2,rfl,r,r'⟩:=aF.two r1
 cases r
 cases r'
 have fresh:∀ k,H1 (s1.heap.objs.size+k)=none:=fun k=>I1.hok.fresh (Nat.le_add_right _ _)
 have fp:∀ c ∈ [s1.heap.objs.size+4,s1.heap.objs.size+2,s1.heap.objs.size+3,s1.heap.objs.size,s1.heap.objs.size+1],dI X pins H1 c:=fun c hc=>by
  simp only [ap0,aq6,aw2] at hc
  rcases hc with rfl | rfl | rfl | rfl | rfl
  ·exact I1.fpOk (Nat.le_add_right _ _) (fresh 4)
  ·exact I1.fpOk (Nat.le_add_right _ _) (fresh 2)
  ·exact I1.fpOk (Nat.le_add_right _ _) (fresh 3)
  ·exact I1.fpOk (ao8 _) (fresh 0)
  ·exact I1.fpOk (Nat.le_add_right _ _) (fresh 1)
 rcases q1 with ⟨xs,ys,h1,h2,q⟩ | ⟨xs,ys,h1,h2,q⟩
 ·obtain ⟨us,_,p1,_⟩:=I1.tuple h1
  obtain ⟨ws,_,p2,_⟩:=I1.tuple h2
  refine Zp.N4 p1 p2 fun h' z ti to s1' s2' kp=>wpAny_pyIter_zip z ?_
  exact⟨s1.heap.objs.size+4,[s1.heap.objs.size+4,s1.heap.objs.size+2,s1.heap.objs.size+3,s1.heap.objs.size,s1.heap.objs.size+1],_,_,H1,rfl,I1.kept (t':=s1.toks) kp,N7 a' b' _ _ _ _ _ (by simp),⟨z,ti,⟨_,_,to⟩,s1',s2'⟩,fp,q⟩
 ·obtain ⟨us,_,p1,_⟩:=I1.list h1
  obtain ⟨ws,_,p2,_⟩:=I1.list h2
  refine call_zip_2 p1.isList p2.isList fun h' z ti to s1' s2' _ kp=>wpAny_pyIter_zip z ?_
  exact⟨s1.heap.objs.size+4,[s1.heap.objs.size+4,s1.heap.objs.size+2,s1.heap.objs.size+3,s1.heap.objs.size,s1.heap.objs.size+1],_,_,H1,rfl,I1.kept (t':=s1.toks) kp,O3 a' b' _ _ _ _ _ (by simp),⟨z,ti,⟨_,_,to⟩,s1',s2'⟩,fp,q⟩
end
end L2
namespace PP
open PySem L2
theorem ah2 {K:PySem.W.Frag}{H0:Hp}{W:Addr->Prop}{g:Bool}{H1:Hp}{a b:Addr}{us vs:List V}{xs ys:List PV} (tw:∀ a,W a->∃ o,H1 a=some o/\eI o=true) (ha:∀ W' H',Ev W H1 W' H'->aG K H' a us) (hb:∀ W' H',Ev W H1 W' H'->aG K H' b vs)
  (r:Reps K (Ms H0 W g) H1 us xs) (r':Reps K (Ms H0 W g) H1 vs ys):iS K H0 W g H1 (oU K a b) (fG xs ys):=by
 have lr:=r.length
 have lr':=r'.length
 have ll:=qP xs ys
 refine⟨fun W' H' i e hi=>⟨us,vs,us[i]'(by lia),vs[i]'(by lia),ha W' H' e,hb W' H' e,by simp,by simp⟩,fun W' H' i v H2 e y hi=>?_,fun W' H' e=>⟨us,vs,ha W' H' e,hb W' H' e,by lia⟩⟩
 obtain ⟨T,x,y',hT,rfl,rfl,y⟩:=y
 obtain ⟨h1,h2⟩:=y us vs (ha W' _ e) (hb W' _ e)
 obtain ⟨z,hz,rz⟩:=r.get h1
 obtain ⟨z',hz',rz'⟩:=r'.get h2
 have sm:=b8 hT (HO.tup [x,y'])
 exact⟨sm,_,wH hz hz',.tup bL (.cons ((rz.keep (e.keep tw)).same sm fun _ q=>q) (.cons ((rz'.keep (e.keep tw)).same sm fun _ q=>q) .nil))⟩
section
variable {X : Cx} {σ : L2.St} {H : Hp} {ta tb : aA} {R : It → Hp → Prop}
noncomputable def r6 (ta tb:aA):dP:=fun ρ Q=>ta ρ fun x g0=>tb ρ fun y g=>∃ xs ys,((x = .tup xs/\y = .tup ys) ∨ (x = .lst xs/\y = .lst ys/\g0 ≠ .rd/\g ≠ .rd))/\flats xs=true/\flats ys=true/\Q (fG xs ys) true
theorem xJ {K:PySem.W.Frag}{H0 Hs:Hp}{W:Addr->Prop}{σ:L2.St}{ρ:aX}{g:Tg}{b:Addr} (px:PX K H0 W σ ρ Hs) (ng:g ≠ .rd) (m:Mg H0 W Hs g b) : ¬ W b:=by
 cases g with
 | fr=>exact (px.new m).1
 | nw=>exact m.1
 | sh=>exact m
 | rd=>exact absurd rfl ng
theorem ah3 (h:LI X (r6 ta tb) σ H R):xI X.K (iL (LE X ta) (iL (LE X tb) jJ)) σ H R:=by
 obtain ⟨W,ρ,Q,px,q,k⟩:=h
 refine⟨W,ρ,_,px,q,fun v0 H0 x0 g0 s0 r0 q0=>⟨W,ρ,_,px.mono s0,q0,?_⟩⟩
 rintro v H1 x g s r ⟨xs,ys,c,fx,fy,q⟩
 have S:=s0.trans s
 have px1:=px.mono S
 have tw:∀ a,W a->∃ o,H1 a=some o/\eI o=true:=fun a z=>(px1.wm a z).2
 rcases c with ⟨rfl,rfl⟩ | ⟨rfl,rfl,n0,n1⟩
 ·obtain ⟨a,us,rfl,h1,ra⟩:=(r0.same (M':=fun _=>True) s fun _ _=>trivial).sqT
  obtain ⟨b,vs,rfl,h2,rb⟩:=r.sqT
  have sta:∀ {c us},H1 c=some (.tup us)->∀ W' H',Ev W H1 W' H'->aE X.K H' c us:=fun {c us} hc W' H' e=>aE.of (e _ _ hc fun z=>by obtain ⟨o,h',mu⟩:=tw _ z; rw [hc] at h'; cases h'; cases mu).1
  exact⟨a,b,rfl,.inl ⟨us,vs,aE.of h1,aE.of h2,k _ _ _ _ S (ad8 tw (sta h1) (sta h2) (ra.flat fx) (rb.flat fy)) q⟩⟩
 ·obtain ⟨a,us,rfl,m0,h1,ra⟩:=(r0.same s fun _ z=>z).sqL
  obtain ⟨b,vs,rfl,m1,h2,rb⟩:=r.sqL
  have w0:=xJ px n0 m0
  have w1:=xJ (px.mono s0) n1 m1
  exact⟨a,b,rfl,.inr ⟨us,vs,aG.of h1,aG.of h2,k _ _ _ _ S (ah2 tw (fun W' H' e=>aG.of (e _ _ h1 w0).1) (fun W' H' e=>aG.of (e _ _ h2 w1).1) (ra.flat fx) (rb.flat fy)) q⟩⟩
theorem ah4 {elts:List Expr}{kt:Nat}{pt p2 pos:Pos}{a b:Expr} (B:Bt X.mg) (ha:QE X a ta) (hb:QE X b tb) (hg:Gl X "zip":=by rfl) (hs:starEach [a,b] X.env = [(false,eval a X.env),(false,eval b X.env)]:=by rfl) (hs2:starEach [b] X.env = [(false,eval b X.env)]:=by rfl):QI X (.Tuple elts kt pt) (.Call (.Name "zip" p2) [a,b] [] pos) (r6 ta tb):=
 pG (ah1 hg B.zip (fO ha (fO hb iM hs2) (by rw [hs,hs2])) hs hs2) fun _ _ _=>ah3
end
end PP
namespace Core
open PySem L2 PP
theorem ah5 (xs:List PV):dQ xs (some 1) none=xs.drop 1:=by
 unfold dQ
 have e1:HT.aH xs.length 0 (some 1)=min 1 xs.length:=by
  show (if (1:Int) < 0 then ((1:Int)+(xs.length:Int)).toNat else min (1:Int).toNat xs.length)=_
  rw [if_neg (by decide)]; rfl
 rw [e1]
 show (xs.drop (min 1 xs.length)).take (xs.length - min 1 xs.length)=_
 rw [as2 (by rw [av6]; exact ao8 _)]
 cases xs with
 | nil=>rfl
 | cons x xs=>rw [show min 1 (x :: xs).length=1 by simp]
noncomputable def nB {α:Type} (lt:α->α->Bool) (A:List α):Bool:=((A.zip (A.drop 1)).map fun p=>lt p.1 p.2).all id
noncomputable def nC:c8:=fun xs Q=>∃ x,xs = [x]/\((∃ ns,cL x ns/\ns.length<=1000/\Q (.bl (qD ns))) ∨ ∃ ls:List (Int × Int),x = .lst (aU ls)/\ls.length<=4096/\∀ b:Bool,(b=true ↔ ls.Pairwise c9)->Q (.bl b))
noncomputable def r9:aL:=(c7 (aK pC (a8 (fY (r6 (a6 0) (hU (a6 0) (hJ (qC (.int 1))) hI)) [none,none] (pD 0 1) eM (q2 nA (a6 0) (a6 1))) aC)))
theorem xK {α:Type} (f:α->PV) (lt:α->α->Bool) (fl:∀ a,flat (f a)=true) (hlt:∀ (a b:α) (g g':Tg) (K:PK),K (.bl (lt a b)) .fr->nA (f a) g (f b) g' K) (A:List α) (la:A.length<=10000) (x:PV) (hx:x = .tup (A.map f) ∨ x = .lst (A.map f)) {Q:PV->Prop} (q:Q (.bl (nB lt A))) :
  r9 { nx:=fun _=>Q .non,rt:=Q } [some (.sh (flat x) x)]:=by
 have fls:∀ B:List α,flats (B.map f)=true:=fun B=>by
  induction B with
  | nil=>rfl
  | cons b B ih=>show (flat (f b) && flats (B.map f))=true; rw [fl,ih]; rfl
 have sx:seqT x=some (A.map f):=by rcases hx with rfl | rfl <;> rfl
 have cut:dQ (A.map f) (some 1) none=(A.drop 1).map f:=by rw [ah5,List.map_drop]
 refine⟨_,rfl,_,rfl,_,rfl,_,sx,fls A,?_⟩
 rw [cut]
 refine⟨A.map f,(A.drop 1).map f,?_,fls A,fls _,?_⟩
 ·rcases hx with rfl | rfl
  ·exact .inl ⟨rfl,rfl⟩
  ·refine .inr ⟨rfl,rfl,?_,fun z=>by cases z⟩
   cases flat (.lst (A.map f)) <;> intro z <;> cases z
 have zl:(fG (A.map f) ((A.drop 1).map f)).length=A.length - 1:=by rw [qP,ap9,ap9,av6]; lia
 refine⟨by rw [zl]; lia,fun i acc=>acc=wX (((A.zip (A.drop 1)).take i).map fun p=>lt p.1 p.2),rfl,?_,?_⟩
 ·rintro i y acc hy rfl
  obtain ⟨u,v,h1,h2,rfl⟩:=ad7 hy
  rw [ar2] at h1 h2
  cases ha:A[i]? with
  | none=>rw [ha] at h1; cases h1
  | some a=>
   cases hb:(A.drop 1)[i]? with
   | none=>rw [hb] at h2; cases h2
   | some b=>
    rw [ha] at h1
    rw [hb] at h2
    cases h1
    cases h2
    have hz:(A.zip (A.drop 1))[i]? = some (a,b):=List.getElem?_zip_eq_some.mpr ⟨ha,hb⟩
    refine⟨_,_,rfl,_,rfl,_,rfl,hlt a b _ _ _ ⟨trivial,?_⟩⟩
    dsimp only
    rw [List.take_add_one,hz,at5]
    unfold wX
    rw [at5]; rfl
 ·rintro acc rfl
  rw [as2 (by rw [zl,List.length_zip,av6]; lia)]
  exact⟨_,rfl,trivial,q⟩
theorem ah6 (ls:List (Int × Int)):nB (fun a b=>HT.bF [a.1,a.2] [b.1,b.2]) ls=true ↔ ls.Pairwise c9:=by
 have lt2:∀ a b:Int × Int,HT.bF [a.1,a.2] [b.1,b.2]=true ↔ c9 a b:=fun a b=>by
  unfold c9
  rw [HT.gG,HT.gG,HT.oD]
  by_cases h1:a.1=b.1
  ·rw [if_pos h1]
   by_cases h2:a.2=b.2
   ·rw [if_pos h2]
    exact⟨fun z=>(by cases z),fun z=>(by lia)⟩
   ·rw [if_neg h2,ar5]; lia
  ·rw [if_neg h1,ar5]; lia
 induction ls with
 | nil=>exact⟨fun _=>.nil,fun _=>rfl⟩
 | cons a r ih=>
  cases r with
  | nil=>exact⟨fun _=>List.pairwise_singleton _ _,fun _=>rfl⟩
  | cons b r=>
   have e:nB (fun a b:Int × Int=>HT.bF [a.1,a.2] [b.1,b.2]) (a :: b :: r)=(HT.bF [a.1,a.2] [b.1,b.2] && nB (fun a b:Int × Int=>HT.bF [a.1,a.2] [b.1,b.2]) (b :: r)):=rfl
   rw [e,aw7,lt2,List.pairwise_cons]
   refine⟨fun ⟨h1,h2⟩=>⟨fun c hc=>?_,ih.mp h2⟩,fun ⟨h1,h2⟩=>⟨h1 b aq9,ih.mpr h2⟩⟩
   rcases ap0.mp hc with rfl | hc
   ·exact h1
   ·have:=(List.pairwise_cons.mp (ih.mp h2)).1 c hc
    unfold c9 at *; lia
theorem ah7:gC r9 ["things"] nC:=by
 rintro xs Q ⟨x,rfl,⟨ns,hx,hl,q⟩ | ⟨ls,rfl,hl,q⟩⟩
 ·exact xK PV.int (fun a b=>decide (a < b)) (fun _=>rfl) (fun a b g g' K h=>.inl ⟨_,_,rfl,rfl,h⟩) ns (by lia) x hx q
 ·exact xK (fun l:Int × Int=>PV.tup [.int l.1,.int l.2]) (fun a b=>HT.bF [a.1,a.2] [b.1,b.2]) (fun _=>rfl) (fun a b g g' K h=>.inr ⟨_,_,rfl,rfl,h⟩) ls (by lia) _ (.inr rfl) (q _ (ah6 ls))
noncomputable def dU (l:Int × Int):Int × Int:=(min l.1 l.2,max l.1 l.2)
noncomputable def nD:c8:=fun xs Q=>∃ (n:Nat) (l:Int × Int),xs = [.int n,.tup [.int l.1,.int l.2]]/\0<=l.1/\l.1 < (n:Int)/\0<=l.2/\l.2 < (n:Int)/\l.1 ≠ l.2/\Q (.tup [.int (dU l).1,.int (dU l).2])
noncomputable def xL:aL:=(aM (bP 2 (aK mZ (a8 (a6 1) aC)))
 (aM (bP 3 (aK mY (a8 (a6 1) aC)))
 (aM (bU (fV (aT (g6 (a6 2) (qC (.int 0)))) (aT (T0 (a6 3) (a6 0)))) eC bT)
 (aM (bU (aT (hV (a6 2) (a6 3))) eC bT)
 (c7 (cU (a8 (a6 2) (a8 (a6 3) aC))))))))
theorem ah8:gC xL ["many","link","one","other"] nD:=by
 rintro xs Q ⟨n,l,rfl,a0,a1,b0,b1,ne,q⟩
 refine⟨_,rfl,[l.1,l.2],rfl,(fun z=>by cases z),fun m m1 m2=>⟨trivial,?_⟩⟩
 refine⟨_,rfl,[l.1,l.2],rfl,(fun z=>by cases z),fun M M1 M2=>⟨trivial,?_⟩⟩
 have hm:m=(dU l).1:=by
  have h1:=m2 l.1 (by simp)
  have h2:=m2 l.2 (by simp)
  show m=min l.1 l.2
  rcases ap0.mp m1 with z | z
  ·lia
  ·have:=aq3.mp z; lia
 have hM:M=(dU l).2:=by
  have h1:=M2 l.1 (by simp)
  have h2:=M2 l.2 (by simp)
  show M=max l.1 l.2
  rcases ap0.mp M1 with z | z
  ·lia
  ·have:=aq3.mp z; lia
 have e1:(dU l).1=min l.1 l.2:=rfl
 have e2:(dU l).2=max l.1 l.2:=rfl
 subst hm hM
 refine⟨_,rfl,_,_,rfl,rfl,_,rfl,?_⟩
 dsimp only
 rw [ao5 (by lia)]
 refine aS ⟨_,rfl,_,rfl,_,_,rfl,rfl,_,rfl,?_⟩
 dsimp only
 rw [ao5 (by lia)]
 refine aS ⟨_,rfl,_,rfl,.inl ⟨_,_,rfl,rfl,_,rfl,?_⟩⟩
 show if decide ((dU l).1=(dU l).2)=true then _ else _
 rw [ao5 (by lia)]
 exact aS ⟨_,rfl,_,rfl,by show 2<=1000; decide,rfl,trivial,q⟩
noncomputable def kM:c8:=fun xs Q=>∃ x y ws ls,xs = [x,y]/\cL x ws/\ws.length<=40/\(∀ w ∈ ws,0<=w/\w<=60)/\(y = .tup (aU ls) ∨ y = .lst (aU ls))/\ls.length<=1700/\(∀ l ∈ ls,0<=l.1/\l.1 < (ws.length:Int)/\0<=l.2/\l.2 < (ws.length:Int)/\l.1 ≠ l.2)/\(ls.map dU).Nodup/\∀ ls',ls'.Perm (ls.map dU)->WL (ws.length:Int) ws ls'->Q (dH ws ls')
noncomputable def xM:aL:=(aM (bU (aT (iV (aK eB (a8 (a6 0) aC)) (qC (.int 40)))) eC bT)
 (aM (fC (gX (a6 0)) (cX 2)
  (bU (fV (aT (g6 (a6 2) (qC (.int 0)))) (aT (iV (a6 2) (qC (.int 60))))) eC bT))
 (aM (bP 3 (aK mV (a8 (fY (gX (a6 1)) [none,some 0] (cX 0) eM (aK nD (a8 (aK eB (a8 (a6 1) aC)) (a8 (a6 0) aC)))) aC)))
 (aM (bU (iP (aT (aK nC (a8 (a6 3) aC)))) eC bT)
 (c7 (cU (a8 (aK jS (a8 (a6 0) aC)) (a8 (aK jS (a8 (a6 3) aC)) aC))))))))
theorem ah9:gC xM ["wants","links","want","pairs"] kM:=by
 rintro xs Q ⟨x,y,ws,ls,rfl,hx,few,hw,hy,l17,inn,nd,q⟩
 have sy:fX y=some (aU ls):=by rcases hy with rfl | rfl <;> rfl
 have fy:flats (aU ls)=true:=iD ls
 have pl:(aU ls).length=ls.length:=ap9 _
 refine⟨_,rfl,_,_,rfl,hx.len,_,_,rfl,rfl,_,rfl,?_⟩
 dsimp only
 rw [ao5 (by lia)]
 refine aS ?_
 refine⟨_,rfl,_,hx.seq,aa4 hx,fun i ρ=>∃ y2,ρ = [some (.sh (flat x) x),some (.sh (flat y) y),y2,none],⟨none,rfl⟩,?_,?_⟩
 ·rintro i z ρ hz ⟨y2,rfl⟩
  obtain ⟨n,rfl,hn⟩:=kB hz
  have:=hw n (aA0 hn)
  refine qO ?_
  refine⟨_,rfl,_,_,rfl,rfl,_,rfl,?_⟩
  dsimp only
  rw [ao5 (by lia)]
  refine aS ⟨_,rfl,_,_,rfl,rfl,_,rfl,?_⟩
  dsimp only
  rw [ao5 (by lia)]
  exact aS ⟨_,rfl⟩
 rintro ρ ⟨y2,rfl⟩
 refine⟨_,rfl,_,sy,(fun z=>?_),by rw [pl]; lia,fun i acc=>acc=aU ((ls.take i).map dU),rfl,?_,?_⟩
 ·cases h:flat y with
  | true=>exact h
  | false=>rw [h] at z; cases z
 ·rintro i z acc hz rfl
  obtain ⟨l,rfl,hl⟩:=ab2 hz
  obtain ⟨a0,a1,b0,b1,ne⟩:=inn l (aA0 hl)
  refine⟨_,rfl,_,_,rfl,hx.len,_,rfl,ws.length,l,rfl,a0,a1,b0,b1,ne,trivial,?_⟩
  dsimp only
  rw [List.take_add_one,hl,at5]
  unfold aU
  rw [at5]; rfl
 rintro acc rfl
 rw [pl,List.take_length]
 refine⟨(ls.map dU).map two,by rw [kF]; rfl,by rw [ap9,ap9]; lia,fun r hr=>by obtain ⟨l,_,rfl⟩:=ay4.mp hr; rfl,fun Z pz so=>⟨trivial,?_⟩⟩
 obtain ⟨ls',rfl,pp⟩:=w5 pz
 have wl:WL (ws.length:Int) ws ls':=WL.perm rfl (fun l hl=>by
  obtain ⟨m,hm,rfl⟩:=ay4.mp hl
  obtain ⟨a0,a1,b0,b1,ne⟩:=inn m hm
  show 0<=min m.1 m.2/\min m.1 m.2 < max m.1 m.2/\max m.1 m.2 < (ws.length:Int)
  lia) (by rw [ap9]; exact l17) nd (fun w h=>(hw w h).1) pp so
 have ll:=pp.length_eq
 rw [ap9] at ll
 rw [show ((ls'.map two).map fun r=>PV.tup (intz r))=aU ls' from (kF ls').symm]
 refine⟨_,rfl,_,rfl,.inr ⟨ls',rfl,by lia,fun b hb=>?_⟩⟩
 refine⟨_,rfl,?_⟩
 rw [hb.mpr wl.ord]
 refine aS ?_
 refine⟨_,rfl,⟨_,_,rfl,hx.seqT,bN _,?_⟩,hx.noscr⟩
 refine⟨_,rfl,⟨_,_,rfl,rfl,iD _,?_⟩,fun _ z=>by cases z⟩
 exact⟨by show 2<=1000; decide,vR ws ls',trivial,q ls' pp wl⟩
theorem rA {ls:List (Int × Int)} (h:ls.Pairwise c9):ls.Nodup:=h.imp fun {a b} z e=>by subst e; unfold c9 at z; lia
theorem rB {a b:List (Int × Int)} (p:a.Perm b) (ha:a.Pairwise c9) (hb:b.Pairwise c9):a=b:=
 p.eq_of_pairwise (fun x y _ _ h1 h2=>by unfold c9 at h1 h2; lia) ha hb
end Core
namespace PySem
theorem ai0 (l:Addr) (items:Array Value) (n:Nat) (dd:Option Addr) (sl:Array (Option Value)) (x:Int) (u:Tok) (hx:x=1) :
  Meets (Builtin.«tuple.__mul__» ⟨[.ref l,.int x u],[]⟩) (fun _ R s=>s.heap.get? l=some { cls:=.type "tuple",dict:=dd,data:=.seq items n,slots:=sl }/\R (.ok (.ret (Value.ref l))) s):=
 .of_wp fun prog w A R s h=>by
  obtain ⟨hp,g,d,tk,os⟩:=s; obtain ⟨hl,h⟩:=h
  have c1:(decide (x < -(2 ^ 63)) || decide (x >= 2 ^ 63))=false:=by
   rw [Bool.or_eq_false_iff]; exact⟨ao5 (by lia),ao5 (by lia)⟩
  have c2:(items.isEmpty || x == 1)=true:=by rw [hx,show ((1:Int) == 1)=true from rfl,Bool.or_true]
  wp_walk
  exact⟨_,rfl,h⟩
end PySem
namespace PP
open PySem L2 PyProof.Rows
noncomputable def ai1 (K:PySem.W.Frag):R2:=fun x y H Q=>∃ l k xs,x = .ref l/\y = .int k/\aE K H l xs/\xs ≠ []/\1<=k/\k<=1000000/\xs.length * k.toNat<=sizeLine/\(k=1->Q (.ref l) H)/\∀ p,H p=none->Q (.ref p) (upd H p (.tup (List.replicate k.toNat xs).flatten))
theorem ai2 {X:Cx}:bA X (binaryOp .Mult) (ai1 X.K):=by
 intro pins s σ H x y v u Q I rx ry h
 obtain ⟨l,k,xs,rfl,rfl,hH,hne,h1,h2,hz,q1,q⟩:=h
 by_cases hk:k=1
 ·subst hk
  cases rx
  obtain ⟨t,rfl⟩:=ry
  obtain ⟨its,r,p,_⟩:=I.tuple hH
  obtain ⟨⟨cls,dd,data,sl⟩,ho,hc,n,hd⟩:=id p
  simp only at hc hd
  subst hc hd
  exact wpAny_binaryOp_repeat_ref (T:="tuple") (U:="int") (by decide) ⟨_,ho,rfl⟩ (fun s'=>typeIs_int s' 1 t) qI F.fills_int_mul ay0 qJ F.slot_int_index.lookup
   (aB3 ay0 (typeIs_int s 1 t) F.entry_int_rmul (F.args_int_rmul_2 _ _) (qK 1 t l its.toArray n dd sl)
    ⟨ho,rfl,⟨_,ho,rfl⟩,aB3 F.slot_tuple_mul ⟨_,ho,rfl⟩ F.entry_tuple_mul (F.args_tuple_mul_2 _ _) (ai0 l its.toArray n dd sl 1 t rfl) ⟨ho,.ref l,H,I,rfl,q1 rfl⟩⟩)
 ·exact vV pins s σ H _ _ v u Q I rx ry ⟨l,k,xs,rfl,rfl,hH,hne,by lia,h2,hz,q⟩
end PP
namespace Core
open PySem L2 PP
noncomputable def cF (many:Nat) (c:Int):List (Int × Int):=((rng many).filter fun h=>decide ((h+1) % c > 0)).map fun h=>(h,h+1)
noncomputable def cG (many:Int) (c:Int):List (Int × Int):=(rng (many - c).toNat).map fun h=>(h,h+c)
theorem rC {many:Nat}{c:Int}{l:Int × Int}:l ∈ cF many c ↔ 0<=l.1/\l.1 < (many:Int)/\(l.1+1) % c > 0/\l.2=l.1+1:=by
 unfold cF
 rw [ay4]
 constructor
 ·rintro ⟨h,hm,rfl⟩
  obtain ⟨h1,h2⟩:=List.mem_filter.mp hm
  have:=mM.mp h1
  exact⟨this.1,this.2,of_decide_eq_true h2,rfl⟩
 ·rintro ⟨h0,h1,h2,h3⟩
  exact⟨l.1,List.mem_filter.mpr ⟨mM.mpr ⟨h0,h1⟩,ap7 h2⟩,Prod.ext rfl h3.symm⟩
theorem rD {many c:Int}{l:Int × Int}:l ∈ cG many c ↔ 0<=l.1/\l.1 < many - c/\l.2=l.1+c:=by
 unfold cG
 rw [ay4]
 constructor
 ·rintro ⟨h,hm,rfl⟩
  have:=mM.mp hm
  exact⟨this.1,by show h < many - c; lia,rfl⟩
 ·rintro ⟨h0,h1,h2⟩
  exact⟨l.1,mM.mpr ⟨h0,by lia⟩,Prod.ext rfl h2.symm⟩
end Core
namespace PySem
theorem ai3 (l:Addr) (items:Array Value) (n:Nat) (dd:Option Addr) (sl:Array (Option Value)) (x:Int) (u:Tok) (h0:items.isEmpty=false) (hx:x=0) :
  Meets (Builtin.«tuple.__mul__» ⟨[.ref l,.int x u],[]⟩) (fun _ R s=>s.heap.get? l=some { cls:=.type "tuple",dict:=dd,data:=.seq items n,slots:=sl }/\R (.ok (.ret (Value.ref s.heap.objs.size))) { s with heap:=s.heap.push { cls:=Value.type "tuple",data:=Data.seq #[] } }):=
 .of_wp fun prog w A R s h=>by
  obtain ⟨hp,g,d,tk,os⟩:=s; obtain ⟨hl,h⟩:=h
  have c1:(decide (x < -(2 ^ 63)) || decide (x >= 2 ^ 63))=false:=by
   rw [Bool.or_eq_false_iff]; exact⟨ao5 (by lia),ao5 (by lia)⟩
  have c2:(items.isEmpty || x == 1)=false:=by rw [h0,Bool.false_or]; exact ay1.mpr (by lia)
  have c3:(decide (x<=0) || items.isEmpty)=true:=by rw [ap7 (by lia)]; rfl
  wp_walk
  exact⟨_,rfl,h⟩
end PySem
namespace PP
open PySem L2 PyProof.Rows
noncomputable def xN (K:PySem.W.Frag):R2:=fun x y H Q=>∃ l k xs,x = .ref l/\y = .int k/\aE K H l xs/\xs ≠ []/\0<=k/\k<=1000000/\xs.length * k.toNat<=sizeLine/\(k=1->Q (.ref l) H)/\∀ p,H p=none->Q (.ref p) (upd H p (.tup (List.replicate k.toNat xs).flatten))
theorem ai4 {X:Cx}:bA X (binaryOp .Mult) (xN X.K):=by
 intro pins s σ H x y v u Q I rx ry h
 obtain ⟨l,k,xs,rfl,rfl,hH,hne,h1,h2,hz,q1,q⟩:=h
 by_cases hk:k=0
 ·subst hk
  cases rx
  obtain ⟨t,rfl⟩:=ry
  obtain ⟨its,r,p,_⟩:=I.tuple hH
  obtain ⟨⟨cls,dd,data,sl⟩,ho,hc,n,hd⟩:=id p
  simp only at hc hd
  subst hc hd
  have hemp:its.toArray.isEmpty=false:=by
   cases its with
   | nil=>exact absurd (r.nil_iff.mp rfl) hne
   | cons a b=>rfl
  refine wpAny_binaryOp_repeat_ref (T:="tuple") (U:="int") (by decide) ⟨_,ho,rfl⟩ (fun s'=>typeIs_int s' 0 t) qI F.fills_int_mul ay0 qJ F.slot_int_index.lookup
   (aB3 ay0 (typeIs_int s 0 t) F.entry_int_rmul (F.args_int_rmul_2 _ _) (qK 0 t l its.toArray n dd sl)
    ⟨ho,rfl,⟨_,ho,rfl⟩,aB3 F.slot_tuple_mul ⟨_,ho,rfl⟩ F.entry_tuple_mul (F.args_tuple_mul_2 _ _) (ai3 l its.toArray n dd sl 0 t hemp rfl) ⟨ho,?_⟩⟩)
  refine⟨.ref s.heap.objs.size,_,I.laid (t':=s.toks) (o:=.tup []) (fun b ob q=>ao3 _ q) (ao8 _) ?_,rfl,q _ (I.hok.fresh (ao8 _))⟩
  exact⟨av8 _,[],.nil,IsTup.new _ _,dY.new _ _ rfl⟩
 ·exact ai2 pins s σ H _ _ v u Q I rx ry ⟨l,k,xs,rfl,rfl,hH,hne,by lia,h2,hz,q1,q⟩
section
variable {X : Cx} {a b e : Expr} {ta tb te : aA} {tr : bJ} {pos p2 : Pos}
noncomputable def rE:PV->Tg->PV->Tg->PK->Prop:=fun x _ y _ Q=>∃ xs n,x = .tup xs/\y = .int n/\flats xs=true/\xs ≠ []/\0<=n/\n<=1000000/\xs.length<=10/\Q (.tup (List.replicate n.toNat xs).flatten) .fr
theorem ai5:cO X rE (xN X.K):=by
 rintro W Hs H u v x y g g' Q Q' s n r1 r2 ⟨xs,m,rfl,rfl,f,ne,h1,h2,hl,q⟩ k
 cases r2
 have r1':=r1
 obtain ⟨a,us,rfl,h,r⟩:=r1.sqT
 have lr:=r.length
 refine⟨a,m,us,rfl,rfl,aE.of h,fun z=>ne (by cases xs with | nil=>rfl | cons _ _=>rw [z] at lr; cases lr),h1,h2,lim ?_,fun e=>?_,fun p hp=>k _ _ _ .fr (b8 hp _) (.tup bL (((r.flat f).rep m.toNat).same (b8 hp _) fun _ z=>z)) q⟩
 ·have h3:us.length<=10:=by lia
  have h4:m.toNat<=1000000:=by lia
  calc us.length * m.toNat<=10 * 1000000:=Nat.mul_le_mul h3 h4
   _<=16000000:=by decide
 ·subst e
  rw [show (List.replicate (1:Int).toNat xs).flatten=xs by simp] at q
  exact k _ _ _ .fr (a9.refl _) (.tup h (r.flat f)) q
theorem ai6 (ha:QE X a ta) (hb:QE X b tb):QE X (.BinOp a .Mult b pos) (q2 rE ta tb):=eO ai4 ai5 ha hb
theorem cV.or {R1 R2:List PV->(PV->Prop)->Prop}{r1 r2:List V->Hp->(V->Hp->Prop)->Prop} (h1:cV X R1 r1) (h2:cV X R2 r2):cV X (fun xs Q=>R1 xs Q ∨ R2 xs Q) (fun xs H Q=>r1 xs H Q ∨ r2 xs H Q):=by
 rintro H vs xs Q Q' r (h | h) k
 ·exact .inl (h1 H vs xs Q Q' r h k)
 ·exact .inr (h2 H vs xs Q Q' r h k)
noncomputable def rF:List PV->(PV->Prop)->Prop:=fun xs Q=>x9 xs Q ∨ mZ xs Q
noncomputable def rG:List PV->(PV->Prop)->Prop:=fun xs Q=>xA xs Q ∨ mY xs Q
theorem ai7 (B:Bt X.mg) (hc:X.calm=true) (ha:QA X [e] tr) (hg:Gl X "min":=by rfl) (he:starEach [e] X.env=(false,eval e X.env) :: starEach [] X.env:=by rfl) (hpl:(backTo pos (starEach [] X.env)).any (·.1)=false:=by rfl):QE X (.Call (.Name "min" p2) [e] [] pos) (aK rF tr):=
 i6 ((af8 hc).or (xE hc)) (af9.or xG) hg B.min PyProof.Rows.boot_min ha (he:=he) (hpl:=hpl)
theorem ai8 (B:Bt X.mg) (hc:X.calm=true) (ha:QA X [e] tr) (hg:Gl X "max":=by rfl) (he:starEach [e] X.env=(false,eval e X.env) :: starEach [] X.env:=by rfl) (hpl:(backTo pos (starEach [] X.env)).any (·.1)=false:=by rfl):QE X (.Call (.Name "max" p2) [e] [] pos) (aK rG tr):=
 i6 ((ag0 hc).or (xD hc)) (ag1.or xF) hg B.max PyProof.Rows.boot_max ha (he:=he) (hpl:=hpl)
theorem ai9 {x:PV}{ns:List Int} (h:Core.cL x ns) (ne:ns ≠ []) {Q:PV->Prop} (q:∀ M:Int,M ∈ ns->(∀ x ∈ ns,M<=x)->Q (.int M)):rF [x] Q:=by
 rcases h with rfl | rfl
 ·exact .inr ⟨ns,rfl,ne,q⟩
 ·exact .inl ⟨ns,rfl,ne,q⟩
theorem aj0 {x:PV}{ns:List Int} (h:Core.cL x ns) (ne:ns ≠ []) {Q:PV->Prop} (q:∀ M:Int,M ∈ ns->(∀ x ∈ ns,x<=M)->Q (.int M)):rG [x] Q:=by
 rcases h with rfl | rfl
 ·exact .inr ⟨ns,rfl,ne,q⟩
 ·exact .inl ⟨ns,rfl,ne,q⟩
end
end PP
namespace Core
open PySem L2 PP
noncomputable def cA (ws:List Int):Prop:=ws ≠ []/\ws.length<=2/\∀ x ∈ ws,0<=x/\x<=6
noncomputable def eS:cE:=fun Ep xs Q=>∃ x ws L,xs = [x,.int L]/\cL x ws/\(cA ws->0<=L->Q .non)/\(¬ (cA ws/\0<=L)->Ep "BadBoard")
noncomputable def xO (Ep:Str->Prop):aL:=(aM (bU (fV (aT (g6 (aK eB (a8 (a6 0) aC)) (qC (.int 1)))) (fV (aT (iV (aK eB (a8 (a6 0) aC)) (qC (.int 2)))) (fV (aT (g6 (aK rF (a8 (a6 0) aC)) (qC (.int 0)))) (aT (iV (aK rG (a8 (a6 0) aC)) (qC (.int 6))))))) (kH Ep "BadBoard" (a8 (qC (.str "a slice has one or two wants from 0 to 6")) aC)) bT)
 (bU (aT (g6 (a6 1) (qC (.int 0)))) (kH Ep "BadBoard" (a8 (qC (.str "no length is below 0")) aC)) bT))
theorem aj1:iH xO ["wants","length"] eS:=by
 rintro Ep xs Q ⟨x,ws,L,rfl,hx,q,ex⟩
 refine⟨_,rfl,_,_,rfl,hx.len,_,_,rfl,rfl,_,rfl,?_⟩
 show if decide ((ws.length:Int) < 1)=true then _ else _
 by_cases h1:(ws.length:Int) < 1
 ·rw [ap7 h1]
  exact bI (bI ⟨by decide,ex fun z=>z.1.1 (List.eq_nil_of_length_eq_zero (by lia))⟩)
 rw [ao5 h1]
 refine aS ⟨_,rfl,_,_,rfl,hx.len,_,_,rfl,rfl,_,rfl,?_⟩
 show if decide ((ws.length:Int) > 2)=true then _ else _
 by_cases h2:(ws.length:Int) > 2
 ·rw [ap7 h2]
  exact bI (bI ⟨by decide,ex fun z=>by have:=z.1.2.1; lia⟩)
 rw [ao5 h2]
 have ne:ws ≠ []:=fun z=>by rw [z] at h1; exact h1 (by decide)
 refine aS ⟨_,rfl,ai9 hx ne fun m m1 m2=>⟨_,_,rfl,rfl,_,rfl,?_⟩⟩
 show if decide (m < 0)=true then _ else _
 by_cases h3:m < 0
 ·rw [ap7 h3]
  exact bI (bI ⟨by decide,ex fun z=>by have:=z.1.2.2 m m1; lia⟩)
 rw [ao5 h3]
 refine aS ⟨_,rfl,aj0 hx ne fun M M1 M2=>⟨_,_,rfl,rfl,_,rfl,?_⟩⟩
 show if decide (M > 6)=true then _ else _
 by_cases h4:M > 6
 ·rw [ap7 h4]
  exact bI ⟨by decide,ex fun z=>by have:=z.1.2.2 M M1; lia⟩
 rw [ao5 h4]
 refine aS ⟨_,rfl,_,_,rfl,rfl,_,rfl,?_⟩
 show if decide (L < 0)=true then _ else _
 by_cases h5:L < 0
 ·rw [ap7 h5]
  exact bI ⟨by decide,ex fun z=>by lia⟩
 rw [ao5 h5]
 exact aS (q ⟨ne,by lia,fun y hy=>by have:=m2 y hy; have:=M2 y hy; lia⟩ (by lia))
noncomputable def eU:cE:=fun Ep xs Q=>∃ L m:Int,xs = [.int L,.int m]/\(L<=m->Q .non)/\(m < L->Ep "TooMany")
noncomputable def xP (Ep:Str->Prop):aL:=(bU (aT (iV (a6 0) (a6 1))) (kH Ep "TooMany" (a8 (qC (.str "the strip is too long")) aC)) bT)
theorem aj2:iH xP ["length","most"] eU:=by
 rintro Ep xs Q ⟨L,m,rfl,q,ex⟩
 refine⟨_,rfl,_,rfl,_,_,rfl,rfl,_,rfl,?_⟩
 show if decide (L > m)=true then _ else _
 by_cases h:L > m
 ·rw [ap7 h]; exact bI ⟨by decide,ex h⟩
 ·rw [ao5 h]; exact aS (q (by lia))
noncomputable def nF (most:Int->Int):cE:=fun Ep xs Q=>∃ x ws L,xs = [x,.int L]/\cL x ws/\(¬ (cA ws/\0<=L)->Ep "BadBoard")/\(cA ws->0<=L->most ws.length < L/\Ep "TooMany")
noncomputable def bH (w:Int):Int:=40 / w
noncomputable def rH (_:Int):Int:=300
noncomputable def xQ (_:Int):Int:=60
noncomputable abbrev nG:cE:=nF bH
noncomputable abbrev nH:cE:=nF rH
noncomputable abbrev nI:cE:=nF xQ
noncomputable abbrev nJ:cE:=nF rH
noncomputable def xR (Ep:Str->Prop):aL:=(aM (eZ (fH Ep eS (a8 (a6 0) (a8 (a6 1) aC))))
 (aM (bP 2 (aK eB (a8 (a6 0) aC)))
 (aM (eZ (fH Ep eU (a8 (a6 1) (a8 (fZ (qC (.int 40)) (a6 2)) aC))))
 (aM eC
 (aM eC
 eC)))))
theorem aj3:iH xR ["wants","length","width","hearths","turn","seeds"] nG:=by
 rintro Ep xs Q ⟨x,ws,L,rfl,hx,e1,e2⟩
 refine⟨_,rfl,_,rfl,x,ws,L,rfl,hx,fun ok l0=>?_,e1⟩
 obtain ⟨lt,e3⟩:=e2 ok l0
 have w1:0 < (ws.length:Int):=by have:=List.length_pos_iff.mpr ok.1; lia
 refine⟨_,rfl,_,_,rfl,hx.len,trivial,?_⟩
 exact⟨_,rfl,_,rfl,_,_,rfl,rfl,⟨w1,by have:=ok.2.1; lia⟩,L,40 / (ws.length:Int),rfl,fun le=>absurd le (by unfold bH at lt; lia),fun _=>e3⟩
noncomputable def rJ (Ep:Str->Prop):aL:=(aM (eZ (fH Ep eS (a8 (a6 0) (a8 (a6 1) aC))))
 (aM (eZ (fH Ep eU (a8 (a6 1) (a8 (qC (.int 300)) aC))))
 eC))
theorem xS:iH rJ ["wants","length"] nH:=by
 rintro Ep xs Q ⟨x,ws,L,rfl,hx,e1,e2⟩
 refine⟨_,rfl,_,rfl,x,ws,L,rfl,hx,fun ok l0=>?_,e1⟩
 obtain ⟨lt,e3⟩:=e2 ok l0
 exact⟨_,rfl,L,300,rfl,fun le=>absurd le (by unfold rH at lt; lia),fun _=>e3⟩
noncomputable abbrev xT:=rJ
theorem aj4:iH xT ["wants","length"] nJ:=xS
noncomputable def xU (Ep:Str->Prop):aL:=(aM (eZ (fH Ep eS (a8 (a6 0) (a8 (a6 1) aC))))
 (aM (eZ (fH Ep eU (a8 (a6 1) (a8 (qC (.int 60)) aC))))
 (aM eC
 eC)))
theorem aj5:iH xU ["wants","length","width"] nI:=by
 rintro Ep xs Q ⟨x,ws,L,rfl,hx,e1,e2⟩
 refine⟨_,rfl,_,rfl,x,ws,L,rfl,hx,fun ok l0=>?_,e1⟩
 obtain ⟨lt,e3⟩:=e2 ok l0
 exact⟨_,rfl,L,60,rfl,fun le=>absurd le (by unfold xQ at lt; lia),fun _=>e3⟩
theorem rK (ws:List Int) (n:Nat):(List.replicate n (intz ws)).flatten=intz (List.replicate n ws).flatten:=by
 induction n with
 | zero=>rfl
 | succ n ih=>rw [at2,at2,aw1,aw1,ih,kC]
noncomputable def dW (ws:List Int) (L:Int):List Int:=(List.replicate L.toNat ws).flatten
theorem aj6 (ws:List Int) {L:Int} (l0:0<=L):((dW ws L).length:Int)=(ws.length:Int) * L:=by
 unfold dW
 rw [oH,Int.natCast_mul,Int.mul_comm,show ((L.toNat:Nat):Int)=L by lia]
noncomputable def iI:cE:=fun Ep xs Q=>∃ x ws L,xs = [x,.int L]/\cL x ws/\(¬ (cA ws/\0<=L)->Ep "BadBoard")/\(cA ws->0<=L->bH ws.length < L->Ep "TooMany")/\
 (cA ws->0<=L->L<=bH ws.length->∀ ls,ls.Perm (cF ((ws.length:Int) * L).toNat ws.length ++ cG ((ws.length:Int) * L) ws.length)->ls.Pairwise c9->Q (dH (dW ws L) ls))
noncomputable def xV (Ep:Str->Prop):aL:=(aM (eZ (fH Ep eS (a8 (a6 0) (a8 (a6 1) aC))))
 (aM (bP 2 (aK eB (a8 (a6 0) aC)))
 (aM (eZ (fH Ep eU (a8 (a6 1) (a8 (fZ (qC (.int 40)) (a6 2)) aC))))
 (aM (bP 3 (uK (a6 2) (a6 1)))
 (aM (bP 4 (fY (gY (a6 3)) [none,some 2] (cX 0) (aT (iV (eN (cB (a6 0) (qC (.int 1))) (a6 1)) (qC (.int 0)))) (cU (a8 (a6 0) (a8 (cB (a6 0) (qC (.int 1))) aC)))))
 (aM (bP 5 (fY (gY (lS (a6 3) (a6 2))) [none,some 2] (cX 0) eM (cU (a8 (a6 0) (a8 (cB (a6 0) (a6 1)) aC)))))
 (c7 (aK kM (a8 (wF (aK lM (a8 (a6 0) aC)) (a6 1)) (a8 (wC (a6 4) (a6 5)) aC))))))))))
theorem aj7:iH xV ["wants","length","width","many","across","along"] iI:=by
  rintro Ep xs Q ⟨x,ws,L,rfl,hx,e1,e2,q⟩
  refine⟨_,rfl,_,rfl,x,ws,L,rfl,hx,fun ok l0=>?_,e1⟩
  have w1:1<=(ws.length:Int):=by have:=List.length_pos_iff.mpr ok.1; lia
  have w2:(ws.length:Int)<=2:=by have:=ok.2.1; lia
  refine⟨_,rfl,_,_,rfl,hx.len,trivial,?_⟩
  refine⟨_,rfl,_,rfl,_,_,rfl,rfl,⟨by show (0:Int) < (ws.length:Int); lia,by lia⟩,L,40 / (ws.length:Int),rfl,fun le=>?_,fun lt=>e2 ok l0 lt⟩
  have q:=q ok l0 le
  have l40:L<=40:=by
    rcases (show (ws.length:Int)=1 ∨ (ws.length:Int)=2 by lia) with h | h <;> rw [h] at le <;> lia
  have hp:0<=(ws.length:Int) * L:=Int.mul_nonneg (by lia) l0
  have h40:(ws.length:Int) * L<=40:=by
    have:=Int.mul_le_mul_of_nonneg_left le (show 0<=(ws.length:Int) by lia)
    have:=Int.mul_ediv_self_le (x:=40) (k:=(ws.length:Int)) (by lia)
    lia
  have sl:=aj6 ws l0
  have dv:((ws.length:Int) * L) % (ws.length:Int)=0:=Int.mul_emod_right ..
  refine⟨_,rfl,_,rfl,_,_,rfl,rfl,.inl ⟨by lia,by lia⟩,trivial,?_⟩
  dsimp only
  have sq:fX x=some (intz ws):=hx.seq
  have wl:ws.length<=10:=by have:=ok.2.1; lia
  have wr:=ok.2.2
  generalize hc:(ws.length:Int)=c at *
  generalize hm:c * L=m at *
  refine⟨_,rfl,m,rfl,by lia,by lia,by rw [fB]; lia,fun i acc=>acc=aU ((((rng m.toNat).take i).filter fun h=>decide ((h+1) % c > 0)).map fun h=>(h,h+1)),rfl,?_,?_⟩
  · rintro i z acc hz rfl
    rw [vZ] at hz
    obtain ⟨h,rfl,hh⟩:=kB hz
    have tk:=aa2 (p:=fun h=>decide ((h+1) % c > 0)) hh
    refine⟨_,rfl,_,_,rfl,rfl,_,rfl,_,_,rfl,rfl,by lia,_,_,rfl,rfl,_,rfl,?_⟩
    dsimp only
    cases hc:decide ((h+1) % c > 0) with
    | true=>
      rw [hc,if_pos rfl] at tk
      refine bI ⟨_,rfl,_,rfl,_,_,rfl,rfl,by show 2<=1000; decide,rfl,trivial,?_⟩
      dsimp only
      rw [tk,at5]
      unfold aU
      rw [at5]; rfl
    | false=>
      rw [hc,if_neg (by decide),as5] at tk
      refine aS ?_
      rw [tk]
  rintro acc rfl
  rw [fB,as2 (by rw [mL]; exact ao8 _)]
  refine⟨trivial,?_⟩
  refine⟨_,rfl,_,rfl,_,_,rfl,rfl,m - c,rfl,by lia,by lia,by rw [fB]; lia,fun i acc=>acc=aU (((rng (m - c).toNat).take i).map fun h=>(h,h+c)),rfl,?_,?_⟩
  · rintro i z acc hz rfl
    rw [vZ] at hz
    obtain ⟨h,rfl,hh⟩:=kB hz
    refine⟨_,rfl,_,rfl,_,rfl,_,_,rfl,rfl,by show 2<=1000; decide,rfl,trivial,?_⟩
    dsimp only
    rw [List.take_add_one,hh,at5]
    unfold aU
    rw [at5]; rfl
  rintro acc rfl
  rw [fB,as2 (by rw [mL]; exact ao8 _)]
  refine⟨trivial,?_⟩
  refine⟨_,rfl,_,_,rfl,sq,bN _,_,rfl,_,L,rfl,rfl,bN _,by lia,by lia,by rw [bR]; exact wl,?_⟩
  rw [rK]
  have bl1:(cF m.toNat c).length<=40:=by
    unfold cF
    rw [ap9]
    have:=List.length_filter_le (fun h=>decide ((h+1) % c > 0)) (rng m.toNat)
    rw [mL] at this
    lia
  have bl2:(cG m c).length<=40:=by
    unfold cG
    rw [ap9,mL]; lia
  refine⟨_,rfl,_,rfl,_,_,rfl,rfl,iD _,iD _,?_,?_⟩
  · show (aU (cF m.toNat c)).length+(aU (cG m c)).length<=_
    rw [mO,mO]; lia
  have e2:aU (cF m.toNat c) ++ aU (cG m c)=aU (cF m.toNat c ++ cG m c):=by unfold aU; rw [at5]
  have inn:∀ l ∈ cF m.toNat c ++ cG m c,0<=l.1/\l.1 < l.2/\l.2 < m:=fun l hl=>by
    rcases au2.mp hl with h | h
    · obtain ⟨h0,h1,h2,h3⟩:=rC.mp h
      have:l.1+1 ≠ m:=fun e=>by rw [e,dv] at h2; lia
      lia
    · have:=rD.mp h; lia
  have nrmid:(cF m.toNat c ++ cG m c).map dU=cF m.toNat c ++ cG m c:=by
    conv=>rhs; rw [<- List.map_id (cF m.toNat c ++ cG m c)]
    refine List.map_congr_left fun l hl=>?_
    have:=inn l hl
    exact Prod.ext (by show min l.1 l.2=l.1; lia) (by show max l.1 l.2=l.2; lia)
  have nd:(cF m.toNat c ++ cG m c).Nodup:=by
    refine List.nodup_append.mpr ⟨?_,?_,fun x hx y hy e=>?_⟩
    · unfold cF
      exact ax8.mpr (((w4 m.toNat).filter _).imp fun {a b} ne e=>ne (congrArg Prod.fst e))
    · unfold cG
      exact ax8.mpr ((w4 _).imp fun {a b} ne e=>ne (congrArg Prod.fst e))
    · subst e
      obtain ⟨h0,h1,h2,h3⟩:=rC.mp hx
      obtain ⟨k0,k1,k2⟩:=rD.mp hy
      have:c=1:=by lia
      subst this
      rw [Int.emod_one] at h2
      lia
  have key:kM [.lst (intz (dW ws L)),.lst (aU (cF m.toNat c ++ cG m c))] fun z=>Nw .fr z/\Q z:=by
   refine⟨_,_,dW ws L,cF m.toNat c ++ cG m c,rfl,.inr rfl,by lia,fun w hw=>?_,.inr rfl,by rw [ar4]; lia,fun l hl=>?_,by rw [nrmid]; exact nd,fun ls' pp w'=>?_⟩
   · obtain ⟨l,hl,hw⟩:=List.mem_flatten.mp hw
     rw [(List.mem_replicate.mp hl).2] at hw
     have:=wr w hw
     lia
   · have:=inn l hl
     rw [sl]
     lia
   · rw [nrmid] at pp
     exact⟨trivial,q ls' pp w'.ord⟩
  rw [<- e2] at key
  exact key
noncomputable def nK:c8:=fun xs Q=>∃ c:Int,xs = [.int c]/\∀ ws,cA ws->Q (.tup (intz ws))
noncomputable def xW:aL:=(aM (bU (aT (hV (eN (a6 0) (qC (.int 3))) (qC (.int 0)))) (c7 (cU (a8 (eN (fZ (a6 0) (qC (.int 3))) (qC (.int 7))) aC))) bT)
 (aM (bU (aT (hV (eN (a6 0) (qC (.int 3))) (qC (.int 1)))) (c7 (cU (a8 (eN (fZ (a6 0) (qC (.int 3))) (qC (.int 7))) (a8 (eN (fZ (a6 0) (qC (.int 21))) (qC (.int 7))) aC)))) bT)
 (c7 (cU (a8 (cB (qC (.int 1)) (eN (fZ (a6 0) (qC (.int 3))) (qC (.int 3)))) (a8 (cB (qC (.int 1)) (eN (fZ (a6 0) (qC (.int 9))) (qC (.int 3)))) aC))))))
theorem aj8 {a:Int} (h:0<=a/\a<=6):cA [a]:=⟨by simp,Nat.le_succ 1,fun x hx=>by rw [aq3.mp hx]; exact h⟩
theorem xX {a b:Int} (h:0<=a/\a<=6) (k:0<=b/\b<=6):cA [a,b]:=⟨by simp,ao8 2,fun x hx=>by
 rcases ap0.mp hx with rfl | hx
 ·exact h
 ·rw [aq3.mp hx]; exact k⟩
theorem aj9:gC xW ["cell"] nK:=by
 rintro xs Q ⟨c,rfl,q⟩
 refine⟨_,rfl,_,_,rfl,rfl,(by show (0:Int) < 3; decide),.inl ⟨_,_,rfl,rfl,_,rfl,?_⟩⟩
 show if decide (c % 3=0)=true then _ else _
 by_cases h:c % 3=0
 ·rw [ap7 h]
  exact bI ⟨_,rfl,_,_,rfl,rfl,⟨by decide,by decide⟩,_,_,rfl,rfl,(by show (0:Int) < 7; decide),by show 1<=1000; decide,rfl,trivial,q [_] (aj8 (by lia))⟩
 rw [ao5 h]
 refine aS ⟨_,rfl,_,_,rfl,rfl,(by show (0:Int) < 3; decide),.inl ⟨_,_,rfl,rfl,_,rfl,?_⟩⟩
 show if decide (c % 3=1)=true then _ else _
 by_cases h:c % 3=1
 ·rw [ap7 h]
  exact bI ⟨_,rfl,_,_,rfl,rfl,⟨by decide,by decide⟩,_,_,rfl,rfl,(by show (0:Int) < 7; decide),_,rfl,_,_,rfl,rfl,⟨by decide,by decide⟩,_,_,rfl,rfl,(by show (0:Int) < 7; decide),by show 2<=1000; decide,rfl,trivial,q [_,_] (xX (by lia) (by lia))⟩
 rw [ao5 h]
 exact aS ⟨_,rfl,_,_,rfl,rfl,⟨by decide,by decide⟩,_,_,rfl,rfl,(by show (0:Int) < 3; decide),_,_,rfl,rfl,_,rfl,_,_,rfl,rfl,⟨by decide,by decide⟩,_,_,rfl,rfl,(by show (0:Int) < 3; decide),_,_,rfl,rfl,by show 2<=1000; decide,rfl,trivial,q [_,_] (xX (by lia) (by lia))⟩
noncomputable def rL (m c:Int) (l:Int × Int):Prop:=((l.1+1) % c > 0/\l.2=l.1+1) ∨ (l.1 < m - c/\l.2=l.1+c)
structure fJ (m c:Int) (k:Int) (ls:List (Int × Int)):Prop where
 ord:ls.Pairwise c9
 len:(ls.length:Int)<=2 * k
 mem:∀ l:Int × Int,l ∈ ls ↔ 0<=l.1/\l.1 < k/\rL m c l
theorem fJ.nil {m c:Int}:fJ m c 0 []:=⟨.nil,by decide,fun l=>⟨(fun h=>nomatch h),fun h=>by lia⟩⟩
noncomputable def dX (c k:Int):List (Int × Int):=if (k+1) % c > 0 then [(k,k+1)] else []
noncomputable def fL (m c k:Int):List (Int × Int):=if k < m - c then [(k,k+c)] else []
theorem rM {c k:Int}{l:Int × Int}:l ∈ dX c k ↔ l.1=k/\(k+1) % c > 0/\l.2=k+1:=by
 unfold dX
 split
 ·rename_i h
  rw [aq3]
  exact⟨fun e=>by rw [e]; exact⟨rfl,h,rfl⟩,fun e=>Prod.ext e.1 e.2.2⟩
 ·rename_i h
  exact⟨(fun z=>nomatch z),fun z=>absurd z.2.1 h⟩
theorem xY {m c k:Int}{l:Int × Int}:l ∈ fL m c k ↔ l.1=k/\k < m - c/\l.2=k+c:=by
 unfold fL
 split
 ·rename_i h
  rw [aq3]
  exact⟨fun e=>by rw [e]; exact⟨rfl,h,rfl⟩,fun e=>Prod.ext e.1 e.2.2⟩
 ·rename_i h
  exact⟨(fun z=>nomatch z),fun z=>absurd z.2.1 h⟩
theorem fJ.step {m c k:Int}{ls:List (Int × Int)} (g:fJ m c k ls) (k0:0<=k) (hc:c=1 ∨ c=2):fJ m c (k+1) (ls ++ dX c k ++ fL m c k):=by
 have lt:∀ l ∈ ls,l.1 < k:=fun l hl=>((g.mem l).mp hl).2.1
 refine⟨ar3.mpr ⟨ar3.mpr ⟨g.ord,?_,fun a ha b hb=>?_⟩,?_,fun a ha b hb=>?_⟩,?_,fun l=>?_⟩
 ·unfold dX; split <;> simp
 ·have:=lt a ha
  have:=(rM.mp hb).1
  unfold c9; lia
 ·unfold fL; split <;> simp
 ·have b2:=xY.mp hb
  rcases au2.mp ha with ha | ha
  ·have:=lt a ha
   unfold c9; lia
  ·have a1:=rM.mp ha
   unfold c9
   rcases hc with rfl | rfl
   ·have:=a1.2.1; rw [Int.emod_one] at this; lia
   ·lia
 ·have l1:(dX c k).length<=1:=by unfold dX; split <;> simp
  have l2:(fL m c k).length<=1:=by unfold fL; split <;> simp
  have:=g.len
  rw [ar4,ar4]; lia
 ·rw [au2,au2,g.mem l,rM,xY]
  unfold rL
  constructor
  ·rintro ((⟨a,b,h⟩ | ⟨a,b,h⟩) | ⟨a,b,h⟩)
   ·exact⟨a,by lia,h⟩
   ·exact⟨by lia,by lia,.inl ⟨by rw [a]; exact b,by lia⟩⟩
   ·exact⟨by lia,by lia,.inr ⟨by lia,by lia⟩⟩
  ·rintro ⟨a,b,h⟩
   by_cases e:l.1=k
   ·rcases h with ⟨h1,h2⟩ | ⟨h1,h2⟩
    ·exact .inl (.inr ⟨e,by rw [<- e]; exact h1,by lia⟩)
    ·exact .inr ⟨e,by lia,by lia⟩
   ·exact .inl (.inl ⟨a,by lia,h⟩)
theorem fJ.all {m c:Int}{ls:List (Int × Int)} (g:fJ m c m ls) (c1:1<=c) (m0:0<=m) (l:Int × Int):l ∈ ls ↔ l ∈ cF m.toNat c ++ cG m c:=by
 rw [g.mem l,au2,rC,rD]
 unfold rL
 constructor
 ·rintro ⟨a,b,⟨h1,h2⟩ | ⟨h1,h2⟩⟩
  ·exact .inl ⟨a,by lia,h1,h2⟩
  ·exact .inr ⟨a,h1,h2⟩
 ·rintro (⟨a,b,h1,h2⟩ | ⟨a,h1,h2⟩)
  ·exact⟨a,by lia,.inl ⟨h1,h2⟩⟩
  ·exact⟨a,by lia,.inr ⟨h1,h2⟩⟩
noncomputable def nL:c8:=fun xs Q=>∃ (ws:List Int) (L:Int),xs = [.tup (intz ws),.int L]/\cA ws/\0<=L/\L<=40/\∀ ls,ls.Pairwise c9->(∀ l,l ∈ ls ↔ l ∈ cF ((ws.length:Int) * L).toNat ws.length ++ cG ((ws.length:Int) * L) ws.length)->Q (dH (dW ws L) ls)
noncomputable def xZ:aL:=(aM (bP 2 (aK eB (a8 (a6 0) aC)))
 (aM (lL 3 (fW aC))
 (aM (fC (gY (a6 1)) (cX 4)
  (fC (gY (a6 2)) (cX 5)
   (aM (bP 6 (cB (uK (a6 4) (a6 2)) (a6 5)))
   (aM (bU (aT (g6 (cB (a6 5) (qC (.int 1))) (a6 2))) (iR 3 (cU (a8 (a6 6) (a8 (cB (a6 6) (qC (.int 1))) aC)))) bT)
   (bU (aT (g6 (cB (a6 4) (qC (.int 1))) (a6 1))) (iR 3 (cU (a8 (a6 6) (a8 (cB (a6 6) (a6 2)) aC)))) bT)))))
 (c7 (cU (a8 (q2 rE (aK jS (a8 (a6 0) aC)) (a6 1)) (a8 (aK jS (a8 (aK mV (a8 (a6 3) aC)) aC)) aC)))))))
theorem ak0:gC xZ ["wants","length","width","links","slice_number","place","hearth"] nL:=by
 rintro xs Q ⟨ws,L,rfl,ok,l0,l40,q⟩
 have w1:1<=(ws.length:Int):=by have:=List.length_pos_iff.mpr ok.1; lia
 have w2:(ws.length:Int)<=2:=by have:=ok.2.1; lia
 have hw:(ws.length:Int)=1 ∨ (ws.length:Int)=2:=by lia
 refine⟨_,rfl,_,_,rfl,rfl,trivial,?_⟩
 rw [bR]
 refine⟨by decide,rfl,rfl,rfl,?_⟩
 have nE:intz ws ≠ []:=fun z=>ok.1 (List.map_eq_nil_iff.mp z)
 have wl:ws.length<=10:=by lia
 generalize hc:(ws.length:Int)=c at *
 refine⟨_,rfl,L,rfl,by lia,by lia,fun i ρ=>∃ (y4 y5 y6:Option Slot) (ls:List (Int × Int)),ρ = [some (.sh true (.tup (intz ws))),si L,si c,some (.own (.lst (aU ls))),y4,y5,y6]/\fJ (c * L) c ((i:Int) * c) ls,
  ⟨none,none,none,[],?_,by rw [show ((0:Nat):Int) * c=0 by lia]; exact .nil⟩,?_,?_⟩
 ·show [some (Slot.sh (flat (.tup (intz ws))) (.tup (intz ws))),_,_,_,_,_,_]=_
  rw [qF]; rfl
 ·rintro i y ρ hy ⟨y4,y5,y6,ls,rfl,g⟩
  obtain ⟨rfl,hi⟩:=qE hy
  rw [show (0:Int)+(i:Int)=(i:Int) by lia]
  have i0:0<=(i:Int) * c:=Int.mul_nonneg (by lia) (by lia)
  have ib:(i:Int) * c<=80:=by rcases hw with rfl | rfl <;> lia
  refine⟨_,rfl,c,rfl,by lia,by lia,fun j ρ=>∃ (y5 y6:Option Slot) (ls:List (Int × Int)),ρ = [some (.sh true (.tup (intz ws))),si L,si c,some (.own (.lst (aU ls))),si i,y5,y6]/\fJ (c * L) c ((i:Int) * c+(j:Int)) ls,
   ⟨y5,y6,ls,rfl,by rw [show (i:Int) * c+((0:Nat):Int)=(i:Int) * c by lia]; exact g⟩,?_,?_⟩
  ·rintro j y ρ hy ⟨z5,z6,ls2,rfl,g2⟩
   obtain ⟨rfl,hj⟩:=qE hy
   rw [show (0:Int)+(j:Int)=(j:Int) by lia]
   have hjc:(j:Int) < c:=by lia
   have c1:((j:Int)+1 < c)=((((i:Int) * c+(j:Int))+1) % c > 0):=by
    refine propext ?_
    rcases hw with rfl | rfl <;> lia
   have c2:((i:Int)+1 < L)=((i:Int) * c+(j:Int) < c * L - c):=by
    refine propext ?_
    rcases hw with rfl | rfl <;> lia
   have st:=g2.step (by lia) hw
   have gl:ls2.length<=200:=by have:=g2.len; lia
   refine⟨_,rfl,_,rfl,_,_,rfl,rfl,.inl ⟨by lia,by lia⟩,_,rfl,_,_,rfl,rfl,trivial,?_⟩
   dsimp only
   have ej:(i:Int) * c+((j+1:Nat):Int)=(i:Int) * c+(j:Int)+1:=by lia
   rw [<- ej] at st
   generalize (i:Int) * c+((j+1:Nat):Int)=h' at *
   generalize (i:Int) * c+(j:Int)=h at *
   refine⟨_,rfl,_,_,rfl,rfl,_,rfl,_,_,rfl,rfl,_,rfl,?_⟩
   show if decide ((j:Int)+1 < c)=true then _ else _
   have two:∀ ls3:List (Int × Int),ls3=ls2 ++ dX c h->(bU (aT (g6 (cB (a6 4) (qC (.int 1))) (a6 1))) (iR 3 (cU (a8 (a6 6) (a8 (cB (a6 6) (a6 2)) aC)))) bT) { nx:=fun ρ=>∃ (y5 y6:Option Slot) (ls:List (Int × Int)),ρ = [some (.sh true (.tup (intz ws))),si L,si c,some (.own (.lst (aU ls))),si i,y5,y6]/\fJ (c * L) c h' ls,rt:=Q } [some (.sh true (.tup (intz ws))),si L,si c,some (.own (.lst (aU ls3))),si i,si j,si h]:=by
    rintro ls3 rfl
    refine⟨_,rfl,_,_,rfl,rfl,_,rfl,_,_,rfl,rfl,_,rfl,?_⟩
    show if decide ((i:Int)+1 < L)=true then _ else _
    by_cases t:(i:Int)+1 < L
    ·rw [ap7 t]
     have e2:fL (c * L) c h = [(h,h+c)]:=by unfold fL; rw [if_pos (by rw [<- c2]; exact t)]
     rw [e2] at st
     have l1:(dX c h).length<=1:=by unfold dX; split <;> simp
     refine bI ⟨_,rfl,_,rfl,_,rfl,_,rfl,_,_,rfl,rfl,by show 2<=1000; decide,rfl,trivial,by rw [mO,ar4]; lia,si j,si h,ls2 ++ dX c h ++ [(h,h+c)],?_,st⟩
     unfold aU
     rw [at5 (l₂:=[(h,h+c)])]; rfl
    ·rw [ao5 t]
     have e2:fL (c * L) c h = []:=by unfold fL; rw [if_neg (by rw [<- c2]; exact t)]
     rw [e2,as5] at st
     exact aS ⟨si j,si h,ls2 ++ dX c h,rfl,st⟩
   by_cases t:(j:Int)+1 < c
   ·rw [ap7 t]
    refine bI ⟨_,rfl,_,rfl,_,rfl,_,_,rfl,rfl,by show 2<=1000; decide,rfl,trivial,by rw [mO]; lia,?_⟩
    have:=two (ls2 ++ [(h,h+1)]) (by unfold dX; rw [if_pos (by rw [<- c1]; exact t)])
    have e:aU (ls2 ++ [(h,h+1)])=aU ls2 ++ [.tup [.int h,.int (h+1)]]:=by unfold aU; rw [at5]; rfl
    rw [e] at this
    exact this
   ·rw [ao5 t]
    have:=two ls2 (by unfold dX; rw [if_neg (by rw [<- c1]; exact t),as5])
    exact aS this
  ·rintro ρ ⟨z5,z6,ls2,rfl,g2⟩
   rw [fB] at g2
   refine⟨_,z5,z6,ls2,rfl,?_⟩
   rw [show ((i+1:Nat):Int) * c=(i:Int) * c+((c.toNat:Nat):Int) by rw [show ((i+1:Nat):Int)=(i:Int)+1 by lia,Int.add_mul,Int.one_mul]; lia]
   exact g2
 ·rintro ρ ⟨y4,y5,y6,ls,rfl,g⟩
  rw [fB,show ((L.toNat:Nat):Int) * c=c * L by rw [show ((L.toNat:Nat):Int)=L by lia,Int.mul_comm]] at g
  have m0:0<=c * L:=Int.mul_nonneg (by lia) l0
  have gl:=g.len
  have ml:c * L<=80:=by rcases hw with rfl | rfl <;> lia
  have nd:=rA g.ord
  refine⟨_,rfl,⟨_,_,rfl,rfl,bN _,_,rfl,_,L,rfl,rfl,bN _,nE,l0,by lia,by rw [bR]; exact wl,?_⟩,fun ns z=>by cases z⟩
  rw [rK]
  refine⟨_,rfl,ls.map two,by rw [kF]; rfl,by rw [ap9]; lia,fun r hr=>by obtain ⟨l,_,rfl⟩:=ay4.mp hr; rfl,fun Z pz so=>?_⟩
  obtain ⟨l2,rfl,pp⟩:=w5 pz
  have el:l2=ls:=rB pp (w6 so (pp.nodup_iff.mpr nd)) g.ord
  subst el
  rw [show ((l2.map two).map fun r=>PV.tup (intz r))=aU l2 from (kF _).symm]
  refine⟨⟨_,_,rfl,rfl,iD _,by show 2<=1000; decide,?_,trivial,?_⟩,fun ns z=>by cases z⟩
  ·exact ab8 _ _
  ·have:=q l2 g.ord fun l=>g.all (by lia) m0 l
   exact this
noncomputable def kN (k w:Int):Int:=if k=0 then bH w else if k=1 then bH w else if k=2 then 300 else if k=3 then 60 else 300
noncomputable abbrev y3 (a b c:Bool):PV:=.lst [.bl a,.bl b,.bl c]
noncomputable def jD:c8:=fun xs Q=>∃ (k:Int) (x:PV) (ws:List Int) (L:Int),xs = [.int k,x,.int L]/\0<=k/\k < 5/\cL x ws/\((¬ (cA ws/\0<=L)/\Q (y3 true false true)) ∨ (cA ws/\0<=L/\kN k ws.length < L/\Q (y3 false true true)))
noncomputable def y7:aL:=(aM (bP 3 (qC .non))
 (aM (qR "HearthError" 4 (kI (aT (hV (a6 0) (qC (.int 0)))) (jA iI (a8 (a6 1) (a8 (a6 2) aC))) (kI (aT (hV (a6 0) (qC (.int 1)))) (jA nG (a8 (a6 1) (a8 (a6 2) aC))) (kI (aT (hV (a6 0) (qC (.int 2)))) (jA nH (a8 (a6 1) (a8 (a6 2) aC))) (kI (aT (hV (a6 0) (qC (.int 3)))) (jA nI (a8 (a6 1) (a8 (a6 2) aC))) (jA nJ (a8 (a6 1) (a8 (a6 2) aC))))))) (bP 3 (fW (a8 (jC "BadBoard" (a6 4)) (a8 (jC "TooMany" (a6 4)) (a8 (jC "ValueError" (a6 4)) aC))))))
 (p9 3)))
theorem ak1:gC y7 ["which","wants","length","kinds","e"] jD:=by
 rintro xs Q ⟨k,x,ws,L,rfl,k0,k5,hx,h⟩
 refine⟨trivial,?_⟩
 rcases (show k=0 ∨ k=1 ∨ k=2 ∨ k=3 ∨ k=4 by lia) with rfl | rfl | rfl | rfl | rfl
 ·refine⟨_,rfl,.inl ⟨_,_,rfl,rfl,_,rfl,bI ⟨_,rfl,_,rfl,x,ws,L,rfl,hx,fun no=>?_,fun ok l0 lt=>?_,fun ok l0 le=>?_⟩⟩⟩
  ·rcases h with ⟨_,q⟩ | ⟨o,l,_⟩
   ·exact⟨by decide,_,rfl,true,(by decide),_,rfl,false,(by decide),_,rfl,true,(by decide),by show 3<=1000; decide,rfl,trivial,_,rfl,trivial,q⟩
   ·exact absurd ⟨o,l⟩ no
  ·rcases h with ⟨no,q⟩ | ⟨o,l,_,q⟩
   ·exact absurd ⟨ok,l0⟩ no
   ·exact⟨by decide,_,rfl,false,(by decide),_,rfl,true,(by decide),_,rfl,true,(by decide),by show 3<=1000; decide,rfl,trivial,_,rfl,trivial,q⟩
  ·rcases h with ⟨no,q⟩ | ⟨o,l,lt,q⟩
   ·exact absurd ⟨ok,l0⟩ no
   ·exact absurd le (Int.not_le.mpr lt)
 ·refine⟨_,rfl,.inl ⟨_,_,rfl,rfl,_,rfl,aS ⟨_,rfl,.inl ⟨_,_,rfl,rfl,_,rfl,bI ⟨_,rfl,_,rfl,x,ws,L,rfl,hx,fun no=>?_,fun ok l0=>?_⟩⟩⟩⟩⟩
  ·rcases h with ⟨_,q⟩ | ⟨o,l,_⟩
   ·exact⟨by decide,_,rfl,true,(by decide),_,rfl,false,(by decide),_,rfl,true,(by decide),by show 3<=1000; decide,rfl,trivial,_,rfl,trivial,q⟩
   ·exact absurd ⟨o,l⟩ no
  ·rcases h with ⟨no,q⟩ | ⟨o,l,lt,q⟩
   ·exact absurd ⟨ok,l0⟩ no
   ·exact⟨lt,by decide,_,rfl,false,(by decide),_,rfl,true,(by decide),_,rfl,true,(by decide),by show 3<=1000; decide,rfl,trivial,_,rfl,trivial,q⟩
 ·refine⟨_,rfl,.inl ⟨_,_,rfl,rfl,_,rfl,aS ⟨_,rfl,.inl ⟨_,_,rfl,rfl,_,rfl,aS ⟨_,rfl,.inl ⟨_,_,rfl,rfl,_,rfl,bI ⟨_,rfl,_,rfl,x,ws,L,rfl,hx,fun no=>?_,fun ok l0=>?_⟩⟩⟩⟩⟩⟩⟩
  ·rcases h with ⟨_,q⟩ | ⟨o,l,_⟩
   ·exact⟨by decide,_,rfl,true,(by decide),_,rfl,false,(by decide),_,rfl,true,(by decide),by show 3<=1000; decide,rfl,trivial,_,rfl,trivial,q⟩
   ·exact absurd ⟨o,l⟩ no
  ·rcases h with ⟨no,q⟩ | ⟨o,l,lt,q⟩
   ·exact absurd ⟨ok,l0⟩ no
   ·exact⟨lt,by decide,_,rfl,false,(by decide),_,rfl,true,(by decide),_,rfl,true,(by decide),by show 3<=1000; decide,rfl,trivial,_,rfl,trivial,q⟩
 ·refine⟨_,rfl,.inl ⟨_,_,rfl,rfl,_,rfl,aS ⟨_,rfl,.inl ⟨_,_,rfl,rfl,_,rfl,aS ⟨_,rfl,.inl ⟨_,_,rfl,rfl,_,rfl,aS ⟨_,rfl,.inl ⟨_,_,rfl,rfl,_,rfl,bI ⟨_,rfl,_,rfl,x,ws,L,rfl,hx,fun no=>?_,fun ok l0=>?_⟩⟩⟩⟩⟩⟩⟩⟩⟩
  ·rcases h with ⟨_,q⟩ | ⟨o,l,_⟩
   ·exact⟨by decide,_,rfl,true,(by decide),_,rfl,false,(by decide),_,rfl,true,(by decide),by show 3<=1000; decide,rfl,trivial,_,rfl,trivial,q⟩
   ·exact absurd ⟨o,l⟩ no
  ·rcases h with ⟨no,q⟩ | ⟨o,l,lt,q⟩
   ·exact absurd ⟨ok,l0⟩ no
   ·exact⟨lt,by decide,_,rfl,false,(by decide),_,rfl,true,(by decide),_,rfl,true,(by decide),by show 3<=1000; decide,rfl,trivial,_,rfl,trivial,q⟩
 ·refine⟨_,rfl,.inl ⟨_,_,rfl,rfl,_,rfl,aS ⟨_,rfl,.inl ⟨_,_,rfl,rfl,_,rfl,aS ⟨_,rfl,.inl ⟨_,_,rfl,rfl,_,rfl,aS ⟨_,rfl,.inl ⟨_,_,rfl,rfl,_,rfl,aS ⟨_,rfl,_,rfl,x,ws,L,rfl,hx,fun no=>?_,fun ok l0=>?_⟩⟩⟩⟩⟩⟩⟩⟩⟩
  ·rcases h with ⟨_,q⟩ | ⟨o,l,_⟩
   ·exact⟨by decide,_,rfl,true,(by decide),_,rfl,false,(by decide),_,rfl,true,(by decide),by show 3<=1000; decide,rfl,trivial,_,rfl,trivial,q⟩
   ·exact absurd ⟨o,l⟩ no
  ·rcases h with ⟨no,q⟩ | ⟨o,l,lt,q⟩
   ·exact absurd ⟨ok,l0⟩ no
   ·exact⟨lt,by decide,_,rfl,false,(by decide),_,rfl,true,(by decide),_,rfl,true,(by decide),by show 3<=1000; decide,rfl,trivial,_,rfl,trivial,q⟩
noncomputable def rN:c8:=wA
noncomputable abbrev y8:aA:=(fW (a8 (qC (.bl true)) (a8 (qC (.bl false)) (a8 (qC (.bl true)) aC))))
noncomputable abbrev ak2:aA:=(fW (a8 (qC (.bl false)) (a8 (qC (.bl true)) (a8 (qC (.bl true)) aC))))
theorem nM (ws:List Int) (ls:List (Int × Int)):bK 3 (dH ws ls) (dH ws ls)=true/\b7 3 (dH ws ls) (dH ws ls)=true:=by
 have a1:bK 2 (.tup (intz ws)) (.tup (intz ws))=true:=uI 1 ws ws
 have a2:b7 2 (.tup (intz ws)) (.tup (intz ws))=true:=by rw [uG 1,ap7 rfl]
 have b1:bK 2 (.tup (tups (ls.map two))) (.tup (tups (ls.map two)))=true:=wW 0 (ls.map two) (ls.map two)
 have b2:b7 2 (.tup (tups (ls.map two))) (.tup (tups (ls.map two)))=decide (ls.map two=ls.map two):=ae8 0 (ls.map two) (ls.map two)
 rw [ap7 rfl] at b2
 have ep:tups (ls.map two)=aU ls:=(kF ls).symm
 rw [ep] at b1 b2
 constructor
 ·show (bK 2 (.tup (intz ws)) (.tup (intz ws)) && (bK 2 (.tup (aU ls)) (.tup (aU ls)) && true))=true
  rw [a1,b1]; rfl
 ·show ((b7 2 (.tup (intz ws)) (.tup (intz ws)) && (b7 2 (.tup (aU ls)) (.tup (aU ls)) && true)) && true)=true
  rw [a2,b2]; rfl
noncomputable def y9:aL:=(aM (p7 8 (fC (gY (qC (.int 5))) (cX 10)
  (aM (fC (gX (a6 8)) (cX 11)
   (fC (gX (fW (a8 (a6 3) (a8 (lS (lR (qC (.int 1))) (a6 6)) (a8 (cB (jR (a6 9) (a6 10)) (qC (.int 1))) aC))))) (cX 12)
    (bU (aT (q2 (hG 2 true) (aK jD (a8 (a6 10) (a8 (a6 11) (a8 (a6 12) aC)))) y8)) (c7 (qC (.bl false))) bT)))
  (aM (bU (aT (q2 (hG 2 true) (aK jD (a8 (a6 10) (a8 (a6 1) (a8 (lS (lR (qC (.int 1))) (a6 6)) aC)))) y8)) (c7 (qC (.bl false))) bT)
  (bU (aT (q2 (hG 2 true) (aK jD (a8 (a6 10) (a8 (a6 1) (a8 (cB (cB (jR (a6 9) (a6 10)) (qC (.int 1))) (a6 6)) aC)))) ak2)) (c7 (qC (.bl false))) bT)))))
 (c7 (qC (.bl true))))
noncomputable def yA:aL:=(aM (bP 6 (eN (fZ (aK iE (a8 (a6 0) (a8 (qC (.int 2)) aC))) (qC (.int 6))) (S9 (qC (.int 10)) (qC (.int 30)))))
 (aM (bP 7 (eN (aK iE (a8 (a6 0) (a8 (qC (.int 2)) aC))) (aK eB (a8 (a6 1) aC))))
 (aM (lL 8 (fW (a8 (cU aC) (a8 (aa7 (hU (a6 1) hI (hJ (qC (.int 1)))) (qC (.int 3))) (a8 (kG (kG (hU (a6 1) hI (hJ (a6 7))) (cU (a8 (lS (lR (qC (.int 1))) (a6 6)) aC))) (hU (a6 1) (hJ (cB (a6 7) (qC (.int 1)))) hI)) aC)))))
 (aM (iR 8 (kG (kG (hU (a6 1) hI (hJ (a6 7))) (cU (a8 (cB (qC (.int 7)) (a6 6)) aC))) (hU (a6 1) (hJ (cB (a6 7) (qC (.int 1)))) hI)))
 (aM (bP 9 (fW (a8 (a6 2) (a8 (a6 2) (a8 (qC (.int 300)) (a8 (qC (.int 60)) (a8 (qC (.int 300)) aC)))))))
 y9)))))
noncomputable def yB:aL:=(aM (fC (gX (jR (a6 4) (qC (.int 0)))) (cX 5)
  (bU (iP (aT (aK mP (a8 (a6 5) aC)))) (c7 (qC (.bl false))) bT))
 (aM (bU (aT (q2 (hG 2 true) (aK (iI fun _=>False) (a8 (aK lM (a8 (a6 1) aC)) (a8 (a6 3) aC))) (a6 4))) (c7 (qC (.bl false))) bT)
 yA))
noncomputable def yC (K:PySem.W.Frag):aL:=(aM (bP 1 (aK nK (a8 (aK iE (a8 (a6 0) (a8 (qC (.int 0)) aC))) aC)))
 (aM (bP 2 (fZ (qC (.int 40)) (aK eB (a8 (a6 1) aC))))
 (aM (bP 3 (eN (aK iE (a8 (a6 0) (a8 (qC (.int 1)) aC))) (cB (a6 2) (qC (.int 1)))))
 (aM (bP 4 (aK (iI fun _=>False) (a8 (a6 1) (a8 (a6 3) aC))))
 (aM (bU (fV (aT (q2 (hG 2 true) (a6 4) (aK nL (a8 (a6 1) (a8 (a6 3) aC))))) (fV (iP (aT (gK K "tuple" (a6 4)))) (iP (aT (gK K "tuple" (jR (a6 4) (qC (.int 1)))))))) (c7 (qC (.bl false))) bT)
 yB)))))
section
variable {ws : List Int} {L f pl : Int} {W : PV} {Q : PV → Prop} {wr : List (List Int)} {y0 y5 : Option Slot}
theorem ak3 (w:Int) (i:Nat) (h:i < 5):L2.atI (intz [bH w,bH w,300,60,300]) (i:Int)=some (.int (kN i w)):=by
 rcases (show i=0 ∨ i=1 ∨ i=2 ∨ i=3 ∨ i=4 by lia) with rfl | rfl | rfl | rfl | rfl <;> rfl
theorem ak4 {ws:List Int} (ok:cA ws) (i:Int):0<=kN i ws.length:=by
 have:0<=bH ws.length:=Int.ediv_nonneg (by decide) (by lia)
 unfold kN
 split
 ·exact this
 split
 ·exact this
 split
 ·decide
 split <;> decide
theorem ak5 (ok:cA ws) (l0:0<=L) (f0:0<=f) (hw:∀ r ∈ wr,¬ cA r) (wl:wr.length<=10) (q:Q (.bl true)) :
  y9 { nx:=fun _=>Q .non,rt:=Q } [y0,some (.sh true (.tup (intz ws))),si (bH ws.length),si L,some (.sh true W),y5,si f,si pl,some (.own (.lst (tups wr))),some (.sh true (.lst (intz [bH ws.length,bH ws.length,300,60,300]))),none,none,none]:=by
 refine⟨_,rfl,5,rfl,by decide,by decide,fun i ρ=>∃ y10 y11 y12:Option Slot,ρ = [y0,some (.sh true (.tup (intz ws))),si (bH ws.length),si L,some (.sh true W),y5,si f,si pl,some (.sh true (.lst (tups wr))),some (.sh true (.lst (intz [bH ws.length,bH ws.length,300,60,300]))),y10,y11,y12],⟨none,none,none,rfl⟩,?_,?_⟩
 ·rintro i y ρ hy ⟨y10,y11,y12,rfl⟩
  obtain ⟨rfl,hi⟩:=qE hy
  rw [show (0:Int)+(i:Int)=(i:Int) by lia]
  have i5:i < 5:=by lia
  have ba:=ak3 ws.length i i5
  have bp:=ak4 ok (i:Int)
  refine⟨_,rfl,tups wr,rfl,(fun z=>by cases z),fun _ ρ=>∃ y11 y12:Option Slot,ρ = [y0,some (.sh true (.tup (intz ws))),si (bH ws.length),si L,some (.sh true W),y5,si f,si pl,some (.sh true (.lst (tups wr))),some (.sh true (.lst (intz [bH ws.length,bH ws.length,300,60,300]))),si i,y11,y12],⟨y11,y12,rfl⟩,?_,?_⟩
  ·rintro j y ρ hy ⟨z11,z12,rfl⟩
   obtain ⟨r,rfl,hr⟩:=aa6 hy
   have no:=hw r (aA0 hr)
   refine⟨_,rfl,_,rfl,_,rfl,_,_,rfl,rfl,_,rfl,_,rfl,_,_,_,rfl,rfl,ba,_,_,rfl,rfl,by show 3<=1000; decide,rfl,intz [L,-1 - f,kN i ws.length+1],rfl,(fun z=>by cases z),fun _ ρ=>∃ y12:Option Slot,ρ = [y0,some (.sh true (.tup (intz ws))),si (bH ws.length),si L,some (.sh true W),y5,si f,si pl,some (.sh true (.lst (tups wr))),some (.sh true (.lst (intz [bH ws.length,bH ws.length,300,60,300]))),si i,some (.sh true (.tup (intz r))),y12],⟨z12,rfl⟩,?_,?_⟩
   ·rintro k y ρ hy ⟨z12,rfl⟩
    obtain ⟨o,rfl,ho⟩:=kB hy
    refine qO ?_
    exact⟨_,rfl,_,rfl,_,rfl,(i:Int),_,r,o,rfl,by lia,by lia,.inl rfl,.inl ⟨fun z=>no z.1,by show 3<=1000; decide,rfl,.inr ⟨_,_,rfl,rfl⟩,by decide,_,rfl,aS ⟨si o,rfl⟩⟩⟩
   ·rintro ρ ⟨z12,rfl⟩
    exact⟨_,z12,rfl⟩
  ·rintro ρ ⟨z11,z12,rfl⟩
   refine⟨_,rfl,_,rfl,_,rfl,_,rfl,_,_,rfl,rfl,(i:Int),_,ws,-1 - f,rfl,by lia,by lia,.inl rfl,.inl ⟨fun z=>by lia,by show 3<=1000; decide,rfl,.inr ⟨_,_,rfl,rfl⟩,by decide,_,rfl,aS ?_⟩⟩
   refine⟨_,rfl,_,rfl,_,rfl,_,rfl,_,_,_,rfl,rfl,ba,_,_,rfl,rfl,_,rfl,_,_,rfl,rfl,(i:Int),_,ws,_,rfl,by lia,by lia,.inl rfl,.inr ⟨ok,by lia,by lia,by show 3<=1000; decide,rfl,.inr ⟨_,_,rfl,rfl⟩,by decide,_,rfl,aS ⟨_,z11,z12,rfl⟩⟩⟩
 ·rintro ρ ⟨y10,y11,y12,rfl⟩
  exact⟨trivial,q⟩
theorem ak6 (a b c:Int) (r:List Int) : ¬ cA (a :: b :: c :: r):=fun z=>by have:=z.2.1; simp only [au7] at this; lia
theorem yD {a:Int}{u v:List Int} (h : ¬ (0<=a/\a<=6)) : ¬ cA (u ++ [a] ++ v):=fun z=>h (z.2.2 a (ax4 _ (ar0 _ aq9)))
theorem ak7 {ns:List Int} (ok:cA ws) (l0:0<=L) (q:Q (.bl true)) :
  yA { nx:=fun _=>Q .non,rt:=Q } [some (.sh true (.scr ns)),some (.sh true (.tup (intz ws))),si (bH ws.length),si L,some (.sh true W),y5,none,none,none,none,none,none,none]:=by
 have w1:1<=(ws.length:Int):=by have:=List.length_pos_iff.mpr ok.1; lia
 have w2:ws.length<=2:=ok.2.1
 refine⟨_,rfl,_,ns,2,rfl,.inl rfl,by decide,_,_,rfl,rfl,⟨by decide,by decide⟩,_,_,rfl,rfl,⟨by decide,by decide,by decide⟩,_,_,rfl,rfl,(by show (0:Int) < 10 ^ (30:Int).toNat; decide),trivial,?_⟩
 dsimp only
 have f0:0<=ns.getD (2:Int).toNat 0 / 6 % 10 ^ (30:Int).toNat:=Int.emod_nonneg _ (by decide)
 generalize ns.getD (2:Int).toNat 0 / 6 % 10 ^ (30:Int).toNat=f at f0
 refine⟨_,rfl,_,ns,2,rfl,.inl rfl,by decide,_,rfl,_,_,rfl,rfl,_,_,rfl,rfl,by show (0:Int) < ((intz ws).length:Int); rw [bR]; lia,trivial,?_⟩
 rw [bR]
 dsimp only
 have p0:0<=ns.getD (2:Int).toNat 0 % (ws.length:Int):=Int.emod_nonneg _ (by lia)
 generalize ns.getD (2:Int).toNat 0 % (ws.length:Int)=p at p0
 have s1:seqT (.tup (intz ws))=some (intz ws):=rfl
 refine⟨by decide,rfl,_,rfl,1,rfl,intz ws,rfl,bN _,?_⟩
 rw [ad3]
 refine⟨intz (ws.take 1),3,rfl,rfl,bN _,(fun z=>by have:=congrArg List.length z; rw [bR,ay6] at this; simp only [List.length_nil] at this; lia),by decide,by decide,by rw [bR,ay6]; lia,?_⟩
 rw [rK]
 refine⟨_,rfl,_,rfl,p,rfl,intz ws,rfl,bN _,?_⟩
 rw [wI p0]
 have tl:(ws.take p.toNat).length<=ws.length:=by rw [ay6]; lia
 have dl:(ws.drop (p+1).toNat).length<=ws.length:=by rw [av6]; lia
 refine⟨1,rfl,_,rfl,_,_,rfl,rfl,by show 1<=1000; decide,rfl,intz (ws.take p.toNat),intz [-1 - f],rfl,rfl,bN _,bN _,by rw [bR]; show _+1<=_; lia,?_⟩
 rw [<- kC]
 refine⟨_,rfl,_,rfl,_,_,rfl,rfl,p+1,rfl,intz ws,rfl,bN _,?_⟩
 rw [w9 ws (by lia)]
 refine⟨intz (ws.take p.toNat ++ [-1 - f]),intz (ws.drop (p+1).toNat),rfl,rfl,bN _,bN _,by rw [bR,bR,ar4]; show _+1+_<=_; lia,?_⟩
 rw [<- kC]
 refine⟨by show 3<=1000; decide,qG [[],(List.replicate (3:Int).toNat (ws.take 1)).flatten,ws.take p.toNat ++ [-1 - f] ++ ws.drop (p+1).toNat],rfl,qG [[],(List.replicate (3:Int).toNat (ws.take 1)).flatten,ws.take p.toNat ++ [-1 - f] ++ ws.drop (p+1).toNat],?_⟩
 refine⟨_,rfl,_,rfl,_,rfl,p,rfl,intz ws,rfl,bN _,?_⟩
 rw [wI p0]
 refine⟨_,rfl,_,_,rfl,rfl,by show 1<=1000; decide,rfl,intz (ws.take p.toNat),intz [7+f],rfl,rfl,bN _,bN _,by rw [bR]; show _+1<=_; lia,?_⟩
 rw [<- kC]
 refine⟨_,rfl,_,rfl,_,_,rfl,rfl,p+1,rfl,intz ws,rfl,bN _,?_⟩
 rw [w9 ws (by lia)]
 refine⟨intz (ws.take p.toNat ++ [7+f]),intz (ws.drop (p+1).toNat),rfl,rfl,bN _,bN _,by rw [bR,bR,ar4]; show _+1+_<=_; lia,?_⟩
 rw [<- kC]
 refine⟨aa9 _ _,by show 3 < _; decide,?_⟩
 refine⟨_,rfl,_,rfl,by show 5<=1000; decide,rfl,trivial,?_⟩
 refine ak5 (wr:=[[],(List.replicate (3:Int).toNat (ws.take 1)).flatten,ws.take p.toNat ++ [-1 - f] ++ ws.drop (p+1).toNat,ws.take p.toNat ++ [7+f] ++ ws.drop (p+1).toNat]) ok l0 f0 (fun r hr=>?_) (by show 4<=10; decide) q
 rcases ap0.mp hr with rfl | hr
 ·exact fun z=>z.1 rfl
 rcases ap0.mp hr with rfl | hr
 ·cases hws:ws with
  | nil=>exact absurd hws ok.1
  | cons a r=>exact ak6 a a a []
 rcases ap0.mp hr with rfl | hr
 ·exact yD (by lia)
 ·rw [aq3.mp hr]
  exact yD (by lia)
theorem ak8 {ns:List Int}{ls:List (Int × Int)} (ok:cA ws) (l0:0<=L) (le:L<=bH ws.length) (pp:ls.Perm (cF ((ws.length:Int) * L).toNat ws.length ++ cG ((ws.length:Int) * L) ws.length)) (ord:ls.Pairwise c9) (q:Q (.bl true)) :
  yB { nx:=fun _=>Q .non,rt:=Q } [some (.sh true (.scr ns)),some (.sh true (.tup (intz ws))),si (bH ws.length),si L,some (.sh true (dH (dW ws L) ls)),none,none,none,none,none,none,none,none]:=by
 refine⟨_,rfl,_,_,_,rfl,rfl,rfl,intz (dW ws L),rfl,(fun z=>by cases z),fun _ ρ=>∃ y5:Option Slot,ρ = [some (.sh true (.scr ns)),some (.sh true (.tup (intz ws))),si (bH ws.length),si L,some (.sh true (dH (dW ws L) ls)),y5,none,none,none,none,none,none,none],⟨none,rfl⟩,?_,?_⟩
 ·rintro j y ρ hy ⟨y5,rfl⟩
  obtain ⟨o,rfl,ho⟩:=kB hy
  refine qO ?_
  exact⟨_,rfl,_,rfl,_,rfl,aS ⟨si o,rfl⟩⟩
 ·rintro ρ ⟨y5,rfl⟩
  refine⟨_,rfl,_,_,rfl,rfl,bN _,_,rfl,_,ws,L,rfl,.inr rfl,(fun z=>z ⟨ok,l0⟩),(fun _ _ lt=>absurd lt (Int.not_lt.mpr le)),fun _ _ _ ls2 p2 o2=>?_⟩
  have e:ls2=ls:=rB (p2.trans pp.symm) o2 ord
  subst e
  refine⟨_,rfl,.inl ⟨_,_,rfl,rfl⟩,(nM _ _).1,_,rfl,?_⟩
  show if (!b7 3 (dH (dW ws L) ls2) (dH (dW ws L) ls2))=true then _ else _
  rw [(nM _ _).2]
  exact aS (ak7 ok l0 q)
end
theorem ak9 {K:PySem.W.Frag} (kt:PySem.W.kitOne K (.type "tuple") (.type "tuple")=some true):gC (yC K) ["script","wants","most","length","found","want","far","place","wrong","bounds","which","some","odd"] rN:=by
 rintro xs Q ⟨ns,rfl,hl,q⟩
 refine⟨_,rfl,_,ns,0,rfl,.inl rfl,by decide,_,rfl,fun ws ok=>⟨trivial,?_⟩⟩
 have w1:1<=(ws.length:Int):=by have:=List.length_pos_iff.mpr ok.1; lia
 have w2:ws.length<=2:=ok.2.1
 refine⟨_,rfl,_,_,rfl,rfl,_,_,rfl,rfl,⟨by show (0:Int) < ((intz ws).length:Int); rw [bR]; lia,by rw [bR]; lia⟩,trivial,?_⟩
 rw [bR]
 dsimp only
 have m0:0<=40 / (ws.length:Int):=Int.ediv_nonneg (by decide) (by lia)
 refine⟨_,rfl,_,ns,1,rfl,.inl rfl,by decide,_,rfl,_,_,rfl,rfl,_,_,rfl,rfl,by show (0:Int) < 40 / (ws.length:Int)+1; lia,trivial,?_⟩
 dsimp only
 have l0:=Int.emod_nonneg (ns.getD (1:Int).toNat 0) (show 40 / (ws.length:Int)+1 ≠ 0 by lia)
 have l1:=Int.emod_lt_of_pos (ns.getD (1:Int).toNat 0) (show 0 < 40 / (ws.length:Int)+1 by lia)
 generalize ns.getD (1:Int).toNat 0 % (40 / (ws.length:Int)+1)=L at l0 l1
 have le:L<=bH ws.length:=by unfold bH; lia
 have l40:L<=40:=by
  rcases (show (ws.length:Int)=1 ∨ (ws.length:Int)=2 by lia) with h | h <;> rw [h] at l1 <;> lia
 refine⟨_,rfl,_,rfl,_,ws,L,rfl,.inl rfl,(fun z=>z ⟨ok,l0⟩),(fun _ _ lt=>absurd lt (Int.not_lt.mpr le)),fun _ _ _ ls pp ord=>⟨trivial,?_⟩⟩
 refine⟨_,rfl,_,rfl,_,rfl,ws,L,rfl,ok,l0,l40,fun ls2 o2 mem=>?_⟩
 have e:ls2=ls:=rB ((List.perm_ext_iff_of_nodup (rA o2) (rA ord)).mpr fun l=>by rw [mem l,pp.mem_iff]) o2 ord
 subst e
 refine⟨.inl ⟨_,_,rfl,rfl⟩,(nM _ _).1,_,rfl,?_⟩
 show if (!b7 3 (dH (dW ws L) ls2) (dH (dW ws L) ls2))=true then _ else _
 rw [(nM _ _).2]
 refine aS ⟨_,rfl,_,_,rfl,kt,_,rfl,aS ⟨_,rfl,_,_,_,rfl,rfl,rfl,_,_,rfl,kt,_,rfl,aS ?_⟩⟩
 exact ak8 ok l0 le pp ord q
end Core
namespace K_k81
open PySem PySem.W L2 PP Core
theorem _root_.L2.FnScope.au {N P:List Str}{s:Scope} (a:s.kind=.function:=by rfl) (b:s.isCoroutine=false:=by rfl) (c:s.isGenerator=false:=by rfl) (d:N.Nodup:=by decide +kernel) (e:N.take P.length=P:=by rfl) (f:∀ x∈P,s.names.lookup x=some .local∨s.names.lookup x=some .cell:=by decide +kernel) (g:∀ y∈s.names,y.2≠.free:=by decide +kernel):FnScope N P s:=⟨a,b,c,d,e,f,g⟩
noncomputable def aW (i:Nat):Stmt:=PySem.Challenge.pw_kindleweb_k81_strips_made.main.body.getD i (.Pass ⟨0,0,0,0⟩)
structure FK (K:Frag) (n:Str) (i:Nat) (f:Addr) (d:FuncData):Prop where
 a:nsIn K mainGlobals n=some (some (.ref f))
 F:dJ K n n (aW i) f d
structure FM (K:Frag) (mg:Str->Option Value) (n:Str) (i:Nat) (f:Addr) (d:FuncData):Prop where
 F:dJ K n n (aW i) f d
 m:mg n=some (.ref f)
theorem FK.M {K:Frag}{mg:Str->Option Value}{n:Str}{i:Nat}{f:Addr}{d:FuncData}{h:Heap} (z:FK K n i f d) (X:K.In h) (G:h.Ns mainGlobals mg):FM K mg n i f d:=⟨z.F,mg_of X G z.a⟩
noncomputable abbrev Hb (x:Str) (ps:List Str) (i:Nat):Prop:=∀ (kV doc pm:Value) (an:Option Addr) (cdv ct:Value) (us:List Value),us.length=ps.length->bindArgs (fnOf x x (fR (aW i)) (cS (aW i)) (aO (aW i)) .none kV doc pm an cdv ct) ⟨us,[]⟩=pure (ps.zip us)
theorem al0 {A:Around}{k:Nat} (hr:bB k A):A.units+3 < cLine:=by have:=hr.units; lia
section
variable {P : Program} {w : World} {K : Frag} {mg : Str → Option Value} {base : Heap} {f : Addr} {fd : FuncData} {k i : Nat} {x : Str} {ps N : List Str}
theorem Df.au {p:c8} (F:FM K mg x i f fd) (S:FnScope N ps (aO (aW i))) (body:∀ (cdv:Value) (A:Around) (outer:List Env) (s:Shared) (H:Hp) (E:XK),bB k (A.deeper (PyProof.Rows.envOfC x (aO (aW i)) s.heap.objs.size f cdv))->∃ t,dE (bW dA P w K mg base N x (aO (aW i)) f cdv A outer s H E).nox (cS (aW i)) t/\∀ xs Q,p xs Q->t { nx:=fun _=>Q .non,rt:=Q } (dD N xs)) (hb:Hb x ps i:=by intro _ _ _ _ _ _ us hl; first | (obtain ⟨_,rfl⟩:=qW hl; rfl) | (obtain ⟨_,_,rfl⟩:=qX hl; rfl) | (obtain ⟨_,_,_,rfl⟩:=wT hl; rfl) | (obtain ⟨_,_,_,_,rfl⟩:=us4 hl; rfl) | (obtain ⟨_,_,_,_,_,rfl⟩:=us5 hl; rfl)) (len:∀ xs Q,p xs Q->xs.length=ps.length:=by intro xs Q h; repeat (first | (obtain ⟨rfl,_⟩:=h; rfl) | (obtain ⟨_,h⟩:=h))):Df P w K mg base (k+1) x ps p:=
 Df.of F.F F.m S hb len body
theorem aV.au {p:cE} (F:FM K mg x i f fd) (S:FnScope N ps (aO (aW i))) (t:(Str->Prop)->aL) (rd:∀ Ep xs Q,p Ep xs Q->t Ep { nx:=fun _=>Q .non,rt:=Q } (dD N xs)) (body:∀ (cdv:Value) (A:Around) (outer:List Env) (s:Shared) (H:Hp) (E:XK) (Ep:Str->Prop),bB k (A.deeper (PyProof.Rows.envOfC x (aO (aW i)) s.heap.objs.size f cdv))->j9 (bW (cK P w) P w K mg base N x (aO (aW i)) f cdv A outer s H E) (EX K H Ep)->dE (bW (cK P w) P w K mg base N x (aO (aW i)) f cdv A outer s H E) (cS (aW i)) (t Ep)) (hb:Hb x ps i:=by intro _ _ _ _ _ _ us hl; first | (obtain ⟨_,rfl⟩:=qW hl; rfl) | (obtain ⟨_,_,rfl⟩:=qX hl; rfl) | (obtain ⟨_,_,_,rfl⟩:=wT hl; rfl) | (obtain ⟨_,_,_,_,rfl⟩:=us4 hl; rfl) | (obtain ⟨_,_,_,_,_,rfl⟩:=us5 hl; rfl)) (len:∀ Ep xs Q,p Ep xs Q->xs.length=ps.length:=by intro Ep xs Q h; repeat (first | (obtain ⟨rfl,_⟩:=h; rfl) | (obtain ⟨_,h⟩:=h))):aV P w K mg base (k+1) x ps p:=
 aV.of F.F F.m S hb t len rd body
end
section
variable {P : Program} {w : World} {K : Frag} {mg : Str → Option Value} {base : Heap} {f : Addr} {fd : FuncData}
theorem yE:FnScope ["many","link","one","other"] ["many","link"] (aO (aW 9)):=.au
theorem al1 (B:Bt mg) (F:FM K mg "lesser_first" 9 f fd)  : Df P w K mg base 1 "lesser_first" ["many","link"] nD:=
 Df.au F yE (fun cdv A outer s H E hr=>by
  have nd:=yE.nd
  exact⟨(xL),(aN (cQ (i:=2) nd (ag7 B rfl (a7 (qv 1) aD)))
   (aN (cQ (i:=3) nd (ag6 B rfl (a7 (qv 1) aD)))
   (aN (cD (lW (i4 (gL (qv 2) aI) (lV (T5 (qv 3) (qv 0))))) (aR eD) cC)
   (aN (cD (hZ (qv 2) (qv 3)) (aR eD) cC)
   (aR (cI (dR (a7 (qv 2) (a7 (qv 3) aD))))))))),ah8⟩)
theorem al2:FnScope ["things"] ["things"] (aO (aW 10)):=.au
theorem vY (B:Bt mg) (F:FM K mg "rises" 10 f fd)  : Df P w K mg base 1 "rises" ["things"] nC:=
 Df.au F al2 (fun cdv A outer s H E hr=>by
  have hu:=K9 hr
  exact⟨(r9),(aR (cI (U4 B rfl (a7 (ac8 (N:=["ahead","behind"]) (fr:=[none,none]) (ah4 B (qv 0) (j4 (qv 0) (iZ aI) iY)) (fun _ _ _ _=>(ah0 hu (qv 0) (qv 1)))) aD)))),ah7⟩)
theorem al3:FnScope ["wants","length"] ["wants","length"] (aO (aW 16)):=.au
theorem al4 (B:Bt mg) (F:FM K mg "looked_through" 16 f fd) (x_BadBoard:Xc K mg base "BadBoard") {u_MOST_WANTED:Nat} (m_MOST_WANTED:mg "MOST_WANTED" = some (.int 60 u_MOST_WANTED)) {u_MOST_WIDE:Nat} (m_MOST_WIDE:mg "MOST_WIDE" = some (.int 2 u_MOST_WIDE)) {u_MOST_WANTED_ON_STRIPS:Nat} (m_MOST_WANTED_ON_STRIPS:mg "MOST_WANTED_ON_STRIPS" = some (.int 6 u_MOST_WANTED_ON_STRIPS)):aV P w K mg base 1 "looked_through" ["wants","length"] eS:=
 aV.au F al3 xO aj1 (fun cdv A outer s H E Ep hr hX=>by
  exact (aN (cD (lW (i4 (gL (fE B (a7 (qv 0) aD)) aI) (i4 (iW (fE B (a7 (qv 0) aD)) (gD rfl m_MOST_WIDE)) (i4 (gL (ai7 B rfl (a7 (qv 0) aD)) aI) (lV (iW (ai8 B rfl (a7 (qv 0) aD)) (gD rfl m_MOST_WANTED_ON_STRIPS))))))) (aR (qQ hX x_BadBoard (a7 pH aD))) cC)
   (aR (cD (gL (qv 1) aI) (aR (qQ hX x_BadBoard (a7 pH aD))) cC))))
theorem al5:FnScope ["length","most"] ["length","most"] (aO (aW 17)):=.au
theorem al6 (B:Bt mg) (F:FM K mg "held_to" 17 f fd) (x_TooMany:Xc K mg base "TooMany"):aV P w K mg base 1 "held_to" ["length","most"] eU:=
 aV.au F al5 xP aj2 (fun cdv A outer s H E Ep hr hX=>by
  exact (aR (cD (iW (qv 0) (qv 1)) (aR (qQ hX x_TooMany (a7 pH aD))) cC)))
theorem al7:FnScope ["script","k"] ["script","k"] (aO (aW 36)):=.au
theorem al8 (B:Bt mg) (F:FM K mg "_law_cell_at" 36 f fd)  : Df P w K mg base 1 "_law_cell_at" ["script","k"] iE:=
 Df.au F al7 (fun cdv A outer s H E hr=>by
  exact⟨(vS),(aN (cD (gL (qv 1) (fE B (a7 (qv 0) aD))) (aR (cI (jU (qv 0) (qv 1)))) cC)
   (aR (cI aI))),ab0⟩)
theorem al9:FnScope ["found"] ["found"] (aO (aW 37)):=.au
theorem am0 (B:Bt mg) (F:FM K mg "_law_whole" 37 f fd)  : Df P w K mg base 1 "_law_whole" ["found"] mP:=
 Df.au F al9 (fun cdv A outer s H E hr=>by
  exact⟨(vT K),(aR (cI (T7 (U7 B (qv 0)) (T6 (T8 (U8 B (qv 0))))))),ab1 (qM K).ii (qM K).ib⟩)
theorem am1:FnScope ["cell"] ["cell"] (aO (aW 38)):=.au
theorem am2 (B:Bt mg) (F:FM K mg "_law_wants" 38 f fd)  : Df P w K mg base 1 "_law_wants" ["cell"] nK:=
 Df.au F am1 (fun cdv A outer s H E hr=>by
  exact⟨(xW),(aN (cD (hZ (eQ (qv 0) aI) aI) (aR (cI (dR (a7 (eQ (g9 (qv 0) aI) aI) aD)))) cC)
   (aN (cD (hZ (eQ (qv 0) aI) aI) (aR (cI (dR (a7 (eQ (g9 (qv 0) aI) aI) (a7 (eQ (g9 (qv 0) aI) aI) aD))))) cC)
   (aR (cI (dR (a7 (cP aI (eQ (g9 (qv 0) aI) aI)) (a7 (cP aI (eQ (g9 (qv 0) aI) aI)) aD))))))),aj9⟩)
theorem yF:FnScope ["wants","length","width","links","slice_number","place","hearth"] ["wants","length"] (aO (aW 39)):=.au
theorem am3 (B:Bt mg) (F:FM K mg "_law_strip" 39 f fd)  : Df P w K mg base 1 "_law_strip" ["wants","length"] nL:=
 Df.au F yF (fun cdv A outer s H E hr=>by
  have nd:=yF.nd
  exact⟨(xZ),(aN (cQ (i:=2) nd (fE B (a7 (qv 0) aD)))
   (aN (uO (i:=3) nd (gM aD))
   (aN (i7 4 nd (jW rfl B.range (qv 1))
    (aR (i7 5 nd (jW rfl B.range (qv 2))
     (aN (cQ (i:=6) nd (cP (uM (qv 4) (qv 2)) (qv 5)))
     (aN (cD (gL (cP (qv 5) aI) (qv 2)) (aR (pI 3 (dR (a7 (qv 6) (a7 (cP (qv 6) aI) aD))))) cC)
     (aR (cD (gL (cP (qv 4) aI) (qv 1)) (aR (pI 3 (dR (a7 (qv 6) (a7 (cP (qv 6) (qv 2)) aD))))) cC)))))))
   (aR (cI (dR (a7 (ai6 (lY B (a7 (qv 0) aD)) (qv 1)) (a7 (lY B (a7 (wU B (a7 (qv 3) aD)) aD)) aD)))))))),ak0⟩)
theorem yG:FnScope ["wants","links","want","pairs"] ["wants","links"] (aO (aW 8)):=.au
theorem am4 (B:Bt mg) (F:FM K mg "made_web" 8 f fd) (d_lesser_first:Df P w K mg base 1 "lesser_first" ["many","link"] nD) (d_rises:Df P w K mg base 1 "rises" ["things"] nC) {u_MOST_HEARTHS:Nat} (m_MOST_HEARTHS:mg "MOST_HEARTHS" = some (.int 40 u_MOST_HEARTHS)) {u_MOST_WANTED:Nat} (m_MOST_WANTED:mg "MOST_WANTED" = some (.int 60 u_MOST_WANTED)):Df P w K mg base 2 "made_web" ["wants","links"] kM:=
 Df.au F yG (fun cdv A outer s H E hr=>by
  have nd:=yG.nd
  exact⟨(xM),(aN (cD (iW (fE B (a7 (qv 0) aD)) (gD rfl m_MOST_HEARTHS)) (aR eD) cC)
   (aN (i7 2 nd (jV (qv 0))
    (aR (cD (lW (i4 (gL (qv 2) aI) (lV (iW (qv 2) (gD rfl m_MOST_WANTED))))) (aR eD) cC)))
   (aN (cQ (i:=3) nd (wU B (a7 (V1 (N:=["link","wants"]) (fr:=[none,some 0]) (jV (qv 1)) (fun _ _ _ _=>(dS d_lesser_first hr (a7 (fE B (a7 (qv 1) aD)) (a7 (qv 0) aD))))) aD)))
   (aN (cD (lX (lU (dS d_rises hr (a7 (qv 3) aD)))) (aR eD) cC)
   (aR (cI (dR (a7 (lY B (a7 (qv 0) aD)) (a7 (lY B (a7 (qv 3) aD)) aD))))))))),ah9⟩)
theorem am5:FnScope ["wants","length"] ["wants","length"] (aO (aW 19)):=.au
theorem am6 (B:Bt mg) (F:FM K mg "strip_count" 19 f fd) (d_looked_through:aV P w K mg base 1 "looked_through" ["wants","length"] eS) (d_held_to:aV P w K mg base 1 "held_to" ["length","most"] eU) {u_MOST_COUNTED:Nat} (m_MOST_COUNTED:mg "MOST_COUNTED" = some (.int 300 u_MOST_COUNTED)):aV P w K mg base 2 "strip_count" ["wants","length"] nH:=
 aV.au F am5 rJ xS (fun cdv A outer s H E Ep hr hX=>by
  exact (aN (fD (fI hX d_looked_through hr (a7 (qv 0) (a7 (qv 1) aD))))
   (aN (fD (fI hX d_held_to hr (a7 (qv 1) (a7 (gD rfl m_MOST_COUNTED) aD))))
   (aR eD))))
theorem am7:FnScope ["wants","length","width"] ["wants","length"] (aO (aW 20)):=.au
theorem am8 (B:Bt mg) (F:FM K mg "strip_counts" 20 f fd) (d_looked_through:aV P w K mg base 1 "looked_through" ["wants","length"] eS) (d_held_to:aV P w K mg base 1 "held_to" ["length","most"] eU) {u_MOST_COUNTED:Nat} (m_MOST_COUNTED:mg "MOST_COUNTED" = some (.int 300 u_MOST_COUNTED)) {u_MOST_COUNTED_BY_SEEDS:Nat} (m_MOST_COUNTED_BY_SEEDS:mg "MOST_COUNTED_BY_SEEDS" = some (.int 60 u_MOST_COUNTED_BY_SEEDS)):aV P w K mg base 2 "strip_counts" ["wants","length"] nI:=
 aV.au F am7 xU aj5 (fun cdv A outer s H E Ep hr hX=>by
  exact (aN (fD (fI hX d_looked_through hr (a7 (qv 0) (a7 (qv 1) aD))))
   (aN (fD (fI hX d_held_to hr (a7 (qv 1) (a7 (gD rfl m_MOST_COUNTED_BY_SEEDS) aD))))
   (aN eD
   (aR eD)))))
theorem am9:FnScope ["wants","length"] ["wants","length"] (aO (aW 23)):=.au
theorem an0 (B:Bt mg) (F:FM K mg "strip_least" 23 f fd) (d_looked_through:aV P w K mg base 1 "looked_through" ["wants","length"] eS) (d_held_to:aV P w K mg base 1 "held_to" ["length","most"] eU) {u_MOST_COUNTED:Nat} (m_MOST_COUNTED:mg "MOST_COUNTED" = some (.int 300 u_MOST_COUNTED)):aV P w K mg base 2 "strip_least" ["wants","length"] nJ:=
 aV.au F am9 xT aj4 (fun cdv A outer s H E Ep hr hX=>by
  exact (aN (fD (fI hX d_looked_through hr (a7 (qv 0) (a7 (qv 1) aD))))
   (aN (fD (fI hX d_held_to hr (a7 (qv 1) (a7 (gD rfl m_MOST_COUNTED) aD))))
   (aR eD))))
theorem yH:FnScope ["wants","length","width","hearths","turn","seeds"] ["wants","length"] (aO (aW 24)):=.au
theorem an1 (B:Bt mg) (F:FM K mg "strip_seeds" 24 f fd) (d_looked_through:aV P w K mg base 1 "looked_through" ["wants","length"] eS) (d_held_to:aV P w K mg base 1 "held_to" ["length","most"] eU) {u_MOST_HEARTHS:Nat} (m_MOST_HEARTHS:mg "MOST_HEARTHS" = some (.int 40 u_MOST_HEARTHS)):aV P w K mg base 2 "strip_seeds" ["wants","length"] nG:=
 aV.au F yH xR aj3 (fun cdv A outer s H E Ep hr hX=>by
  have nd:=yH.nd
  exact (aN (fD (fI hX d_looked_through hr (a7 (qv 0) (a7 (qv 1) aD))))
   (aN (cQ (i:=2) nd (fE B (a7 (qv 0) aD)))
   (aN (fD (fI hX d_held_to hr (a7 (qv 1) (a7 (g9 (gD rfl m_MOST_HEARTHS) (qv 2)) aD))))
   (aN eD
   (aN eD
   (aR eD)))))))
theorem yI:FnScope ["wants","length","width","many","across","along"] ["wants","length"] (aO (aW 18)):=.au
theorem an2 (B:Bt mg) (F:FM K mg "strip_web" 18 f fd) (d_looked_through:aV P w K mg base 1 "looked_through" ["wants","length"] eS) (d_held_to:aV P w K mg base 1 "held_to" ["length","most"] eU) (d_made_web:Df P w K mg base 2 "made_web" ["wants","links"] kM) {u_MOST_HEARTHS:Nat} (m_MOST_HEARTHS:mg "MOST_HEARTHS" = some (.int 40 u_MOST_HEARTHS)):aV P w K mg base 3 "strip_web" ["wants","length"] iI:=
 aV.au F yI xV aj7 (fun cdv A outer s H E Ep hr hX=>by
  have nd:=yI.nd
  exact (aN (fD (fI hX d_looked_through hr (a7 (qv 0) (a7 (qv 1) aD))))
   (aN (cQ (i:=2) nd (fE B (a7 (qv 0) aD)))
   (aN (fD (fI hX d_held_to hr (a7 (qv 1) (a7 (g9 (gD rfl m_MOST_HEARTHS) (qv 2)) aD))))
   (aN (cQ (i:=3) nd (uM (qv 2) (qv 1)))
   (aN (V3 (i:=4) nd (N:=["hearth","width"]) (fr:=[none,some 2]) (jW rfl B.range (qv 3)) (fun _ _ _ _=>(iW (eQ (cP (qv 0) aI) (qv 1)) aI)) (fun _ _ _ _=>(dR (a7 (qv 0) (a7 (cP (qv 0) aI) aD)))))
   (aN (V2 (i:=5) nd (N:=["hearth","width"]) (fr:=[none,some 2]) (jW rfl B.range (lT (qv 3) (qv 2))) (fun _ _ _ _=>(dR (a7 (qv 0) (a7 (cP (qv 0) (qv 1)) aD)))))
   (aR (cI (dS d_made_web hr (a7 (ad0 (uP B (a7 (qv 0) aD)) (qv 1)) (a7 (ac4 (qv 4) (qv 5)) aD))))))))))))
theorem yJ:FnScope ["which","wants","length","kinds","e"] ["which","wants","length"] (aO (aW 40)):=.au
theorem an3 (B:Bt mg) (F:FM K mg "_law_refused" 40 f fd) (d_strip_web:aV P w K mg base 3 "strip_web" ["wants","length"] iI) (d_strip_seeds:aV P w K mg base 2 "strip_seeds" ["wants","length"] nG) (d_strip_count:aV P w K mg base 2 "strip_count" ["wants","length"] nH) (d_strip_counts:aV P w K mg base 2 "strip_counts" ["wants","length"] nI) (d_strip_least:aV P w K mg base 2 "strip_least" ["wants","length"] nJ) (cat_HearthError:qS K mg "HearthError") (is_BadBoard:kK K mg "BadBoard") (is_TooMany:kK K mg "TooMany") (is_ValueError:qU K mg):Df P w K mg base 4 "_law_refused" ["which","wants","length"] jD:=
 Df.au F yJ (fun cdv A outer s H E hr=>by
  have nd:=yJ.nd
  exact⟨(y7),(aN (cQ (i:=3) nd T2)
   (aN (ae1 4 cat_HearthError nd (mS (fun _=>(hZ (qv 0) aI)) (kJ d_strip_web hr (fun _=>(a7 (qv 1) (a7 (qv 2) aD)))) (mS (fun _=>(hZ (qv 0) aI)) (kJ d_strip_seeds hr (fun _=>(a7 (qv 1) (a7 (qv 2) aD)))) (mS (fun _=>(hZ (qv 0) aI)) (kJ d_strip_count hr (fun _=>(a7 (qv 1) (a7 (qv 2) aD)))) (mS (fun _=>(hZ (qv 0) aI)) (kJ d_strip_counts hr (fun _=>(a7 (qv 1) (a7 (qv 2) aD)))) (kJ d_strip_least hr (fun _=>(a7 (qv 1) (a7 (qv 2) aD)))))))) (fun _=>(aR (cQ (i:=3) nd (gM (a7 (wP B is_BadBoard (qv 4)) (a7 (wP B is_TooMany (qv 4)) (a7 (ae5 B is_ValueError (qv 4)) aD))))))))
   (aR (U0 3)))),ak1⟩)
theorem yK:FnScope ["script","wants","most","length","found","want","far","place","wrong","bounds","which","some","odd"] ["script"] (aO (aW 41)):=.au
theorem an4 (B:Bt mg) (F:dJ K "law" "law" (aW 41) f fd) (d__law_wants:Df P w K mg base 1 "_law_wants" ["cell"] nK) (d__law_cell_at:Df P w K mg base 1 "_law_cell_at" ["script","k"] iE) (d_strip_web:aV P w K mg base 3 "strip_web" ["wants","length"] iI) (d__law_strip:Df P w K mg base 1 "_law_strip" ["wants","length"] nL) (d__law_whole:Df P w K mg base 1 "_law_whole" ["found"] mP) (d__law_refused:Df P w K mg base 4 "_law_refused" ["which","wants","length"] jD):bZ P w K mg base dA 5 f fd ["script"] (jP K rN):=
 ac0 F yK (fun xs Q h=>by unfold rN at h; repeat (first | (obtain ⟨rfl,_⟩:=h; rfl) | (obtain ⟨_,h⟩:=h))) (fun cdv A outer s H E hr=>by
  have nd:=yK.nd
  have hu3:=al0 hr
  exact⟨(yC K),(aN (cQ (i:=1) nd (dS d__law_wants hr (a7 (dS d__law_cell_at hr (a7 (qv 0) (a7 aI aD))) aD)))
   (aN (cQ (i:=2) nd (g9 aI (fE B (a7 (qv 1) aD))))
   (aN (cQ (i:=3) nd (eQ (dS d__law_cell_at hr (a7 (qv 0) (a7 aI aD))) (cP (qv 2) aI)))
   (aN (cQ (i:=4) nd (wL d_strip_web hr (a7 (qv 1) (a7 (qv 3) aD))))
   (aN (cD (lW (i4 (jX hu3 (qv 4) (dS d__law_strip hr (a7 (qv 1) (a7 (qv 3) aD)))) (i4 (lX (lU (uR B (qv 4)))) (lV (lX (lU (uR B (jU (qv 4) aI)))))))) (aR (cI cY)) cC)
   (aN (i7 5 nd (jV (jU (qv 4) aI))
    (aR (cD (lX (lU (dS d__law_whole hr (a7 (qv 5) aD)))) (aR (cI cY)) cC)))
   (aN (cD (jX hu3 (wL d_strip_web hr (a7 (uP B (a7 (qv 1) aD)) (a7 (qv 3) aD))) (qv 4)) (aR (cI cY)) cC)
   (aN (cQ (i:=6) nd (eQ (g9 (dS d__law_cell_at hr (a7 (qv 0) (a7 aI aD))) aI) (T3 aI aI)))
   (aN (cQ (i:=7) nd (eQ (dS d__law_cell_at hr (a7 (qv 0) (a7 aI aD))) (fE B (a7 (qv 1) aD))))
   (aN (uO (i:=8) nd (gM (a7 (dR aD) (a7 (ab5 (j4 (qv 1) iY (iZ aI)) aI) (a7 (mR (mR (j4 (qv 1) iY (iZ (qv 7))) (dR (a7 (lT (pJ aI) (qv 6)) aD))) (j4 (qv 1) (iZ (cP (qv 7) aI)) iY)) aD)))))
   (aN (pI 8 (mR (mR (j4 (qv 1) iY (iZ (qv 7))) (dR (a7 (cP aI (qv 6)) aD))) (j4 (qv 1) (iZ (cP (qv 7) aI)) iY)))
   (aN (cQ (i:=9) nd (gM (a7 (qv 2) (a7 (qv 2) (a7 aI (a7 aI (a7 aI aD)))))))
   (aN (T9 8 (i7 10 nd (jW rfl B.range aI)
    (aN (i7 11 nd (jV (qv 8))
     (aR (i7 12 nd (jV (gM (a7 (qv 3) (a7 (lT (pJ aI) (qv 6)) (a7 (cP (jU (qv 9) (qv 10)) aI) aD)))))
      (aR (cD (jX hu3 (dS d__law_refused hr (a7 (qv 10) (a7 (qv 11) (a7 (qv 12) aD)))) (gM (a7 cY (a7 cY (a7 cY aD))))) (aR (cI cY)) cC)))))
    (aN (cD (jX hu3 (dS d__law_refused hr (a7 (qv 10) (a7 (qv 1) (a7 (lT (pJ aI) (qv 6)) aD)))) (gM (a7 cY (a7 cY (a7 cY aD))))) (aR (cI cY)) cC)
    (aR (cD (jX hu3 (dS d__law_refused hr (a7 (qv 10) (a7 (qv 1) (a7 (cP (cP (jU (qv 9) (qv 10)) aI) (qv 6)) aD)))) (gM (a7 cY (a7 cY (a7 cY aD))))) (aR (cI cY)) cC))))))
   (aR (cI cY))))))))))))))),ak9 (qM K).tt⟩)
end
set_option autoImplicit true in
theorem an5 {l:OpenLaw}{w:World}{K:Frag}{h:Heap}{mg:Str->Option Value} (X:K.In h) (G:h.Ns mainGlobals mg) (hfa:mg "law" = some (.ref fa))
  (h0:FK K "lesser_first" 9 f0 d0)
  (h1:FK K "rises" 10 f1 d1)
  (h2:FK K "looked_through" 16 f2 d2)
  (h3:FK K "held_to" 17 f3 d3)
  (h4:FK K "_law_cell_at" 36 f4 d4)
  (h5:FK K "_law_whole" 37 f5 d5)
  (h6:FK K "_law_wants" 38 f6 d6)
  (h7:FK K "_law_strip" 39 f7 d7)
  (h8:FK K "made_web" 8 f8 d8)
  (h9:FK K "strip_count" 19 f9 d9)
  (h10:FK K "strip_counts" 20 f10 d10)
  (h11:FK K "strip_least" 23 f11 d11)
  (h12:FK K "strip_seeds" 24 f12 d12)
  (h13:FK K "strip_web" 18 f13 d13)
  (h14:FK K "_law_refused" 40 f14 d14)
  (a15:nsIn K mainGlobals "law" = some (some (.ref f15))) (l15:K.lookup f15=some ⟨oc15,od15,.func (fnOf "law" "law" (fR (aW 41)) (cS (aW 41)) (aO (aW 41)) .none kV15 dc15 pm15 an15 cd15 ct15),sl15⟩) (c15:codeIn K cd15 "law" = true) (k15:keepIn K (.ref f15)=true)
  (z_len:nsIn K mainGlobals "len" = some none)
  (z_range:nsIn K mainGlobals "range" = some none)
  (z_tuple:nsIn K mainGlobals "tuple" = some none)
  (z_list:nsIn K mainGlobals "list" = some none)
  (z_sorted:nsIn K mainGlobals "sorted" = some none)
  (z_all:nsIn K mainGlobals "all" = some none)
  (z_any:nsIn K mainGlobals "any" = some none)
  (z_zip:nsIn K mainGlobals "zip" = some none)
  (z_min:nsIn K mainGlobals "min" = some none)
  (z_max:nsIn K mainGlobals "max" = some none)
  (z_sum:nsIn K mainGlobals "sum" = some none)
  (z_isinstance:nsIn K mainGlobals "isinstance" = some none)
  (z_int:nsIn K mainGlobals "int" = some none)
  (z_bool:nsIn K mainGlobals "bool" = some none)
  (z_enumerate:nsIn K mainGlobals "enumerate" = some none)
  {u_MOST_COUNTED:Nat} (z_MOST_COUNTEDx:nsIn K mainGlobals "MOST_COUNTED" = some (some (.int 300 u_MOST_COUNTED)))
  {u_MOST_COUNTED_BY_SEEDS:Nat} (z_MOST_COUNTED_BY_SEEDSx:nsIn K mainGlobals "MOST_COUNTED_BY_SEEDS" = some (some (.int 60 u_MOST_COUNTED_BY_SEEDS)))
  {u_MOST_HEARTHS:Nat} (z_MOST_HEARTHSx:nsIn K mainGlobals "MOST_HEARTHS" = some (some (.int 40 u_MOST_HEARTHS)))
  {u_MOST_WANTED:Nat} (z_MOST_WANTEDx:nsIn K mainGlobals "MOST_WANTED" = some (some (.int 60 u_MOST_WANTED)))
  {u_MOST_WANTED_ON_STRIPS:Nat} (z_MOST_WANTED_ON_STRIPSx:nsIn K mainGlobals "MOST_WANTED_ON_STRIPS" = some (some (.int 6 u_MOST_WANTED_ON_STRIPS)))
  {u_MOST_WIDE:Nat} (z_MOST_WIDEx:nsIn K mainGlobals "MOST_WIDE" = some (some (.int 2 u_MOST_WIDE)))
  {C_HearthError C_BadWeb C_BadBoard C_TooMany:Addr}
  (aX_HE:nsIn K mainGlobals "HearthError" = some (some (.ref C_HearthError)))
  (aX_BW:nsIn K mainGlobals "BadWeb" = some (some (.ref C_BadWeb)))
  (aX_BB:nsIn K mainGlobals "BadBoard" = some (some (.ref C_BadBoard)))
  (aX_TM:nsIn K mainGlobals "TooMany" = some (some (.ref C_TooMany)))
  (zX_BS:nsIn K mainGlobals "BadSet" = some none)
  (zX_BO:nsIn K mainGlobals "BadOrder" = some none)
  (zX_BP:nsIn K mainGlobals "BadPrices" = some none)
  (zX_BD:nsIn K mainGlobals "BadDeed" = some none)
  (zX_NW:nsIn K mainGlobals "NotWood" = some none)
  (zX_NP:nsIn K mainGlobals "NoPaper" = some none)
  (zX_NS:nsIn K mainGlobals "NoSuch" = some none)
  (zX_NT:nsIn K mainGlobals "NoText" = some none)
  (zX_OR:nsIn K mainGlobals "OddRound" = some none)
  (y_fg:specialIn K (.builtin "object.__class__") "__get__" = some (some (.builtin "getset_descriptor.__get__")))
  (y_ft:takesIn K (.builtin "object.__class__")=some true)
  (z_VE:nsIn K mainGlobals "ValueError" = some none)
  (y1_HE:isClsIn K C_HearthError=true)
  (y2_HE:typeIn K (.ref C_HearthError)=some (.type "type"))
  (y3_HE:findIn K (.ref C_HearthError) "__getattribute__" = some (some (.builtin "BaseException.__getattribute__")))
  (y4_HE:findIn K (.ref C_HearthError) "__getattr__" = some none)
  (y5_HE:findIn K (.ref C_HearthError) "__class__" = some (some (.builtin "object.__class__")))
  (y6_HE:mroIn K C_HearthError (.type "object")=some true)
  (y7_HE:mroIn K C_HearthError (.type "BaseException")=some true)
  (y1_BW:isClsIn K C_BadWeb=true)
  (y2_BW:typeIn K (.ref C_BadWeb)=some (.type "type"))
  (y3_BW:findIn K (.ref C_BadWeb) "__getattribute__" = some (some (.builtin "BaseException.__getattribute__")))
  (y4_BW:findIn K (.ref C_BadWeb) "__getattr__" = some none)
  (y5_BW:findIn K (.ref C_BadWeb) "__class__" = some (some (.builtin "object.__class__")))
  (y6_BW:mroIn K C_BadWeb (.type "object")=some true)
  (y7_BW:mroIn K C_BadWeb (.type "BaseException")=some true)
  (y1_BB:isClsIn K C_BadBoard=true)
  (y2_BB:typeIn K (.ref C_BadBoard)=some (.type "type"))
  (y3_BB:findIn K (.ref C_BadBoard) "__getattribute__" = some (some (.builtin "BaseException.__getattribute__")))
  (y4_BB:findIn K (.ref C_BadBoard) "__getattr__" = some none)
  (y5_BB:findIn K (.ref C_BadBoard) "__class__" = some (some (.builtin "object.__class__")))
  (y6_BB:mroIn K C_BadBoard (.type "object")=some true)
  (y7_BB:mroIn K C_BadBoard (.type "BaseException")=some true)
  (y1_TM:isClsIn K C_TooMany=true)
  (y2_TM:typeIn K (.ref C_TooMany)=some (.type "type"))
  (y3_TM:findIn K (.ref C_TooMany) "__getattribute__" = some (some (.builtin "BaseException.__getattribute__")))
  (y4_TM:findIn K (.ref C_TooMany) "__getattr__" = some none)
  (y5_TM:findIn K (.ref C_TooMany) "__class__" = some (some (.builtin "object.__class__")))
  (y6_TM:mroIn K C_TooMany (.type "object")=some true)
  (y7_TM:mroIn K C_TooMany (.type "BaseException")=some true)
  (sB_HE:subIn K (.ref C_HearthError) (.type "BaseException")=some true)
  (s_BW_HE:subIn K (.ref C_BadWeb) (.ref C_HearthError)=some true)
  (s_BB_HE:subIn K (.ref C_BadBoard) (.ref C_HearthError)=some true)
  (s_TM_HE:subIn K (.ref C_TooMany) (.ref C_HearthError)=some true)
  (sN_BB:subIn K (.type "NoneType") (.ref C_BadBoard)=some false)
  (s_BW_BB:subIn K (.ref C_BadWeb) (.ref C_BadBoard)=some false)
  (n_BW_BB:(C_BadWeb == C_BadBoard)=false)
  (s_TM_BB:subIn K (.ref C_TooMany) (.ref C_BadBoard)=some false)
  (n_TM_BB:(C_TooMany == C_BadBoard)=false)
  (sN_TM:subIn K (.type "NoneType") (.ref C_TooMany)=some false)
  (s_BW_TM:subIn K (.ref C_BadWeb) (.ref C_TooMany)=some false)
  (n_BW_TM:(C_BadWeb == C_TooMany)=false)
  (s_BB_TM:subIn K (.ref C_BadBoard) (.ref C_TooMany)=some false)
  (n_BB_TM:(C_BadBoard == C_TooMany)=false)
  (sV_BW:subIn K (.ref C_BadWeb) (.type "ValueError")=some true)
  (sV_BB:subIn K (.ref C_BadBoard) (.type "ValueError")=some true)
  (sV_TM:subIn K (.ref C_TooMany) (.type "ValueError")=some true)
  (q_BB:excIn K C_BadBoard [.type "ValueError",.type "Exception",.type "BaseException",.type "object"] "ValueError.__new__" = true)
  (q_TM:excIn K C_TooMany [.type "ValueError",.type "Exception",.type "BaseException",.type "object"] "ValueError.__new__" = true)
  : ∃ fd:FuncData,(∀ (s:Shared) (v:Value),BindsTo s fd ⟨[v],[]⟩ [("script",v)])/\∀ base:Heap,K.In base->base.Ns mainGlobals mg->bZ l.prog w K mg base dA 5 fa fd ["script"] (mQ K):=by
 have e:=hfa.symm.trans (mg_of X G a15)
 cases e
 have F15:=K8 (st:=aW 41) l15 c15 k15
 have m15:=mg_of X G a15
 have B:Bt mg:=⟨mg_none_of X G z_len,mg_none_of X G z_range,mg_none_of X G z_tuple,mg_none_of X G z_list,mg_none_of X G z_sorted,mg_none_of X G z_all,mg_none_of X G z_any,mg_none_of X G z_zip,mg_none_of X G z_min,mg_none_of X G z_max,mg_none_of X G z_sum,mg_none_of X G z_isinstance,mg_none_of X G z_int,mg_none_of X G z_bool,mg_none_of X G z_enumerate⟩
 have m_MOST_COUNTED:=mg_of X G z_MOST_COUNTEDx
 have m_MOST_COUNTED_BY_SEEDS:=mg_of X G z_MOST_COUNTED_BY_SEEDSx
 have m_MOST_HEARTHS:=mg_of X G z_MOST_HEARTHSx
 have m_MOST_WANTED:=mg_of X G z_MOST_WANTEDx
 have m_MOST_WANTED_ON_STRIPS:=mg_of X G z_MOST_WANTED_ON_STRIPSx
 have m_MOST_WIDE:=mg_of X G z_MOST_WIDEx
 refine⟨fnOf "law" "law" (fR (aW 41)) (cS (aW 41)) (aO (aW 41)) .none kV15 dc15 pm15 an15 cd15 ct15,fun s v=>.of_eq rfl,fun base KB _=>?_⟩
 have XK_HearthError:gP K C_HearthError:=⟨y1_HE,y2_HE,y3_HE,y4_HE,y5_HE,y_fg,y_ft,y6_HE,y7_HE⟩
 have XK_BadWeb:gP K C_BadWeb:=⟨y1_BW,y2_BW,y3_BW,y4_BW,y5_BW,y_fg,y_ft,y6_BW,y7_BW⟩
 have XK_BadBoard:gP K C_BadBoard:=⟨y1_BB,y2_BB,y3_BB,y4_BB,y5_BB,y_fg,y_ft,y6_BB,y7_BB⟩
 have XK_TooMany:gP K C_TooMany:=⟨y1_TM,y2_TM,y3_TM,y4_TM,y5_TM,y_fg,y_ft,y6_TM,y7_TM⟩
 have cat_HearthError:qS K mg "HearthError":=⟨C_HearthError,mg_of X G aX_HE,⟨y1_HE,y2_HE,sB_HE⟩,fun n C h2 h1=>by
  obtain ⟨hm,hb⟩:=mT h2
  simp only [jB,ap0,aq6,aw2] at hm
  rcases hm with rfl | rfl | rfl | rfl | rfl | rfl | rfl | rfl | rfl | rfl | rfl | rfl
  ·rw [aX_BW] at h1; cases h1; exact s_BW_HE
  ·rw [zX_BS] at h1; cases h1
  ·rw [zX_BO] at h1; cases h1
  ·rw [zX_BP] at h1; cases h1
  ·rw [aX_BB] at h1; cases h1; exact s_BB_HE
  ·rw [zX_BD] at h1; cases h1
  ·rw [zX_NW] at h1; cases h1
  ·rw [zX_NP] at h1; cases h1
  ·rw [zX_NS] at h1; cases h1
  ·rw [aX_TM] at h1; cases h1; exact s_TM_HE
  ·rw [zX_NT] at h1; cases h1
  ·rw [zX_OR] at h1; cases h1⟩
 have is_BadBoard:kK K mg "BadBoard":=⟨C_BadBoard,mg_of X G aX_BB,fun z=>(by cases z),(fun n C b h1 h2=>by
  obtain ⟨hm,hb⟩:=mT h2
  simp only [jB,ap0,aq6,aw2] at hm
  rcases hm with rfl | rfl | rfl | rfl | rfl | rfl | rfl | rfl | rfl | rfl | rfl | rfl
  ·rw [aX_BW] at h1; cases h1; rw [hb,show (("BadWeb" : Str) == "BadBoard" || ("BadBoard" : Str) == "HearthError" || ("BadBoard" : Str) == "ValueError")=false by decide]; exact⟨XK_BadWeb.exc,mU XK_BadBoard n_BW_BB s_BW_BB⟩
  ·rw [zX_BS] at h1; cases h1
  ·rw [zX_BO] at h1; cases h1
  ·rw [zX_BP] at h1; cases h1
  ·rw [aX_BB] at h1; cases h1; rw [hb,show (("BadBoard" : Str) == "BadBoard" || ("BadBoard" : Str) == "HearthError" || ("BadBoard" : Str) == "ValueError")=true by decide]; exact⟨XK_BadBoard.exc,wR⟩
  ·rw [zX_BD] at h1; cases h1
  ·rw [zX_NW] at h1; cases h1
  ·rw [zX_NP] at h1; cases h1
  ·rw [zX_NS] at h1; cases h1
  ·rw [aX_TM] at h1; cases h1; rw [hb,show (("TooMany" : Str) == "BadBoard" || ("BadBoard" : Str) == "HearthError" || ("BadBoard" : Str) == "ValueError")=false by decide]; exact⟨XK_TooMany.exc,mU XK_BadBoard n_TM_BB s_TM_BB⟩
  ·rw [zX_NT] at h1; cases h1
  ·rw [zX_OR] at h1; cases h1),wS XK_BadBoard sN_BB⟩
 have is_TooMany:kK K mg "TooMany":=⟨C_TooMany,mg_of X G aX_TM,fun z=>(by cases z),(fun n C b h1 h2=>by
  obtain ⟨hm,hb⟩:=mT h2
  simp only [jB,ap0,aq6,aw2] at hm
  rcases hm with rfl | rfl | rfl | rfl | rfl | rfl | rfl | rfl | rfl | rfl | rfl | rfl
  ·rw [aX_BW] at h1; cases h1; rw [hb,show (("BadWeb" : Str) == "TooMany" || ("TooMany" : Str) == "HearthError" || ("TooMany" : Str) == "ValueError")=false by decide]; exact⟨XK_BadWeb.exc,mU XK_TooMany n_BW_TM s_BW_TM⟩
  ·rw [zX_BS] at h1; cases h1
  ·rw [zX_BO] at h1; cases h1
  ·rw [zX_BP] at h1; cases h1
  ·rw [aX_BB] at h1; cases h1; rw [hb,show (("BadBoard" : Str) == "TooMany" || ("TooMany" : Str) == "HearthError" || ("TooMany" : Str) == "ValueError")=false by decide]; exact⟨XK_BadBoard.exc,mU XK_TooMany n_BB_TM s_BB_TM⟩
  ·rw [zX_BD] at h1; cases h1
  ·rw [zX_NW] at h1; cases h1
  ·rw [zX_NP] at h1; cases h1
  ·rw [zX_NS] at h1; cases h1
  ·rw [aX_TM] at h1; cases h1; rw [hb,show (("TooMany" : Str) == "TooMany" || ("TooMany" : Str) == "HearthError" || ("TooMany" : Str) == "ValueError")=true by decide]; exact⟨XK_TooMany.exc,wR⟩
  ·rw [zX_NT] at h1; cases h1
  ·rw [zX_OR] at h1; cases h1),wS XK_TooMany sN_TM⟩
 have is_ValueError:qU K mg:=⟨mg_none_of X G z_VE,fun z=>(by cases z),(fun n C b h1 h2=>by
  obtain ⟨hm,hb⟩:=mT h2
  simp only [jB,ap0,aq6,aw2] at hm
  rcases hm with rfl | rfl | rfl | rfl | rfl | rfl | rfl | rfl | rfl | rfl | rfl | rfl
  ·rw [aX_BW] at h1; cases h1; rw [hb,show (("BadWeb" : Str) == "ValueError" || ("ValueError" : Str) == "HearthError" || ("ValueError" : Str) == "ValueError")=true by decide]; exact⟨XK_BadWeb.exc,qV sV_BW⟩
  ·rw [zX_BS] at h1; cases h1
  ·rw [zX_BO] at h1; cases h1
  ·rw [zX_BP] at h1; cases h1
  ·rw [aX_BB] at h1; cases h1; rw [hb,show (("BadBoard" : Str) == "ValueError" || ("ValueError" : Str) == "HearthError" || ("ValueError" : Str) == "ValueError")=true by decide]; exact⟨XK_BadBoard.exc,qV sV_BB⟩
  ·rw [zX_BD] at h1; cases h1
  ·rw [zX_NW] at h1; cases h1
  ·rw [zX_NP] at h1; cases h1
  ·rw [zX_NS] at h1; cases h1
  ·rw [aX_TM] at h1; cases h1; rw [hb,show (("TooMany" : Str) == "ValueError" || ("ValueError" : Str) == "HearthError" || ("ValueError" : Str) == "ValueError")=true by decide]; exact⟨XK_TooMany.exc,qV sV_TM⟩
  ·rw [zX_NT] at h1; cases h1
  ·rw [zX_OR] at h1; cases h1),ae6⟩
 have x_BadBoard:Xc K mg base "BadBoard":=⟨C_BadBoard,_,_,_,_,wQ KB (mg_of X G aX_BB) q_BB,PySem.F.excBase_ValueError,aX_BB⟩
 have x_TooMany:Xc K mg base "TooMany":=⟨C_TooMany,_,_,_,_,wQ KB (mg_of X G aX_TM) q_TM,PySem.F.excBase_ValueError,aX_TM⟩
 have D0:=al1 (P:=l.prog) (w:=w) (base:=base) B (h0.M X G)
 have D1:=vY (P:=l.prog) (w:=w) (base:=base) B (h1.M X G)
 have D2:=al4 (P:=l.prog) (w:=w) (base:=base) B (h2.M X G)  x_BadBoard m_MOST_WANTED m_MOST_WIDE m_MOST_WANTED_ON_STRIPS
 have D3:=al6 (P:=l.prog) (w:=w) (base:=base) B (h3.M X G)  x_TooMany
 have D4:=al8 (P:=l.prog) (w:=w) (base:=base) B (h4.M X G)
 have D5:=am0 (P:=l.prog) (w:=w) (base:=base) B (h5.M X G)
 have D6:=am2 (P:=l.prog) (w:=w) (base:=base) B (h6.M X G)
 have D7:=am3 (P:=l.prog) (w:=w) (base:=base) B (h7.M X G)
 have D8:=am4 (P:=l.prog) (w:=w) (base:=base) B (h8.M X G) D0 D1 m_MOST_HEARTHS m_MOST_WANTED
 have D9:=am6 (P:=l.prog) (w:=w) (base:=base) B (h9.M X G) D2 D3 m_MOST_COUNTED
 have D10:=am8 (P:=l.prog) (w:=w) (base:=base) B (h10.M X G) D2 D3 m_MOST_COUNTED m_MOST_COUNTED_BY_SEEDS
 have D11:=an0 (P:=l.prog) (w:=w) (base:=base) B (h11.M X G) D2 D3 m_MOST_COUNTED
 have D12:=an1 (P:=l.prog) (w:=w) (base:=base) B (h12.M X G) D2 D3 m_MOST_HEARTHS
 have D13:=an2 (P:=l.prog) (w:=w) (base:=base) B (h13.M X G) D2 D3 D8 m_MOST_HEARTHS
 have D14:=an3 (P:=l.prog) (w:=w) (base:=base) B (h14.M X G) D13 D12 D9 D10 D11 cat_HearthError is_BadBoard is_TooMany is_ValueError
 exact ac1 (an4 B F15 D6 D4 D13 D7 D5 D14)
theorem an6 {l:OpenLaw}{q:Program}{loose:List Str}{XP:(Str->Option Value)->Heap->Prop}{YP:World->Heap->Prop}{d:DefRec}{K:Params->Frag} (hn:l.most=some 63) (hdf:d.params.defaults = [])
  (hY:∀ (w:World) (h:Heap),YP w h->(K w.params).In h)
  (F:∀ (w:World) (mg:Str->Option Value) (fa:Addr) (h:Heap),(K w.params).In h->h.Ns mainGlobals mg->mg d.name=some (.ref fa)->
   ∃ fd:FuncData,(∀ (s:Shared) (u:Value),BindsTo s fd ⟨[u],[]⟩ [("script",u)])/\∀ base:Heap,(K w.params).In base->base.Ns mainGlobals mg->bZ l.prog w (K w.params) mg base dA 5 fa fd ["script"] (mQ (K w.params))) :
  WalkO q loose XP YP l.row.toRowW d [] (fun f vs=>PySem.call f vs):=
 L2.K6 (n:=63) (k:=5) (x:="script") (CX:=fun _=>dA) (sp:=fun w=>mQ (K w.params)) hn (by decide) hdf ⟨rfl,by decide,by decide⟩ hY F (fun _ _ a ns hl hO hS=>⟨a,ns,rfl,ac2 hO hS,hl,fun _=>rfl⟩) fun _ _ _ _ _ z=>z
end K_k81
open PySem PySem.W PyProof.Rows
set_option maxRecDepth 100000 in
set_option maxHeartbeats 0 in
theorem PySem.Challenge.cw_kindleweb_k81_strips_made_holds : PySem.Challenge.rw_kindleweb_k81_strips_made.Holds := by
 w_on; o_law; k_head; (case hw => w_witness2)
 k_fill
 refine K_k81.an6 (l := PySem.Challenge.rw_kindleweb_k81_strips_made) rfl rfl (fun w h Y => PySem.W.km_in_of Y) ?F
 case F =>
  intro w mg fa h KX G hmg
  refine' K_k81.an5 KX G hmg ?h0 ?h1 ?h2 ?h3 ?h4 ?h5 ?h6 ?h7 ?h8 ?h9 ?h10 ?h11 ?h12 ?h13 ?h14 ?a15 ?l15 ?c15 ?k15 ?z_len ?z_range ?z_tuple ?z_list ?z_sorted ?z_all ?z_any ?z_zip ?z_min ?z_max ?z_sum ?z_isinstance ?z_int ?z_bool ?z_enumerate ?z_MOST_COUNTEDx ?z_MOST_COUNTED_BY_SEEDSx ?z_MOST_HEARTHSx ?z_MOST_WANTEDx ?z_MOST_WANTED_ON_STRIPSx ?z_MOST_WIDEx ?aX_HE ?aX_BW ?aX_BB ?aX_TM ?zX_BS ?zX_BO ?zX_BP ?zX_BD ?zX_NW ?zX_NP ?zX_NS ?zX_NT ?zX_OR ?y_fg ?y_ft ?z_VE ?y1_HE ?y2_HE ?y3_HE ?y4_HE ?y5_HE ?y6_HE ?y7_HE ?y1_BW ?y2_BW ?y3_BW ?y4_BW ?y5_BW ?y6_BW ?y7_BW ?y1_BB ?y2_BB ?y3_BB ?y4_BB ?y5_BB ?y6_BB ?y7_BB ?y1_TM ?y2_TM ?y3_TM ?y4_TM ?y5_TM ?y6_TM ?y7_TM ?sB_HE ?s_BW_HE ?s_BB_HE ?s_TM_HE ?sN_BB ?s_BW_BB ?n_BW_BB ?s_TM_BB ?n_TM_BB ?sN_TM ?s_BW_TM ?n_BW_TM ?s_BB_TM ?n_BB_TM ?sV_BW ?sV_BB ?sV_TM ?q_BB ?q_TM
  (case h0 | h1 | h2 | h3 | h4 | h5 | h6 | h7 | h8 | h9 | h10 | h11 | h12 | h13 | h14 => exact ⟨by k_is, ⟨⟨_, _, _, _, _, _, _, _, _, rfl, by k_is, by k_is⟩, by k_is⟩⟩)
  (case a15|l15|c15|k15|z_len|z_range|z_tuple|z_list|z_sorted|z_all|z_any|z_zip|z_min|z_max|z_sum|z_isinstance|z_int|z_bool|z_enumerate|z_MOST_COUNTEDx|z_MOST_COUNTED_BY_SEEDSx|z_MOST_HEARTHSx|z_MOST_WANTEDx|z_MOST_WANTED_ON_STRIPSx|z_MOST_WIDEx|aX_HE|aX_BW|aX_BB|aX_TM|zX_BS|zX_BO|zX_BP|zX_BD|zX_NW|zX_NP|zX_NS|zX_NT|zX_OR|y_fg|y_ft|z_VE|y1_HE|y2_HE|y3_HE|y4_HE|y5_HE|y6_HE|y7_HE|y1_BW|y2_BW|y3_BW|y4_BW|y5_BW|y6_BW|y7_BW|y1_BB|y2_BB|y3_BB|y4_BB|y5_BB|y6_BB|y7_BB|y1_TM|y2_TM|y3_TM|y4_TM|y5_TM|y6_TM|y7_TM|sB_HE|s_BW_HE|s_BB_HE|s_TM_HE|sN_BB|s_BW_BB => k_is)
  (case n_BW_BB => decide)
  (case s_TM_BB => k_is)
  (case n_TM_BB => decide)
  (case sN_TM|s_BW_TM => k_is)
  (case n_BW_TM => decide)
  (case s_BB_TM => k_is)
  (case n_BB_TM => decide)
  (case sV_BW|sV_BB|sV_TM => k_is)
  (case q_BB|q_TM => k_exc)


