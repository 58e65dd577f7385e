import PyProof.Rows.All
import Wide.All
import OpenK.AllK
import Wide.FinOn
import Lean
import PyProof.EqAt
import PyProof.EqKinds
import PyProof.TupleCall
import PyProof.NeKinds
import PyProof.Draws
import PyProof.ZipIter
import PyProof.DictUpdate
import PyProof.AutoSeq1
import PyProof.ListRange
import PyProof.ListMulRoad
import PyProof.FactsAll.tuple_2
import PyProof.Rows.SortShell
import PyProof.EnumFor
import PyProof.EnumMake
import PyProof.EnumStmt
import PyProof.Rows.SortWalk
import KE.KDictList
import PyProof.SumAny
import PyProof.ConsumeWalk
import PyProof.WalksMore
import PyProof.Rows.TupAssign
import PyProof.ExcArgsOwn
import PySem.Challenge.RW_kindleweb_k05_rest_webs
set_option Elab.async false
set_option linter.all false
set_option maxRecDepth 100000
set_option maxHeartbeats 4000000
section
open PySem PySem.Spec PyProof.Rows
def aw1:=@wpAny_bind
def aw2:=@Heap.get?_push_of_some
def aw3:=@List.getElem?_eq_getElem
def aw4:=@List.size_toArray
def aw5:=@wpAny_pure
def aw6:=@Nat.le_refl
def aw7:=@List.mem_cons
def aw8:=@List.getElem?_map
def aw9:=@List.length_map
def ax0:=@Nat.lt_of_lt_of_le
def ax1:=@List.not_mem_nil
def ax2:=@Heap.lt_size
def ax3:=@List.getElem?_eq_some_iff
def ax4:=@decide_eq_false
def ax5:=@Heap.get?_push_size
def ax6:=@List.mem_cons_self
def ax7:=@List.mem_cons_of_mem
def ax8:=@List.getD_eq_getElem?_getD
def ax9:=@List.length_append
def ay0:=@decide_eq_true
def ay1:=@Bool.false_ne_true
def ay2:=@List.mem_singleton
def ay3:=@Bool.false_eq_true
def ay4:=@List.getElem?_set_ne
def ay6:=@Option.some.inj
def ay8:=@Nat.ne_of_lt
def az1:=@List.length_singleton
def az2:=@Bool.and_eq_true
def az3:=@or_false
def az4:=@Array.length_toList
def az5:=@List.take_length
def az6:=@List.mem_append_right
def az7:=@Nat.zero_le
def az8:=@PySem.mem_of_lookup
def az9:=@Nat.lt_irrefl
def aA0:=@List.map_cons
def aA3:=@Nat.le_trans
def aA4:=@wpAny_field
def aA5:=@wpAny_callSpecial?_slot
def aA6:=@List.getElem?_cons_succ
def aA8:=@List.mem_append
def aA9:=@PySem.W.kia_one
def aB0:=@List.length_take
def aB1:=@List.lookup_cons
def aB2:=@Nat.le_add_right
def aB3:=@List.mem_of_getElem?
def aB4:=@wpAny_newObj_type
def aB5:=@wpAny_mono
def aB6:=@wpAny_setField_rec
def aB7:=@Int.emod_lt_of_pos
def aB8:=@PyProof.Rows.callWith_type1
def aB9:=@List.mem_map
def aC0:=@List.length_set
def aC1:=@List.map_append
def aC2:=@List.length_drop
def aC3:=@beq_self_eq_true
def aC4:=@if_false
def aC6:=@List.getElem?_set_self
def aC7:=@Int.emod_nonneg
def aC8:=@wpAny_call_entry
def aC9:=@List.length_cons
def aD1:=@List.pairwise_singleton
def aD5:=@Nat.ne_of_gt
def aD6:=@List.all_eq_true
def aD8:=@Nat.le_of_lt
def aD9:=@List.append_nil
def aE1:=@Array.getD_eq_getD_getElem?
def aE2:=@Bool.eq_false_iff
def aE3:=@Heap.size_push
def aE4:=@List.take_add_one
def aE6:=@PyProof.Rows.slot_tuple_getitem
def aF1:=@wpAny_truthy_bool
def aF3:=@Int.toNat_natCast
def aF4:=@Bool.eq_iff_iff
def aF5:=@List.find?_cons
def aF6:=@Heap.SameBut.update
def aF7:=@List.map_map
def aF8:=@List.all_cons
def aF9:=@Nat.le_of_not_lt
def aG0:=@List.getElem_mem
def aG1:=@List.mem_range
def aG2:=@wpAny_pyIter_tuple
def aG6:=@Bool.and_false
def aG7:=@wpAny_seqItems
def aH2:=@List.pairwise_map
def aH5:=@wpAny_holding
end
namespace L2
open PySem PySem.Spec PyProof.Rows
abbrev aD:=Sum Int Str
def jA:aD->Value->Bool
 | .inl k,v=>Value.isInt k v
 | .inr x,v=>Value.isStrOf x v
def C1 (w:World):aD->Int
 | .inl k=>hashInt k
 | .inr x=>hashStr w x
theorem fU:∀ {k:aD}{v:Value},jA k v=true->(∃ i t,k=Sum.inl i/\v=Value.int i t) ∨ (∃ x t,k=Sum.inr x/\v=Value.str x t)
 | .inl i,v,h=>by
  obtain ⟨t,e⟩:=Value.isInt_shape (k:=i) (v:=v) h
  exact .inl ⟨i,t,rfl,e⟩
 | .inr x,v,h=>by
  obtain ⟨t,e⟩:=Value.isStrOf_shape (x:=x) (v:=v) h
  exact .inr ⟨x,t,rfl,e⟩
theorem C2 (i:Int) (t:Tok):jA (.inl i) (.int i t)=true:=by simp [jA,Value.isInt]
theorem C3 (x:Str) (t:Tok):jA (.inr x) (.str x t)=true:=by simp [jA,Value.isStrOf]
theorem C4 (a b:Int):decide ((Sum.inl a:aD)=Sum.inl b)=(a == b):=by
 by_cases e:a=b
 ·subst e; simp
 ·have h : ¬ (Sum.inl a:aD)=Sum.inl b:=fun q=>e (Sum.inl.inj q)
  rw [ax4 h]
  exact (beq_eq_false_iff_ne.mpr e).symm
theorem C5 (a b:Str):decide ((Sum.inr a:aD)=Sum.inr b)=decide (a=b):=by
 by_cases e:a=b
 ·subst e; simp
 ·have h : ¬ (Sum.inr a:aD)=Sum.inr b:=fun q=>e (Sum.inr.inj q)
  rw [ax4 h,ax4 e]
theorem C6 (a:Int) (b:Str):decide ((Sum.inl a:aD)=Sum.inr b)=false:=ax4 (fun q=>nomatch q)
theorem C7 (a:Str) (b:Int):decide ((Sum.inr a:aD)=Sum.inl b)=false:=ax4 (fun q=>nomatch q)
def e8 (prog:Program) (w:World):PySem.KeyKind prog w aD where
 is:=jA
 hash:=C1 w
 inj:=fun v a b ha hb=>by
  rcases fU ha with ⟨i,t,rfl,rfl⟩ | ⟨x,t,rfl,rfl⟩
  ·rcases fU hb with ⟨j,u,rfl,e⟩ | ⟨y,u,rfl,e⟩
   ·injection e with e1 _; rw [e1]
   ·exact nomatch e
  ·rcases fU hb with ⟨j,u,rfl,e⟩ | ⟨y,u,rfl,e⟩
   ·exact nomatch e
   ·injection e with e1 _; rw [e1]
 byValue:=fun k v h=>by
  rcases fU h with ⟨i,t,rfl,rfl⟩ | ⟨x,t,rfl,rfl⟩ <;> rfl
 pyHash:=fun hv h=>by
  rcases fU hv with ⟨i,t,rfl,rfl⟩ | ⟨x,t,rfl,rfl⟩
  ·exact wpAny_pyHash_int h
  ·exact wpAny_pyHash_str h
 eqBool:=fun hu hv h=>by
  rcases fU hu with ⟨i,t,rfl,rfl⟩ | ⟨x,t,rfl,rfl⟩
  ·rcases fU hv with ⟨j,u,rfl,rfl⟩ | ⟨y,u,rfl,rfl⟩
   ·rw [C4] at h; exact wpAny_eqBool_int h
   ·rw [C6] at h; exact SeqAt.EqAt.int_str i t y u _ _ _ _ h
  ·rcases fU hv with ⟨j,u,rfl,rfl⟩ | ⟨y,u,rfl,rfl⟩
   ·rw [C7] at h; exact SeqAt.EqAt.str_int x t j u _ _ _ _ h
   ·rw [C5] at h; exact wpAny_eqBool_str h
 «strs»:=fun k x t v h=>by
  rcases fU h with ⟨i,u,rfl,e⟩ | ⟨y,u,rfl,e⟩
  ·exact nomatch e
  ·injection e with e1 _
   subst e1
   cases v <;> rfl
theorem C8 (prog:Program) (w:World) (i:Int) (t:Tok):(e8 prog w).is (.inl i) (.int i t)=true:=C2 i t
theorem C9 (prog:Program) (w:World) (x:Str) (t:Tok):(e8 prog w).is (.inr x) (.str x t)=true:=C3 x t
inductive V where
 | non | bl (b:Bool) | int (i:Int) | str (x:Str) | byt (b:Array UInt8) | flt (b:UInt64) | ref (a:Addr) | ty (n:String)
 deriving DecidableEq
def aN:V->Value->Prop
 | .non,u=>u=Value.none
 | .bl b,u=>u=Value.bool b
 | .int i,u=>∃ t,u=Value.int i t
 | .str x,u=>∃ t,u=Value.str x t
 | .byt b,u=>∃ t,u=Value.bytes b t
 | .flt b,u=>∃ t,u=Value.float b t
 | .ref a,u=>u=Value.ref a
 | .ty n,u=>u=Value.type n
abbrev aL:List V->List Value->Prop:=Paired aN
theorem aL.length {xs:List V}{us:List Value} (r:aL xs us):xs.length=us.length:=Paired.length r
theorem aL.get:∀ {xs:List V}{us:List Value}{i:Nat}{x:V},aL xs us->xs[i]? = some x->∃ u,us[i]? = some u/\aN x u
 | _,_,_,_,.nil,e=>by simp at e
 | _,_,0,_,.cons r _,e=>by simp at e; subst e; exact⟨_,rfl,r⟩
 | _,_,i+1,x,.cons _ t,e=>by
  obtain ⟨u,h1,h2⟩:=aL.get (i:=i) (x:=x) t (by simpa using e)
  exact⟨u,by simpa using h1,h2⟩
theorem aL.append:∀ {xs ys:List V}{us ws:List Value},aL xs us->aL ys ws->aL (xs ++ ys) (us ++ ws)
 | _,_,_,_,.nil,s=>s
 | _,_,_,_,.cons r t,s=>.cons r (aL.append t s)
theorem aL.take:∀ {xs:List V}{us:List Value} (n:Nat),aL xs us->aL (xs.take n) (us.take n)
 | _,_,0,_=>.nil
 | _,_,_+1,.nil=>.nil
 | _,_,n+1,.cons r t=>.cons r (aL.take n t)
theorem aL.drop:∀ {xs:List V}{us:List Value} (n:Nat),aL xs us->aL (xs.drop n) (us.drop n)
 | _,_,0,r=>r
 | _,_,_+1,.nil=>.nil
 | _,_,n+1,.cons _ t=>aL.drop n t
def fC:Option V->Option Value->Prop
 | some v,some u=>aN v u
 | none,none=>True
 | _,_=>False
def KV {κ:Type}:List (κ × V)->List (κ × Value)->Prop:=Paired fun (p:κ × V) (q:κ × Value)=>p.1=q.1/\aN p.2 q.2
def kV:aD->V
 | .inl i=>.int i
 | .inr x=>.str x
inductive HO where
 | lst (xs:List V)
 | tup (xs:List V)
 | dK (kvs:List (aD × V)) | dT (kvs:List (List aD × V))
 | set (S:Int->Bool) (n:Nat)
 | ins (C dx:Addr) (fs:List (Str × V))
 | own (x:Addr)
 | xd (fs:List (Str × V))
 | met (f x:Addr)
 | rng (lo hi:Int)
 | frz (o:Obj) (u:HO)
 | tbl (ps:Array Value)
 | ext (φ:Heap->Prop)
abbrev Hp:=Addr->Option HO
def upd (H:Hp) (a:Addr) (o:HO):Hp:=fun b=>if b=a then some o else H b
theorem aU {H:Hp}{a:Addr}{o:HO}:upd H a o a=some o:=by unfold upd; rw [if_pos rfl]
theorem aB {H:Hp}{a b:Addr}{o:HO} (h:b ≠ a):upd H a o b=H b:=by unfold upd; rw [if_neg h]
theorem E1 {H:Hp}{a b:Addr}{o u:HO} (h:H a=some o) (h':H b=some u) (d:o ≠ u):a ≠ b:=by
 intro e; subst e; rw [h] at h'; exact d (ay6 h')
theorem bI {H:Hp}{a b:Addr}{o:HO} (h:H a=some o) (h':H b=none):a ≠ b:=by
 intro e; subst e; rw [h] at h'; cases h'
def fV (h:Heap) (a:Addr):Prop:=∀ o,h.get? a=some o->o.dict=none
theorem fV.new (h:Heap) (o:Obj) (d:o.dict=none) (s:o.isFreed=false:=by rfl):fV (h.push o) h.objs.size:=fun u e=>by
 rw [ax5 h (o:=o) s] at e
 cases e; exact d
theorem fV.stay {h h':Heap}{a:Addr}{o:Obj} (n:fV h a) (e:h.get? a=some o) (e':h'.get? a=some o):fV h' a:=fun u hu=>by
 rw [e'] at hu; cases hu; exact n _ e
section
variable (P : Program) (w : World)
def aZ (H:Hp) (h:Heap) (a:Addr):HO->Prop
 | .lst xs=>xs.length<=sizeLine/\∃ (its:List Value) (n:Nat),aL xs its/\h.get? a=some { cls:=.type "list",data:=.seq its.toArray n }
 | .tup xs=>xs.length<=sizeLine/\∃ its:List Value,aL xs its/\IsTup h a its.toArray/\fV h a
 | .dK kvs=>kvs.length<=sizeLine/\(a == sysModules)=false/\∃ vs,KV kvs vs/\h.DictOf (e8 P w) a vs
 | .dT kvs=>kvs.length<=sizeLine/\(a == sysModules)=false/\∃ xs:List (List aD × Addr × Value),
   Paired (fun (p:List aD × V) (q:List aD × Addr × Value)=>p.1=q.1/\H q.2.1=some (.tup (p.1.map kV))/\aN p.2 q.2.2) kvs xs/\
   ∃ o es ep,h.get? a=some o/\o.ExactDict/\o.data = .dict es ep/\es.toList=xs.map (entryOfKey (tupleKind (e8 P w)))/\(xs.map (·.1)).Nodup
 | .set S n=>h.SetOf (intKind P w) a S n
 | .ins C dx fs=>H dx=some (.own a)/\fs.length<=1000/\dx ≠ a/\h.get? a=some (PySem.W.instObj C dx)/\
   ∃ mA,h.Ns1 dx mA/\(∀ f,fC (fs.lookup f) (mA f))/\PySem.Within mA (fs.map (·.1))
 | .own _=>∃ o,h.get? a=some o
 | .xd fs=>∃ mA,h.Ns1 a mA/\∀ f,fC (fs.lookup f) (mA f)
 | .rng lo hi=>∃ t u v,h.get? a=some { cls:=.type "range",data:=.fields #[.int lo t,.int hi u,.int 1 v] }
 | .frz o u=>h.get? a=some o/\aZ H h a u
 | .tbl ps=>h.get? a=some { cls:=.none,data:=.fields ps }
 | .met f x=>h.get? a=some (PySem.W.methodObj (.ref f) (.ref x))
 | .ext φ=>φ h/\(∃ o,h.get? a=some o)/\∀ h1 h2:Heap,φ h1->(∀ o,h1.get? a=some o->h2.get? a=some o)->φ h2
def b9 (H:Hp) (h:Heap):Prop:=∀ a o,H a=some o->aZ P w H h a o
end
section
variable {P : Program} {w : World} {H H' : Hp} {h h' : Heap} {a : Addr} {o : HO}
theorem aZ.lt (x:aZ P w H h a o):a < h.objs.size:=by
 cases o with
 | lst xs=>obtain ⟨_,_,_,_,e⟩:=x; exact ax2 e
 | tup xs=>obtain ⟨_,_,_,p,_⟩:=x; exact p.lt
 | dK kvs=>obtain ⟨_,_,_,_,o,_,_,e,_⟩:=x; exact ax2 e
 | dT kvs=>obtain ⟨_,_,_,_,o,_,_,e,_⟩:=x; exact ax2 e
 | set S n=>obtain ⟨o,_,_,_,e,_⟩:=x; exact ax2 e
 | ins C dx fs=>obtain ⟨_,_,_,e,_⟩:=x; exact ax2 e
 | own y=>obtain ⟨_,e⟩:=x; exact ax2 e
 | xd fs=>obtain ⟨_,⟨_,_,_,e,_⟩,_⟩:=x; exact ax2 e
 | rng lo hi=>obtain ⟨_,_,_,e⟩:=x; exact ax2 e
 | frz ob u=>obtain ⟨e,_⟩:=x; exact ax2 e
 | tbl ps=>exact ax2 (show h.get? a=some _ from x)
 | met f y=>exact ax2 (show h.get? a=some _ from x)
 | ext φ=>obtain ⟨_,⟨_,e⟩,_⟩:=x; exact ax2 e
theorem Paired.mapP {α β:Type}{F G:α->β->Prop}:∀ {l₁:List α}{l₂:List β},Paired F l₁ l₂->(∀ a b,F a b->G a b)->Paired G l₁ l₂
 | _,_,.nil,_=>.nil
 | _,_,.cons r t,f=>.cons (f _ _ r) (Paired.mapP t f)
theorem aZ.stay (x:aZ P w H h a o) (k:∀ b u,(b=a ∨ H b=some (.own a))->h.get? b=some u->h'.get? b=some u)
  (ho:∀ b,H b=some (.own a)->H' b=some (.own a)) (ht:∀ b xs,H b=some (.tup xs)->H' b=some (.tup xs)):aZ P w H' h' a o:=by
 induction o with
 | lst xs=>obtain ⟨z,its,n,r,e⟩:=x; exact⟨z,its,n,r,k _ _ (.inl rfl) e⟩
 | tup xs=>obtain ⟨z,its,r,⟨ob,e,c⟩,nd⟩:=x; exact⟨z,its,r,⟨ob,k _ _ (.inl rfl) e,c⟩,nd.stay e (k _ _ (.inl rfl) e)⟩
 | dK kvs=>obtain ⟨z,y,vs,r,ob,es,ep,e,c⟩:=x; exact⟨z,y,vs,r,ob,es,ep,k _ _ (.inl rfl) e,c⟩
 | dT kvs=>
  obtain ⟨z,y,xs,r,ob,es,ep,e,c⟩:=x
  exact⟨z,y,xs,Paired.mapP r fun p q z=>⟨z.1,ht _ _ z.2.1,z.2.2⟩,ob,es,ep,k _ _ (.inl rfl) e,c⟩
 | set S n=>obtain ⟨ob,es,ep,t,e,c⟩:=x; exact⟨ob,es,ep,t,k _ _ (.inl rfl) e,c⟩
 | ins C dx fs=>
  obtain ⟨d,z,ne,e,mA,⟨od,es,ep,e2,c⟩,r⟩:=x
  exact⟨ho _ d,z,ne,k _ _ (.inl rfl) e,mA,⟨od,es,ep,k _ _ (.inr d) e2,c⟩,r⟩
 | own y=>obtain ⟨ob,e⟩:=x; exact⟨ob,k _ _ (.inl rfl) e⟩
 | xd fs=>obtain ⟨mA,⟨od,es,ep,e,c⟩,r⟩:=x; exact⟨mA,⟨od,es,ep,k _ _ (.inl rfl) e,c⟩,r⟩
 | rng lo hi=>obtain ⟨t,u,v,e⟩:=x; exact⟨t,u,v,k _ _ (.inl rfl) e⟩
 | frz ob u ih=>obtain ⟨e,q⟩:=x; exact⟨k _ _ (.inl rfl) e,ih q⟩
 | tbl ps=>
  have e:h.get? a=some { cls:=.none,data:=.fields ps }:=x
  show h'.get? a=some { cls:=.none,data:=.fields ps }
  exact k a _ (.inl rfl) e
 | met f y=>
  have e:h.get? a=some (PySem.W.methodObj (.ref f) (.ref y)):=x
  show h'.get? a=some (PySem.W.methodObj (.ref f) (.ref y))
  exact k a _ (.inl rfl) e
 | ext φ=>obtain ⟨p,⟨o,e⟩,st⟩:=x; exact⟨st _ _ p fun o q=>k _ _ (.inl rfl) q,⟨o,k _ _ (.inl rfl) e⟩,st⟩
theorem b9.lt (x:b9 P w H h) (e:H a=some o):a < h.objs.size:=(x a o e).lt
theorem b9.fresh (x:b9 P w H h) (e:h.objs.size<=a):H a=none:=by
 cases q:H a with
 | none=>rfl
 | some u=>exact absurd (ax0 (x.lt q) e) (az9 _)
theorem b9.kept (x:b9 P w H h) (k:∀ b u,h.get? b=some u->h'.get? b=some u):b9 P w H h':=fun a o e=>
 (x a o e).stay (fun b u _ q=>k b u q) (fun _ q=>q) fun _ _ q=>q
theorem b9.laid (x:b9 P w H h) (k:∀ b u,h.get? b=some u->h'.get? b=some u) (hp:h.objs.size<=a) (new:aZ P w (upd H a o) h' a o):b9 P w (upd H a o) h':=fun b u e=>by
 have hn:=x.fresh hp
 by_cases hb:b=a
 ·subst hb; rw [aU] at e; cases e; exact new
 ·rw [aB hb] at e
  exact (x b u e).stay (fun c v _ q=>k c v q) (fun c q=>by rw [aB (bI q hn)]; exact q) fun c xs q=>by rw [aB (bI q hn)]; exact q
end
def Rd (H:Hp) (a:Addr) (u:HO):Prop:=H a=some u ∨ ∃ o,H a=some (.frz o u)
theorem Rd.ok {P:Program}{w:World}{H:Hp}{h:Heap}{a:Addr}{u:HO} (r:Rd H a u) (x:b9 P w H h):aZ P w H h a u:=by
 rcases r with r | ⟨o,r⟩
 ·exact x a u r
 ·obtain ⟨_,q⟩:=x a _ r
  exact q
def k8:Option HO->Prop
 | some (.lst _)=>True
 | some (.dK _)=>True
 | some (.dT _)=>True
 | some (.set _ _)=>True
 | some (.ins _ _ _)=>True
 | some (.ext _)=>True
 | _=>False
section
variable {P : Program} {w : World} {H : Hp} {h h' : Heap} {x e : Addr} {o' : HO}
theorem b9.write (ok:b9 P w H h) (mu:k8 (H x)) (he:e=x ∨ H e=some (.own x)) (k:∀ b u,b ≠ e->h.get? b=some u->h'.get? b=some u) (heo:∃ u,h'.get? e=some u)
  (new:aZ P w (upd H x o') h' x o'):b9 P w (upd H x o') h':=fun b u q=>by
 have nown:∀ c y,H c=some (.own y)->c ≠ x:=fun c y r z=>by subst z; rw [r] at mu; exact mu
 have ntup:∀ c xs,H c=some (.tup xs)->c ≠ x:=fun c xs r z=>by subst z; rw [r] at mu; exact mu
 by_cases hb:b=x
 ·subst hb; rw [aU] at q; cases q; exact new
 ·rw [aB hb] at q
  by_cases hbe:b=e
  ·have q':H b=some (.own x):=by
    rcases he with z | z
    ·exact absurd (hbe.trans z) hb
    ·rw [hbe]; exact z
   rw [q] at q'; cases q'
   obtain ⟨v,hv⟩:=heo
   exact⟨v,by rw [hbe]; exact hv⟩
  ·refine (ok b u q).stay (fun c v hc r=>k c v ?_ r) (fun c r=>by rw [aB (nown c b r)]; exact r) fun c xs r=>by rw [aB (ntup c xs r)]; exact r
   rcases hc with rfl | hc
   ·exact hbe
   ·rintro rfl
    rcases he with z | z
    ·exact nown c b hc z
    ·rw [hc] at z; cases z; exact hb rfl
end
structure Un (fs ex:List Addr) (H H':Hp) (h h':Heap):Prop where
 keep:∀ b o,h.get? b=some o->H b=none->b ∉ fs->b ∉ ex->h'.get? b=some o
 slot:∀ b o,h.get? b=some o->H b=none->b ∈ fs->b ∉ ex->∃ sl,h'.get? b=some { o with slots:=sl }
 free:∀ b o,h.get? b=some o->H b=none->b ∉ ex->H' b=none
 there:∀ b o,h.get? b=some o->b ∉ ex->∃ o',h'.get? b=some o'
 tups:∀ b xs,H b=some (.tup xs)->H' b=some (.tup xs)
 frzs:∀ b o u,H b=some (.frz o u)->H' b=some (.frz o u)
 tbls:∀ b ps,H b=some (.tbl ps)->∃ more,H' b=some (.tbl (ps ++ more))
section
variable {fs fs' ex ex' : List Addr} {H H1 H2 : Hp} {h h1 h2 h' : Heap} {a x e : Addr} {o : HO}
theorem Un.any (u:Un fs ex H H1 h h1) {b:Addr}{ob:Obj} (q:h.get? b=some ob) (n:H b=none) (hx:b ∉ ex):∃ sl,h1.get? b=some { ob with slots:=sl }:=by
 by_cases hb:b ∈ fs
 ·exact u.slot b ob q n hb hx
 ·exact⟨ob.slots,u.keep b ob q n hb hx⟩
theorem Un.kept (k:∀ b u,h.get? b=some u->h'.get? b=some u):Un fs ex H H h h':=
 ⟨fun b ob q _ _ _=>k b ob q,fun b ob q _ _ _=>⟨ob.slots,k b ob q⟩,fun _ _ _ n _=>n,fun b ob q _=>⟨ob,k b ob q⟩,fun _ _ q=>q,fun _ _ _ q=>q,fun _ ps q=>⟨#[],by rw [q]; simp⟩⟩
theorem Un.refl:Un fs ex H H h h:=Un.kept fun _ _ q=>q
theorem Un.laid (k:∀ b u,h.get? b=some u->h'.get? b=some u) (hp:h.objs.size<=a) (hn:H a=none):Un fs ex H (upd H a o) h h' where
 keep:=fun b u q _ _ _=>k b u q
 slot:=fun b u q _ _ _=>⟨u.slots,k b u q⟩
 free:=fun b u q n _=>by rw [aB (ay8 (ax0 (ax2 q) hp))]; exact n
 there:=fun b u q _=>⟨u,k b u q⟩
 tups:=fun b xs q=>by rw [aB (bI q hn)]; exact q
 frzs:=fun b u xs q=>by rw [aB (bI q hn)]; exact q
 tbls:=fun b ps q=>⟨#[],by rw [aB (bI q hn),q]; simp⟩
theorem Un.write (mu:k8 (H x)) (he:e=x ∨ H e=some (.own x)) (k:∀ b u,b ≠ e->h.get? b=some u->h'.get? b=some u) (heo:∃ u,h'.get? e=some u):Un fs ex H (upd H x o) h h':=by
 have hx:∀ b,H b=none->b ≠ x:=fun b n z=>by subst z; rw [n] at mu; exact mu
 have hb:∀ b,H b=none->b ≠ e:=fun b n z=>by
  subst z
  rcases he with r | r
  ·exact hx b n r
  ·rw [n] at r; cases r
 have hm:∀ b u,H b=some u->¬ k8 (some u)->b ≠ x:=fun b u q nm z=>by subst z; rw [q] at mu; exact nm mu
 refine⟨fun b u q n _ _=>k b u (hb b n) q,fun b u q n _ _=>⟨u.slots,k b u (hb b n) q⟩,fun b u q n _=>by rw [aB (hx b n)]; exact n,fun b u q _=>?_,
  fun b xs q=>by rw [aB (hm b _ q fun z=>z)]; exact q,fun b u xs q=>by rw [aB (hm b _ q fun z=>z)]; exact q,fun b ps q=>⟨#[],by rw [aB (hm b _ q fun z=>z),q]; simp⟩⟩
 by_cases hbe:b=e
 ·subst hbe; exact heo
 ·exact⟨u,k b u hbe q⟩
end
def lS (h:Heap) (H:Hp):List Addr:=(List.range h.objs.size).filter fun a=>(H a).isSome
def gH (h:Heap) (H:Hp):Heap:=PySem.W.hideAll h (lS h H)
theorem E2 (h:Heap) (H:Hp):(gH h H).objs.size=h.objs.size:=PySem.W.hideAll_size _ _
theorem E3 {h:Heap}{H:Hp}{b:Addr}{o:Obj} (e:h.get? b=some o) (n:H b=none):(gH h H).get? b=some o:=
 PySem.W.hideAll_get _ e fun hm=>by
  have q:(H b).isSome=true:=(List.mem_filter.mp hm).2
  rw [n] at q; simp at q
theorem E4 {h:Heap}{H:Hp}{b:Addr}{o:Obj} (e:(gH h H).get? b=some o):h.get? b=some o/\H b=none:=by
 have e':h.get? b=some o:=PySem.W.of_hideAll (lS h H) e
 refine⟨e',?_⟩
 cases q:H b with
 | none=>rfl
 | some x=>
  have hm:b ∈ lS h H:=List.mem_filter.mpr ⟨aG1.mpr (ax2 e'),by simp [q]⟩
  have z:(gH h H).get? b=none:=PySem.W.hideAll_none (lS h H) hm
  rw [z] at e; cases e
def k9 (g h:Heap) (L:Addr):List (Addr × Obj):=(List.range h.objs.size).filterMap fun a=>if a=L ∨ (g.get? a).isSome=true then none else (h.get? a).map fun o=>(a,o)
theorem tI {g h:Heap}{L a:Addr}{o:Obj} (h1:a ≠ L) (h2:g.get? a=none) (h3:h.get? a=some o):(a,o) ∈ k9 g h L:=
 List.mem_filterMap.mpr ⟨a,aG1.mpr (ax2 h3),by simp [h1,h2,h3]⟩
theorem E5 {g h:Heap}{L:Addr}{p:Addr × Obj} (hp:p ∈ k9 g h L):p.1 ≠ L/\g.get? p.1=none/\h.get? p.1=some p.2:=by
 obtain ⟨b,_,e⟩:=List.mem_filterMap.mp hp
 split at e
 ·cases e
 ·rename_i hn
  cases q:h.get? b with
  | none=>rw [q] at e; simp at e
  | some u=>
   rw [q] at e
   simp only [Option.map_some,Option.some.injEq] at e
   subst e
   refine⟨fun z=>hn (.inl z),?_,q⟩
   show g.get? b=none
   cases r:g.get? b with
   | none=>rfl
   | some v=>exact (hn (.inr (by simp [r]))).elim
def bT (g h:Heap) (L d:Addr):List (Addr × Obj):=(k9 g h L).filter fun p=>decide (p.1 ≠ d)
theorem E6 {g h:Heap}{L:Addr}:News g L h (k9 g h L):=fun p hp=>let ⟨a,b,c⟩:=E5 hp; ⟨c,a,b⟩
structure Mod (K:PySem.W.Frag) (mg:Str->Option Value) (base:Heap):Prop where
 kin:K.In base
 glob:base.Ns mainGlobals mg
 blt:∃ mb,base.Ns builtinsNs mb/\∀ x:Str,x ≠ "__name__"->mb x=bootBuiltins x
 nolimit:base.NoLimit
structure Cx where
 prog:Program
 w:World
 K:PySem.W.Frag
 mg:Str->Option Value
 base:Heap
 A:Around
 N:List Str
 s₀:Shared
 H₀:Hp
 env:Env
 outer:List Env
 stack:List Env
 ex:List Addr
 fn:Str->Bool
 calm:Bool
 pn:List (Addr × Obj)
 xe:Value->Shared->Prop
def b6 (l:List Env):List Addr:=l.filterMap (·.frame)
abbrev Cx.fs (X:Cx):List Addr:=b6 X.outer
def i5 (sc:Scope) (x:Str):Prop:=sc.names.lookup x=some .local ∨ sc.names.lookup x=some .cell ∨ sc.names.lookup x=some .free
def gI (sc:Scope) (x:Str):Prop:=sc.names.lookup x=some .local ∨ sc.names.lookup x=some .cell
def E7 (env:Env) (h:Heap) (m:Str->Option Value) (x:Str) (u:Value):Prop:=
 (env.kindOf x=some .local/\m x=some u) ∨ ((env.kindOf x=some .cell ∨ env.kindOf x=some .free)/\∃ c,env.cells.lookup x=some c/\h.IsCell c (some u))
structure Cx.Ok (X:Cx):Prop where
 mod:Mod X.K X.mg X.base
 kind:X.env.scope.kind = .function
 glob:X.env.globals=mainGlobals
 blt:X.env.builtins=builtinsNs
 above:X.s₀.heap.objs.size<=X.env.locals
 inj:∀ x y c,X.env.cells.lookup x=some c->X.env.cells.lookup y=some c->x=y
 has:∀ x,(X.env.kindOf x=some .cell ∨ X.env.kindOf x=some .free)->∃ c,X.env.cells.lookup x=some c
 cab:∀ x c,X.fn x=true->X.env.cells.lookup x=some c->X.s₀.heap.objs.size<=c
 hd:X.calm=true->X.A.handled=none
 frames:X.A.frames=some X.stack
 stk:X.stack=X.outer ∨ (X.stack=X.env :: X.outer/\X.env.frame=some X.env.locals)
 exf:∀ b ∈ X.ex,b ≠ X.env.locals/\∀ x c,X.env.cells.lookup x=some c->c ≠ b
 bs:∀ b o,X.base.get? b=some o->X.s₀.heap.get? b=some o/\X.H₀ b=none
 bsz:X.base.objs.size<=X.s₀.heap.objs.size
 noex:∀ b o,X.base.get? b=some o->b ∉ X.ex
 exfs:∀ b ∈ X.ex,b ∉ X.fs
 funs:X.s₀.heap.FunFrames X.base X.outer
 frf:∀ b ∈ X.fs,X.H₀ b=none
structure a5 (X:Cx) (pins:List (Addr × Obj)) (σ:List (Option V)) (H:Hp) (s:Shared):Prop where
 ok:X.Ok
 os:s.os=X.s₀.os
 bare:AllBare s.gens
 base:Un X.fs X.ex X.H₀ H X.s₀.heap s.heap
 loc:∃ m,s.heap.Ns X.env.locals m/\∀ (i:Nat) (x:Str) (v:V),X.N[i]? = some x->σ[i]? = some (some v)->i5 X.env.scope x->∃ u,aN v u/\E7 X.env s.heap m x u
 cell:∀ x c,X.env.cells.lookup x=some c->∃ v,s.heap.IsCell c v
 free:H X.env.locals=none
 freeC:∀ x c,X.env.cells.lookup x=some c->H c=none
 pin:∀ p ∈ X.pn ++ pins,s.heap.get? p.1=some p.2/\H p.1=none/\p.1 ≠ X.env.locals/\p.1 ∉ X.fs/\∀ v,p.2.data ≠ .cell v
 hok:b9 X.prog X.w H s.heap
 len:σ.length=X.N.length
section
variable {X : Cx} {pins : List (Addr × Obj)} {σ : List (Option V)} {H H' : Hp} {s : Shared} {h' : Heap}
theorem Cx.Ok.nofr (ok:X.Ok) {b:Addr}{o:Obj} (e:X.base.get? b=some o):b ∉ X.fs:=fun hb=>by
 have:=(ok.funs.mem hb).1
 rw [e] at this; cases this
theorem a5.bs (I:a5 X pins σ H s):∀ b o,X.base.get? b=some o->s.heap.get? b=some o/\H b=none:=fun b o e=>
 ⟨I.base.keep b o (I.ok.bs b o e).1 (I.ok.bs b o e).2 (I.ok.nofr e) (I.ok.noex b o e),I.base.free b o (I.ok.bs b o e).1 (I.ok.bs b o e).2 (I.ok.noex b o e)⟩
theorem a5.bk (I:a5 X pins σ H s):∀ b o,X.base.get? b=some o->s.heap.get? b=some o:=fun b o e=>(I.bs b o e).1
theorem a5.mod (I:a5 X pins σ H s):Mod X.K X.mg X.base:=I.ok.mod
theorem a5.kIn (I:a5 X pins σ H s):X.K.In s.heap:=I.ok.mod.kin.keeps I.bk
theorem a5.fr (I:a5 X pins σ H s):∃ m,Fr X.base X.env.locals s.heap m:=
 let ⟨m,hn,_⟩:=I.loc
 ⟨m,hn,I.bk,aA3 I.ok.bsz I.ok.above⟩
theorem a5.lt (I:a5 X pins σ H s):X.env.locals < s.heap.objs.size:=let ⟨_,hn,_⟩:=I.loc; hn.lt
theorem a5.sz (I:a5 X pins σ H s):X.s₀.heap.objs.size<=s.heap.objs.size:=aA3 I.ok.above (aD8 I.lt)
theorem a5.nofs (I:a5 X pins σ H s) {a:Addr} (h:s.heap.objs.size<=a):a ∉ X.fs:=fun hb=>by
 obtain ⟨_,o,ho,_⟩:=I.ok.funs.mem hb
 exact absurd (ax0 (ax2 ho) (aA3 I.sz h)) (az9 _)
theorem a5.cne (I:a5 X pins σ H s):∀ x c,X.env.cells.lookup x=some c->c ≠ X.env.locals:=fun x c e z=>by
 obtain ⟨v,o,ho,hd⟩:=I.cell x c e
 obtain ⟨m,⟨o',es,ep,ho',hd',_⟩,_⟩:=I.loc
 rw [z,ho'] at ho; cases ho; rw [hd'] at hd; cases hd
theorem a5.funs (I:a5 X pins σ H s):s.heap.FunFrames X.base X.outer:=by
 have all:∀ (l:List Env),(∀ b ∈ b6 l,b ∈ X.fs)->X.s₀.heap.FunFrames X.base l->s.heap.FunFrames X.base l:=by
  intro l
  induction l with
  | nil=>intro _ _; trivial
  | cons env r ih=>
   intro hs hl
   obtain ⟨hk,⟨L,o,hf,hn,ho,hd⟩,hr⟩:=hl
   have hL:L ∈ X.fs:=hs L (by unfold b6; rw [List.filterMap_cons,hf]; exact ax6)
   obtain ⟨sl,e⟩:=I.base.slot L o ho (I.ok.frf L hL) hL fun z=>I.ok.exfs L z hL
   exact⟨hk,⟨L,_,hf,hn,e,hd⟩,ih (fun b hb=>hs b (by unfold b6; rw [List.filterMap_cons,hf]; exact ax7 _ hb)) hr⟩
 exact all X.outer (fun _ hb=>hb) I.ok.funs
theorem a5.stack (I:a5 X pins σ H s):s.heap.FunFrames X.base X.stack:=by
 rcases I.ok.stk with e | ⟨e,hf⟩
 ·rw [e]; exact I.funs
 ·rw [e]
  obtain ⟨m,hn,_⟩:=I.loc
  refine .cons (by rw [I.ok.kind]; decide) hf hn ?_ I.funs
  exact Heap.get?_none_of_le (aA3 I.ok.bsz I.ok.above)
theorem a5.stkSub (I:a5 X pins σ H s):∀ b ∈ b6 X.stack,b ∈ X.env.locals :: X.fs:=fun b hb=>by
 rcases I.ok.stk with e | ⟨e,hf⟩
 ·rw [e] at hb; exact ax7 _ hb
 ·rw [e] at hb
  unfold b6 at hb
  rw [List.filterMap_cons,hf] at hb
  exact hb
theorem a5.stkFree (I:a5 X pins σ H s):∀ b ∈ b6 X.stack,H b=none:=fun b hb=>by
 rcases aw7.mp (I.stkSub b hb) with e | hb
 ·rw [e]; exact I.free
 ·obtain ⟨_,o,ho,_⟩:=I.ok.funs.mem hb
  exact I.base.free b o ho (I.ok.frf b hb) fun z=>I.ok.exfs b z hb
theorem a5.step {g':Array GenState}{t':Nat}{d':Drawn}{ch:List Addr} (I:a5 X pins σ H s)
  (hch:∀ b ∈ ch,(b ∈ X.ex ∨ X.s₀.heap.objs.size<=b)/\b ≠ X.env.locals/\(∀ x c,X.env.cells.lookup x=some c->c ≠ b)/\∀ p ∈ X.pn ++ pins,p.1 ≠ b)
  (keep:∀ b o,b ≠ X.env.locals->b ∉ X.fs->b ∉ ch->s.heap.get? b=some o->H b=none->h'.get? b=some o)
  (slot:∀ b o,b ≠ X.env.locals->b ∈ X.fs->b ∉ ch->s.heap.get? b=some o->H b=none->∃ sl,h'.get? b=some { o with slots:=sl }) (free:∀ b o,b ∉ ch->s.heap.get? b=some o->H b=none->H' b=none)
  (there:∀ b o,b ∉ ch->s.heap.get? b=some o->∃ o',h'.get? b=some o')
  (tups:∀ b xs,H b=some (.tup xs)->H' b=some (.tup xs)) (frzs:∀ b o u,H b=some (.frz o u)->H' b=some (.frz o u)) (tbls:∀ b ps,H b=some (.tbl ps)->∃ more,H' b=some (.tbl (ps ++ more)))
  (ns:∀ m,s.heap.Ns X.env.locals m->h'.Ns X.env.locals m) (hok:b9 X.prog X.w H' h') (hg:AllBare g') :
  a5 X pins σ H' { s with heap:=h',gens:=g',drawn:=d',toks:=t' }:=by
 have neL:∀ b o,X.s₀.heap.get? b=some o->b ≠ X.env.locals:=fun b o e=>ay8 (ax0 (ax2 e) I.ok.above)
 have neC:∀ b o,X.s₀.heap.get? b=some o->b ∉ X.ex->b ∉ ch:=fun b o e hx hb=>by
  rcases (hch b hb).1 with z | z
  ·exact hx z
  ·exact absurd (ax0 (ax2 e) z) (az9 _)
 have cellK:∀ x c,X.env.cells.lookup x=some c->∀ v,s.heap.IsCell c v->h'.IsCell c v:=fun x c e v ⟨o,ho,hd⟩=>by
  have nch:c ∉ ch:=fun z=>(hch c z).2.2.1 x c e rfl
  by_cases hc:c ∈ X.fs
  ·obtain ⟨sl,q⟩:=slot c o (I.cne x c e) hc nch ho (I.freeC x c e)
   exact⟨_,q,hd⟩
  ·exact⟨o,keep c o (I.cne x c e) hc nch ho (I.freeC x c e),hd⟩
 refine⟨I.ok,I.os,hg,⟨fun b o e n hb hx=>?_,fun b o e n hb hx=>?_,fun b o e n hx=>?_,fun b o e hx=>?_,fun b xs e=>tups b xs (I.base.tups b xs e),fun b o xs e=>frzs b o xs (I.base.frzs b o xs e),fun b ps e=>?_⟩,?_,fun x c e=>?_,?_,fun x c e=>?_,fun p hp=>?_,hok,I.len⟩
 ·exact keep b o (neL b o e) hb (neC b o e hx) (I.base.keep b o e n hb hx) (I.base.free b o e n hx)
 ·obtain ⟨sl,e1⟩:=I.base.slot b o e n hb hx
  obtain ⟨sl',e2⟩:=slot b _ (neL b o e) hb (neC b o e hx) e1 (I.base.free b o e n hx)
  exact⟨sl',e2⟩
 ·obtain ⟨o',e1⟩:=I.base.there b o e hx
  exact free b o' (neC b o e hx) e1 (I.base.free b o e n hx)
 ·obtain ⟨o',e1⟩:=I.base.there b o e hx
  exact there b o' (neC b o e hx) e1
 ·obtain ⟨m1,e1⟩:=I.base.tbls b ps e
  obtain ⟨m2,e2⟩:=tbls b _ e1
  exact⟨m1 ++ m2,by rw [e2,Array.append_assoc]⟩
 ·obtain ⟨m,hn,hl⟩:=I.loc
  refine⟨m,ns m hn,fun i x v e1 e2 e3=>?_⟩
  obtain ⟨u,r,l⟩:=hl i x v e1 e2 e3
  refine⟨u,r,?_⟩
  rcases l with l | ⟨k,c,e,z⟩
  ·exact .inl l
  ·exact .inr ⟨k,c,e,cellK x c e _ z⟩
 ·obtain ⟨v,z⟩:=I.cell x c e
  exact⟨v,cellK x c e v z⟩
 ·obtain ⟨m,⟨o,_,_,ho,_⟩,_⟩:=I.loc
  exact free _ o (fun z=>(hch _ z).2.1 rfl) ho I.free
 ·obtain ⟨v,o,ho,hd⟩:=I.cell x c e
  exact free c o (fun z=>(hch c z).2.2.1 x c e rfl) ho (I.freeC x c e)
 ·obtain ⟨e,n,ne,nf,d⟩:=I.pin p hp
  have nch:p.1 ∉ ch:=fun z=>(hch p.1 z).2.2.2 p hp rfl
  exact⟨keep p.1 p.2 ne nf nch e n,free p.1 p.2 nch e n,ne,nf,d⟩
theorem a5.un {t':Nat} (I:a5 X pins σ H s) (u:Un X.fs [] H H' s.heap h') (hok:b9 X.prog X.w H' h'):a5 X pins σ H' { s with heap:=h',toks:=t' }:=by
 obtain ⟨m,⟨o,es,ep,ho,r⟩,_⟩:=id I.loc
 obtain ⟨sl,hL⟩:=u.any ho I.free (by simp)
 exact I.step (g':=s.gens) (d':=s.drawn) (ch:=[]) (fun _ z=>nomatch z) (fun b o _ hb _ e n=>u.keep b o e n hb (by simp)) (fun b o _ hb _ e n=>u.slot b o e n hb (by simp)) (fun b o _ e n=>u.free b o e n (by simp)) (fun b o _ e=>u.there b o e (by simp)) u.tups u.frzs u.tbls (fun m' hm=>by
  obtain ⟨o',es',ep',ho',r'⟩:=hm
  rw [ho] at ho'; cases ho'
  exact⟨_,es',ep',hL,r'⟩) hok I.bare
theorem a5.call {g':Array GenState}{t':Nat}{d':Drawn}{ch:List Addr} (I:a5 X pins σ H s) (u:Un (b6 X.stack) ch H H' s.heap h') (hok:b9 X.prog X.w H' h') (hg:AllBare g')
  (hch:∀ b ∈ ch,(b ∈ X.ex ∨ X.s₀.heap.objs.size<=b)/\b ≠ X.env.locals/\(∀ x c,X.env.cells.lookup x=some c->c ≠ b)/\∀ p ∈ X.pn ++ pins,p.1 ≠ b) :
  a5 X pins σ H' { s with heap:=h',gens:=g',drawn:=d',toks:=t' }:=by
 obtain ⟨m,⟨o,es,ep,ho,r⟩,_⟩:=id I.loc
 obtain ⟨sl,hL⟩:=u.any ho I.free fun z=>(hch _ z).2.1 rfl
 exact I.step (ch:=ch) hch (fun b o hL hb hc e n=>u.keep b o e n (fun z=>(aw7.mp (I.stkSub b z)).elim hL hb) hc) (fun b o _ _ hc e n=>u.any e n hc) (fun b o hc e n=>u.free b o e n hc) (fun b o hc e=>u.there b o e hc) u.tups u.frzs u.tbls (fun m' hm=>by
  obtain ⟨o',es',ep',ho',r'⟩:=hm
  rw [ho] at ho'; cases ho'
  exact⟨_,es',ep',hL,r'⟩) hok hg
theorem a5.turned {t':Nat}{it:Addr} (I:a5 X pins σ H s) (k:∀ b o,b ≠ it->s.heap.get? b=some o->h'.get? b=some o) (hn:H it=none) (hL:it ≠ X.env.locals)
  (h1:it ∈ X.ex ∨ X.s₀.heap.objs.size<=it) (h2:∀ x c,X.env.cells.lookup x=some c->c ≠ it) (h3:∀ p ∈ X.pn ++ pins,p.1 ≠ it):a5 X pins σ H { s with heap:=h',toks:=t' }:=by
 have nit:∀ b u,H b=some u->b ≠ it:=fun b u e z=>by rw [z,hn] at e; cases e
 refine I.step (g':=s.gens) (d':=s.drawn) (ch:=[it]) (fun b hb=>?_) (fun b o _ _ hc e _=>k b o (fun z=>hc (by simp [z])) e) (fun b o _ _ hc e _=>⟨o.slots,k b o (fun z=>hc (by simp [z])) e⟩) (fun _ _ _ _ n=>n)
  (fun b o hc e=>⟨o,k b o (fun z=>hc (by simp [z])) e⟩) (fun _ _ e=>e) (fun _ _ _ e=>e) (fun b ps e=>⟨#[],by rw [e]; simp⟩) (fun m hm=>?_) (fun b u e=>?_) I.bare
 ·have e:b=it:=by simpa using hb
  subst e
  exact⟨h1,hL,h2,h3⟩
 ·obtain ⟨o,es,ep,ho,r⟩:=hm
  exact⟨o,es,ep,k _ o (Ne.symm hL) ho,r⟩
 ·refine (I.hok b u e).stay (fun c v hc q=>k c v ?_ q) (fun _ q=>q) fun _ _ q=>q
  rcases hc with z | z
  ·rw [z]; exact nit b u e
  ·exact nit c _ z
theorem a5.tok (I:a5 X pins σ H s) (t:Nat):a5 X pins σ H { s with toks:=t }:=I.un (h':=s.heap) (t':=t) Un.refl I.hok
theorem a5.kept {t':Nat} (I:a5 X pins σ H s) (k:∀ b u,s.heap.get? b=some u->h'.get? b=some u):a5 X pins σ H { s with heap:=h',toks:=t' }:=I.un (Un.kept k) (I.hok.kept k)
theorem a5.laid {a:Addr}{o:HO}{t':Nat} (I:a5 X pins σ H s) (k:∀ b u,s.heap.get? b=some u->h'.get? b=some u) (hp:s.heap.objs.size<=a) (new:aZ X.prog X.w (upd H a o) h' a o) :
  a5 X pins σ (upd H a o) { s with heap:=h',toks:=t' }:=I.un (Un.laid k hp (I.hok.fresh hp)) (I.hok.laid k hp new)
theorem a5.write {x e:Addr}{o:HO}{t':Nat} (I:a5 X pins σ H s) (mu:k8 (H x)) (he:e=x ∨ H e=some (.own x)) (k:∀ b u,b ≠ e->s.heap.get? b=some u->h'.get? b=some u) (heo:∃ u,h'.get? e=some u)
  (new:aZ X.prog X.w (upd H x o) h' x o):a5 X pins σ (upd H x o) { s with heap:=h',toks:=t' }:=I.un (Un.write mu he k heo) (I.hok.write mu he k heo new)
theorem a5.weak {σ':List (Option V)} (I:a5 X pins σ H s) (hl:σ'.length=σ.length) (w:∀ (i:Nat) v,σ'[i]? = some (some v)->σ[i]? = some (some v)):a5 X pins σ' H s:=
 ⟨I.ok,I.os,I.bare,I.base,let ⟨m,hn,hl'⟩:=I.loc; ⟨m,hn,fun i x v e1 e2 e3=>hl' i x v e1 (w i v e2) e3⟩,I.cell,I.free,I.freeC,I.pin,I.hok,hl.trans I.len⟩
theorem a5.pins_of {pins':List (Addr × Obj)} (I:a5 X pins σ H s) (h:∀ p ∈ pins',s.heap.get? p.1=some p.2/\H p.1=none/\p.1 ≠ X.env.locals/\p.1 ∉ X.fs/\∀ v,p.2.data ≠ .cell v):a5 X pins' σ H s:=
 ⟨I.ok,I.os,I.bare,I.base,I.loc,I.cell,I.free,I.freeC,fun p hp=>(aA8.mp hp).elim (fun z=>I.pin p (List.mem_append_left _ z)) (h p),I.hok,I.len⟩
theorem oR {N:List Str} (hN:N.Nodup) {i j:Nat}{x:Str} (a:N[i]? = some x) (b:N[j]? = some x):i=j:=by
 obtain ⟨h1,e1⟩:=ax3.mp a
 obtain ⟨h2,e2⟩:=ax3.mp b
 exact (List.getElem_inj hN).mp (e1.trans e2.symm)
theorem oS {M:Model}{A:Around}{E:Value->Shared->Prop}{i:Nat}{x:Str}{v:V}{u:Value}{Q:Unit->Shared->Prop} (I:a5 X pins σ H s) (hN:X.N.Nodup) (hi:X.N[i]? = some x) (hx:gI X.env.scope x) (r:aN v u)
  (h:∀ s',a5 X pins (σ.set i (some v)) H s'->(∃ a,Heap.SameBut a s.heap s'.heap/\(a=X.env.locals ∨ X.env.cells.lookup x=some a))->Q () s') (hf:X.fn x=true ∨ X.env.scope.names.lookup x=some .local:=by first | exact .inl rfl | exact .inr rfl | assumption):wpAny M A (storeName X.env x u) Q E s:=by
 obtain ⟨m,hn,hl⟩:=id I.loc
 have hcls:(X.env.scope.kind == .class || (X.env.scope.kind == .module && X.env.locals != X.env.globals))=false:=by rw [I.ok.kind]; rfl
 have hiσ:i < σ.length:=by rw [I.len]; exact (ax3.mp hi).1
 have cne:=I.cne
 have tracked:∀ {a:Addr}{h':Heap},(∃ o,s.heap.get? a=some o/\H a=none)->Heap.SameBut a s.heap h'->b9 X.prog X.w H h':=fun {a h'} ha hs b ob e=>by
  obtain ⟨_,_,hfree⟩:=ha
  refine (I.hok b ob e).stay (fun c w' hc q=>(hs.2 c ?_).trans q) (fun _ q=>q) fun _ _ q=>q
  rintro rfl
  rcases hc with rfl | hc
  ·rw [hfree] at e; cases e
  ·rw [hfree] at hc; cases hc
 rcases hx with hk | hk
 ·refine wpAny_storeName_local hk hn (fun h' hn' hs=>?_) hcls
  obtain ⟨oL,_,_,hoL,_⟩:=id hn
  refine h _ ⟨I.ok,I.os,I.bare,⟨fun b o e n hb hx=>?_,fun b o e n hb hx=>?_,I.base.free,fun b o e hx=>?_,I.base.tups,I.base.frzs,I.base.tbls⟩,⟨_,hn',fun j y v' e1 e2 e3=>?_⟩,fun y c e=>?_,I.free,I.freeC,fun p hp=>?_,tracked ⟨oL,hoL,I.free⟩ hs,by simpa using I.len⟩ ⟨_,hs,.inl rfl⟩
  ·exact (hs.2 b (ay8 (ax0 (ax2 e) I.ok.above))).trans (I.base.keep b o e n hb hx)
  ·obtain ⟨sl,e1⟩:=I.base.slot b o e n hb hx
   exact⟨sl,(hs.2 b (ay8 (ax0 (ax2 e) I.ok.above))).trans e1⟩
  ·obtain ⟨o',e1⟩:=I.base.there b o e hx
   exact⟨o',(hs.2 b (ay8 (ax0 (ax2 e) I.ok.above))).trans e1⟩
  ·by_cases hj:j=i
   ·subst hj
    rw [hi] at e1; cases e1
    rw [aC6 hiσ] at e2
    cases e2
    exact⟨u,r,.inl ⟨hk,by simp⟩⟩
   ·rw [ay4 (Ne.symm hj)] at e2
    obtain ⟨u',r',q⟩:=hl j y v' e1 e2 e3
    refine⟨u',r',?_⟩
    rcases q with ⟨k,e⟩ | ⟨k,c,e,z⟩
    ·refine .inl ⟨k,?_⟩
     have:y ≠ x:=fun e=>hj (oR hN e1 (e ▸ hi))
     simp [this,e]
    ·exact .inr ⟨k,c,e,z.sameBut hs (cne y c e)⟩
  ·obtain ⟨w',z⟩:=I.cell y c e
   exact⟨w',z.sameBut hs (cne y c e)⟩
  ·obtain ⟨e,n,ne,nf,d⟩:=I.pin p hp
   exact⟨(hs.2 p.1 ne).trans e,n,ne,nf,d⟩
 ·have hfn:X.fn x=true:=by
   rcases hf with z | z
   ·exact z
   ·rw [z] at hk; cases hk
  obtain ⟨c,hc⟩:=I.ok.has x (.inl hk)
  obtain ⟨w',z⟩:=I.cell x c hc
  refine wpAny_storeName_cell I.ok.kind hk hc z (fun h' hc' hs=>?_)
  obtain ⟨oc,hoc,hocd⟩:=id z
  refine h { s with heap:=h' } ⟨I.ok,I.os,I.bare,⟨fun b o e n hb hx=>?_,fun b o e n hb hx=>?_,I.base.free,fun b o e hx=>?_,I.base.tups,I.base.frzs,I.base.tbls⟩,⟨m,hn.sameBut hs (Ne.symm (cne x c hc)),fun j y v' e1 e2 e3=>?_⟩,fun y c' e=>?_,I.free,I.freeC,fun p hp=>?_,tracked ⟨oc,hoc,I.freeC x c hc⟩ hs,by simpa using I.len⟩ ⟨c,hs,.inr hc⟩
  ·exact (hs.2 b (ay8 (ax0 (ax2 e) (I.ok.cab x c hfn hc)))).trans (I.base.keep b o e n hb hx)
  ·obtain ⟨sl,e1⟩:=I.base.slot b o e n hb hx
   exact⟨sl,(hs.2 b (ay8 (ax0 (ax2 e) (I.ok.cab x c hfn hc)))).trans e1⟩
  ·obtain ⟨o',e1⟩:=I.base.there b o e hx
   exact⟨o',(hs.2 b (ay8 (ax0 (ax2 e) (I.ok.cab x c hfn hc)))).trans e1⟩
  ·by_cases hj:j=i
   ·subst hj
    rw [hi] at e1; cases e1
    rw [aC6 hiσ] at e2
    cases e2
    exact⟨u,r,.inr ⟨.inl hk,c,hc,hc'⟩⟩
   ·rw [ay4 (Ne.symm hj)] at e2
    obtain ⟨u',r',q⟩:=hl j y v' e1 e2 e3
    refine⟨u',r',?_⟩
    rcases q with q | ⟨k,c',e,z'⟩
    ·exact .inl q
    ·refine .inr ⟨k,c',e,z'.sameBut hs ?_⟩
     rintro rfl
     exact hj (oR hN e1 (I.ok.inj _ _ _ e hc ▸ hi))
  ·by_cases hcc:c'=c
   ·subst hcc; exact⟨_,hc'⟩
   ·obtain ⟨w2,z2⟩:=I.cell y c' e
    exact⟨w2,z2.sameBut hs hcc⟩
  ·obtain ⟨e,n,ne,nf,d⟩:=I.pin p hp
   refine⟨(hs.2 p.1 ?_).trans e,n,ne,nf,d⟩
   intro q
   rw [q,hoc] at e
   have q':oc=p.2:=ay6 e
   exact d w' (by rw [<- q']; exact hocd)
theorem oT {M:Model}{A:Around}{E:Value->Shared->Prop}{i:Nat}{x:Str}{v:V}{u:Value}{Q:Unit->Shared->Prop} (I:a5 X pins σ H s) (hN:X.N.Nodup) (hi:X.N[i]? = some x) (hx:gI X.env.scope x) (r:aN v u)
  (h:∀ s',a5 X pins (σ.set i (some v)) H s'->Q () s') (hf:X.fn x=true ∨ X.env.scope.names.lookup x=some .local:=by first | exact .inl rfl | exact .inr rfl | assumption):wpAny M A (storeName X.env x u) Q E s:=
 oS I hN hi hx r (fun s' I' _=>h s' I') hf
theorem a5.call' {s':Shared}{ch:List Addr} (I:a5 X pins σ H s) (ho:s'.os=s.os) (u:Un (b6 X.stack) ch H H' s.heap s'.heap) (hok:b9 X.prog X.w H' s'.heap) (hg:AllBare s'.gens)
  (hch:∀ b ∈ ch,(b ∈ X.ex ∨ X.s₀.heap.objs.size<=b)/\b ≠ X.env.locals/\(∀ x c,X.env.cells.lookup x=some c->c ≠ b)/\∀ p ∈ X.pn ++ pins,p.1 ≠ b):a5 X pins σ H' s':=by
 obtain ⟨h',g',d',t',o'⟩:=s'
 have e:o'=s.os:=ho
 subst e
 exact I.call (g':=g') (t':=t') (d':=d') u hok hg hch
end
abbrev XK:=Value->Option Addr->Hp->Prop
abbrev St:=List (Option V)
abbrev VK:=V->Hp->Prop
abbrev TE:=St->Hp->VK->Prop
abbrev TT:=St->Hp->(Bool->Hp->Prop)->Prop
abbrev TA:=St->Hp->(List V->Hp->Prop)->Prop
structure cH where
 nx:St->Hp->Prop
 rt:VK
 bk:St->Hp->Prop:=fun _ _=>False
 ct:St->Hp->Prop:=fun _ _=>False
abbrev TS:=cH->St->Hp->Prop
def EP (X:Cx) (pins:List (Addr × Obj)) (σ:St) (Q:VK) (u:Value) (s':Shared):Prop:=∃ v H',a5 X pins σ H' s'/\aN v u/\Q v H'
def TP (X:Cx) (pins:List (Addr × Obj)) (σ:St) (Q:Bool->Hp->Prop) (b:Bool) (s':Shared):Prop:=∃ H',a5 X pins σ H' s'/\Q b H'
def AP (X:Cx) (pins:List (Addr × Obj)) (σ:St) (Q:List V->Hp->Prop) (us:List Value) (s':Shared):Prop:=∃ vs H',a5 X pins σ H' s'/\aL vs us/\Q vs H'
def SP (X:Cx) (pins:List (Addr × Obj)) (D:cH) (f:Flow) (s':Shared):Prop:=
 match f with
 | .next=>∃ σ' H',a5 X pins σ' H' s'/\D.nx σ' H'
 | .brk=>∃ σ' H',a5 X pins σ' H' s'/\D.bk σ' H'
 | .cont=>∃ σ' H',a5 X pins σ' H' s'/\D.ct σ' H'
 | .ret u=>∃ v σ' H',a5 X pins σ' H' s'/\aN v u/\D.rt v H'
def PE (X:Cx) (e:Expr) (t:TE):Prop:=
 ∀ (pins:List (Addr × Obj)) (s:Shared) (σ:St) (H:Hp) (Q:VK),a5 X pins σ H s->t σ H Q->wpAny (model X.prog X.w) X.A (eval e X.env) (EP X pins σ Q) X.xe s
def PT (X:Cx) (e:Expr) (t:TT):Prop:=
 ∀ (pins:List (Addr × Obj)) (s:Shared) (σ:St) (H:Hp) (Q:Bool->Hp->Prop),a5 X pins σ H s->t σ H Q->wpAny (model X.prog X.w) X.A (isTrue e X.env (eval e X.env)) (TP X pins σ Q) X.xe s
def PW (X:Cx) (e:Expr) (t:TT):Prop:=
 ∀ (whole:Sem Value) (pins:List (Addr × Obj)) (s:Shared) (σ:St) (H:Hp) (Q:Bool->Hp->Prop),a5 X pins σ H s->t σ H Q->wpAny (model X.prog X.w) X.A (isTrue e X.env whole) (TP X pins σ Q) X.xe s
theorem PW.pt {X:Cx}{e:Expr}{t:TT} (h:PW X e t):PT X e t:=h _
def PA (X:Cx) (es:List Expr) (t:TA):Prop:=
 ∀ (pos:Pos) (pins:List (Addr × Obj)) (s:Shared) (σ:St) (H:Hp) (Q:List V->Hp->Prop),a5 X pins σ H s->t σ H Q->wpAny (model X.prog X.w) X.A (spliced (backTo pos (starEach es X.env))) (AP X pins σ Q) X.xe s
def PS (X:Cx) (st:Stmt) (t:TS):Prop:=
 ∀ (pins:List (Addr × Obj)) (s:Shared) (σ:St) (H:Hp) (D:cH),a5 X pins σ H s->t D σ H->wpAny (model X.prog X.w) X.A (exec st X.env) (SP X pins D) X.xe s
def cO (X:Cx) (st:List Stmt) (t:TS):Prop:=
 ∀ (pins:List (Addr × Obj)) (s:Shared) (σ:St) (H:Hp) (D:cH),a5 X pins σ H s->t D σ H->wpAny (model X.prog X.w) X.A (execs st X.env) (SP X pins D) X.xe s
theorem aJ {α:Type}{t:Sem α}{Q Q':α->Shared->Prop}{M:Model}{A:Around}{E:Value->Shared->Prop}{s:Shared} (h:wpAny M A t Q E s) (hQ:∀ a s,Q a s->Q' a s):wpAny M A t Q' E s:=aB5 h hQ fun _ _ x=>x
section
variable {X : Cx}
theorem bin {a b:Expr}{ta tb:TE} (ha:PE X a ta) (hb:PE X b tb) {pins:List (Addr × Obj)}{s:Shared}{σ:St}{H:Hp}{R:V->V->Hp->Prop} (I:a5 X pins σ H s) (h:ta σ H fun x H1=>tb σ H1 fun y H2=>R x y H2)
  {α:Type}{Q:α->Shared->Prop}{f:Value->Value->Sem α}
  (hf:∀ v u s2 x y H2,a5 X pins σ H2 s2->aN x v->aN y u->R x y H2->wpAny (model X.prog X.w) X.A (f v u) Q X.xe s2) :
  wpAny (model X.prog X.w) X.A (eval a X.env) (fun v s₁=>wpAny (model X.prog X.w) X.A (eval b X.env) (fun u s₂=>wpAny (model X.prog X.w) X.A (f v u) Q X.xe s₂) X.xe s₁) X.xe s:=by
 refine aJ (ha pins s σ H _ I h) fun v s1 ⟨x,H1,I1,r1,q1⟩=>?_
 refine aJ (hb pins s1 σ H1 _ I1 q1) fun u s2 ⟨y,H2,I2,r2,q2⟩=>?_
 exact hf v u s2 x y H2 I2 r1 r2 q2
def i6 (i:Nat):TE:=fun σ H Q=>∃ v,σ[i]? = some (some v)/\Q v H
def tC (v:V):TE:=fun _ H Q=>Q v H
theorem kA {i:Nat}{x:Str}{pos:Pos} (hN:X.N[i]? = some x) (hv:i5 X.env.scope x) (hd:(x == ("__debug__" : Str))=false:=by decide) (hcd:(x == ("__classdict__" : Str))=false:=by decide):PE X (.Name x pos) (i6 i):=by
 intro pins s σ H Q I h
 obtain ⟨v,e,h⟩:=h
 obtain ⟨m,hn,hl⟩:=I.loc
 obtain ⟨u,r,l⟩:=hl i x v hN e hv
 have fin:EP X pins σ Q u s:=⟨v,H,I,r,h⟩
 rcases l with ⟨hk,hm⟩ | ⟨hk,c,hc,hcell⟩
 ·exact wpAny_Name (wpAny_loadName_local I.ok.kind hk hn hm fin) hd
 ·rcases hk with hk | hk
  ·exact wpAny_Name (wpAny_loadName_cell I.ok.kind hk hc hcell fin) hd
  ·exact wpAny_Name (wpAny_loadName_free I.ok.kind hk hc hcell fin hcd) hd
theorem kB {i j pos}:PE X (.Constant (.int i) j pos) (tC (.int i)):=fun _ _ _ H _ I h=>wpAny_Constant_int ⟨.int i,H,I.tok _,⟨_,rfl⟩,h⟩
theorem E8 {b j pos}:PE X (.Constant (.bool b) j pos) (tC (.bl b)):=fun _ _ _ H _ I h=>Constant_bool ⟨.bl b,H,I,rfl,h⟩
theorem E9 {j pos}:PE X (.Constant .none j pos) (tC .non):=fun _ _ _ H _ I h=>Constant_none ⟨.non,H,I,rfl,h⟩
theorem F0 {x j pos}:PE X (.Constant (.str x) j pos) (tC (.str x)):=fun _ _ _ H _ I h=>Calls.Constant_str ⟨.str x,H,I.tok _,⟨_,rfl⟩,h⟩
def Gl (X:Cx) (x:Str):Prop:=X.env.kindOf x=some .globalImplicit
theorem kC {E:Value->Shared->Prop}{pins:List (Addr × Obj)}{s:Shared}{σ:St}{H:Hp}{x:Str}{u:Value}{pos:Pos}{Q:Value->Shared->Prop} (I:a5 X pins σ H s) (hg:Gl X x) (hm:X.mg x=some u) (h:Q u s)
  (hd:(x == ("__debug__" : Str))=false:=by decide):wpAny (model X.prog X.w) X.A (eval (.Name x pos) X.env) Q E s:=
 Calls.Name_function_global I.ok.kind hg (Calls.loadGlobal_global (by rw [I.ok.glob]; exact I.mod.glob.keeps I.bk) hm h) hd
theorem gJ {E:Value->Shared->Prop}{pins:List (Addr × Obj)}{s:Shared}{σ:St}{H:Hp}{x:Str}{u:Value}{pos:Pos}{Q:Value->Shared->Prop} (I:a5 X pins σ H s) (hg:Gl X x) (hm:X.mg x=none) (hv:bootBuiltins x=some u) (h:Q u s)
  (hn:x ≠ "__name__":=by decide) (hd:(x == ("__debug__" : Str))=false:=by decide):wpAny (model X.prog X.w) X.A (eval (.Name x pos) X.env) Q E s:=by
 obtain ⟨mb,h1,h2⟩:=I.mod.blt
 exact Calls.Name_function_global I.ok.kind hg (Calls.loadGlobal_builtin (by rw [I.ok.glob]; exact I.mod.glob.keeps I.bk) hm (by rw [I.ok.blt]; exact h1.keeps I.bk) ((h2 x hn).trans hv) h) hd
theorem F1 {x:Str}{v:V}{u:Value}{pos:Pos} (hg:Gl X x) (hm:X.mg x=some u) (r:aN v u) (hd:(x == ("__debug__" : Str))=false:=by decide):PE X (.Name x pos) (tC v):=
 fun _ _ _ H _ I h=>kC I hg hm ⟨v,H,I,r,h⟩ hd
theorem F3 {x:Str}{v:V}{u:Value}{pos:Pos} (hg:Gl X x) (hm:X.mg x=none) (hv:bootBuiltins x=some u) (r:aN v u) (hn:x ≠ "__name__":=by decide) (hd:(x == ("__debug__" : Str))=false:=by decide):PE X (.Name x pos) (tC v):=
 fun _ _ _ H _ I h=>gJ I hg hm hv ⟨v,H,I,r,h⟩ hn hd
variable {a b : Expr} {ta tb : TE} {pos : Pos}
def PC (X:Cx) (op:CmpOp) (a b:Expr) (t:TE):Prop:=
 ∀ (pins:List (Addr × Obj)) (s:Shared) (σ:St) (H:Hp) (Q:VK),a5 X pins σ H s->t σ H Q->
  wpAny (model X.prog X.w) X.A (eval a X.env) (fun v s₁=>wpAny (model X.prog X.w) X.A (eval b X.env) (fun u s₂=>wpAny (model X.prog X.w) X.A (compareOp op v u) (EP X pins σ Q) X.xe s₂) X.xe s₁) X.xe s
def tB (t:TE):TT:=fun σ H Q=>t σ H fun x H1=>∃ c,x = .bl c/\Q c H1
theorem F4 {op:CmpOp}{t:TE} (h:PC X op a b t) (h1:behindInMarks op b=false:=by first | exact nobehind _ (by decide) (by decide) | rfl):PT X (.Compare a [op] [b] pos) (tB t):=by
 intro pins s σ H Q I hw
 refine wpAny_isTrue_Compare1 (aJ (h pins s σ H _ I hw) fun v s1 h1=>aJ h1 fun u s2 h2=>aJ h2 fun c s3 ⟨x,H1,I1,r1,q1⟩=>?_) h1
 obtain ⟨d,rfl,q⟩:=q1
 cases r1
 exact aF1 ⟨H1,I1,q⟩
theorem F5 {e:Expr}{t:TE} (h:PE X e t) (he:∀ whole,isTrue e X.env whole=(do let v <- whole; standAt e.pos; holding [v] (truthy v)):=by intro _; rfl):PT X e (tB t):=by
 intro pins s σ H Q I hw
 refine isTrue_plain (aJ (h pins s σ H _ I hw) fun v s1 ⟨x,H1,I1,r1,q1⟩=>?_) (he _)
 obtain ⟨d,rfl,q⟩:=q1
 cases r1
 exact aF1 ⟨H1,I1,q⟩
variable {tA tB' : TT} {bT : List Expr}
def tJ (t u:TT):TT:=fun σ H Q=>t σ H fun c H1=>if c=true then u σ H1 Q else Q false H1
def tK (t u:TT):TT:=fun σ H Q=>t σ H fun c H1=>if c=true then Q true H1 else u σ H1 Q
def tL (t:TT):TT:=fun σ H Q=>t σ H fun c H1=>Q (!c) H1
theorem F6 (ha:PT X a tA):PW X (.BoolOp .And [a] pos) tA:=by
 intro wh pins s σ H Q I h
 refine isTrue_and (aJ (ha pins s σ H Q I h) fun c s1 e=>?_)
 cases c with
 | true=>exact isTrue_and_nil e
 | false=>exact e
theorem F7 (ha:PT X a tA):PW X (.BoolOp .Or [a] pos) tA:=by
 intro wh pins s σ H Q I h
 refine isTrue_or (aJ (ha pins s σ H Q I h) fun c s1 e=>?_)
 cases c with
 | false=>exact isTrue_or_nil e
 | true=>exact e
theorem F8 (ha:PT X a tA) (hb:PW X (.BoolOp .And (b :: bT) pos) tB'):PW X (.BoolOp .And (a :: b :: bT) pos) (tJ tA tB'):=by
 intro wh pins s σ H Q I h
 refine isTrue_and (aJ (ha pins s σ H _ I h) fun c s1 ⟨H1,I1,q1⟩=>?_)
 cases c with
 | true=>exact hb wh pins s1 σ H1 Q I1 q1
 | false=>exact⟨H1,I1,q1⟩
theorem F9 (ha:PT X a tA) (hb:PW X (.BoolOp .Or (b :: bT) pos) tB'):PW X (.BoolOp .Or (a :: b :: bT) pos) (tK tA tB'):=by
 intro wh pins s σ H Q I h
 refine isTrue_or (aJ (ha pins s σ H _ I h) fun c s1 ⟨H1,I1,q1⟩=>?_)
 cases c with
 | true=>exact⟨H1,I1,q1⟩
 | false=>exact hb wh pins s1 σ H1 Q I1 q1
theorem G0 (ha:PT X a tA):PT X (.UnaryOp .Not a pos) (tL tA):=by
 intro pins s σ H Q I h
 exact isTrue_not (ha pins s σ H (fun c H1=>Q (!c) H1) I h)
def tM (ta tb:TE):TE:=fun σ H Q=>ta σ H fun x H1=>∃ c,x = .bl c/\if c=true then tb σ H1 Q else Q (.bl false) H1
def tN (ta tb:TE):TE:=fun σ H Q=>ta σ H fun x H1=>∃ c,x = .bl c/\if c=true then Q (.bl true) H1 else tb σ H1 Q
def tO (ta:TE):TE:=fun σ H Q=>ta σ H fun x H1=>∃ c,x = .bl c/\Q (.bl (!c)) H1
theorem G1 {op}{t:TE} (h:PE X a t):PE X (.BoolOp op [a] pos) t:=fun pins s σ H Q I hw=>BoolOp_one (h pins s σ H Q I hw)
theorem G2 (ha:PE X a ta) (hb:PE X (.BoolOp .And (b :: bT) pos) tb):PE X (.BoolOp .And (a :: b :: bT) pos) (tM ta tb):=by
 intro pins s σ H Q I h
 refine BoolOp_and (aJ (ha pins s σ H _ I h) fun v s1 ⟨x,H1,I1,r1,q1⟩=>?_)
 obtain ⟨c,rfl,q1⟩:=q1
 cases r1
 refine aF1 ?_
 cases c with
 | true=>exact hb pins s1 σ H1 Q I1 q1
 | false=>exact⟨.bl false,H1,I1,rfl,q1⟩
theorem G3 (ha:PE X a ta) (hb:PE X (.BoolOp .Or (b :: bT) pos) tb):PE X (.BoolOp .Or (a :: b :: bT) pos) (tN ta tb):=by
 intro pins s σ H Q I h
 refine BoolOp_or (aJ (ha pins s σ H _ I h) fun v s1 ⟨x,H1,I1,r1,q1⟩=>?_)
 obtain ⟨c,rfl,q1⟩:=q1
 cases r1
 refine aF1 ?_
 cases c with
 | false=>exact hb pins s1 σ H1 Q I1 q1
 | true=>exact⟨.bl true,H1,I1,rfl,q1⟩
theorem G4 (ha:PE X a ta):PE X (.UnaryOp .Not a pos) (tO ta):=by
 intro pins s σ H Q I h
 refine UnaryOp_ (aJ (ha pins s σ H _ I h) fun v s1 ⟨x,H1,I1,r1,q1⟩=>?_)
 obtain ⟨c,rfl,q1⟩:=q1
 cases r1
 exact not_of (aF1 ⟨.bl (!c),H1,I1,rfl,q1⟩)
end
def aH (K:PySem.W.Frag) (H:Hp) (a:Addr) (xs:List V):Prop:=
 Rd H a (.lst xs) ∨
  ∃ (o:Obj) (its:Array Value) (n:Nat),K.lookup a=some o/\o.cls = .type "list"/\o.dict=none/\o.data = .seq its n/\its.size<=sizeLine/\aL xs its.toList
def aI (K:PySem.W.Frag) (H:Hp) (a:Addr) (xs:List V):Prop:=
 Rd H a (.tup xs) ∨
  ∃ (o:Obj) (its:Array Value) (n:Nat),K.lookup a=some o/\o.cls = .type "tuple"/\o.data = .seq its n/\its.size<=sizeLine/\aL xs its.toList
def G5:Value->Option V
 | .none=>some .non
 | .bool b=>some (.bl b)
 | .int i _=>some (.int i)
 | .str x _=>some (.str x)
 | .bytes b _=>some (.byt b)
 | .float b _=>some (.flt b)
 | .ref a=>some (.ref a)
 | .type n=>some (.ty n)
 | _=>none
theorem aN.abs {x:V}{u:Value} (r:aN x u):G5 u=some x:=by
 cases x with
 | non=>cases r; rfl
 | bl _=>cases r; rfl
 | int _=>obtain ⟨t,rfl⟩:=r; rfl
 | str _=>obtain ⟨t,rfl⟩:=r; rfl
 | byt _=>obtain ⟨t,rfl⟩:=r; rfl
 | flt _=>obtain ⟨t,rfl⟩:=r; rfl
 | ref _=>cases r; rfl
 | ty _=>cases r; rfl
theorem aN.inj {x y:V}{u:Value} (r:aN x u) (q:aN y u):x=y:=ay6 (r.abs.symm.trans q.abs)
theorem aL.inj:∀ {xs ys:List V}{us:List Value},aL xs us->aL ys us->xs=ys
 | _,_,_,.nil,.nil=>rfl
 | _,_,_,.cons r t,.cons r' t'=>by rw [r.inj r',aL.inj t t']
section
variable {X : Cx} {pins : List (Addr × Obj)} {σ : St} {H : Hp} {s : Shared} {a : Addr} {xs ys : List V}
theorem aH.of {K:PySem.W.Frag} (h:H a=some (.lst xs)):aH K H a xs:=.inl (.inl h)
theorem aI.of {K:PySem.W.Frag} (h:H a=some (.tup xs)):aI K H a xs:=.inl (.inl h)
theorem a5.list (I:a5 X pins σ H s) (h:aH X.K H a xs):∃ its:List Value,aL xs its/\PlainL s.heap a its.toArray/\xs.length<=sizeLine:=by
 rcases h with h | ⟨o,its,n,hk,hc,hd,hs,hz,r⟩
 ·obtain ⟨z,its,n,r,e⟩:=h.ok I.hok
  exact⟨its,r,⟨_,n,e,rfl,rfl,rfl⟩,z⟩
 ·refine⟨its.toList,r,⟨o,n,I.kIn a o hk,hc,hd,by simpa using hs⟩,?_⟩
  have e:=r.length
  simp only [az4] at e
  omega
theorem a5.tuple (I:a5 X pins σ H s) (h:aI X.K H a xs):∃ its:List Value,aL xs its/\IsTup s.heap a its.toArray/\xs.length<=sizeLine:=by
 rcases h with h | ⟨o,its,n,hk,hc,hs,hz,r⟩
 ·obtain ⟨z,its,r,p,_⟩:=h.ok I.hok
  exact⟨its,r,p,z⟩
 ·refine⟨its.toList,r,⟨o,I.kIn a o hk,hc,n,by simpa using hs⟩,?_⟩
  have e:=r.length
  simp only [az4] at e
  omega
theorem a5.list_inj (I:a5 X pins σ H s) (h:aH X.K H a xs) (h':aH X.K H a ys):xs=ys:=by
 obtain ⟨its,r,⟨o,n,e,_,_,d⟩,_⟩:=I.list h
 obtain ⟨its',r',⟨o',n',e',_,_,d'⟩,_⟩:=I.list h'
 rw [e] at e'; cases e'
 rw [d] at d'
 injection d' with d1 _
 have:its=its':=by simpa using congrArg Array.toList d1
 subst this
 exact r.inj r'
theorem a5.tuple_inj (I:a5 X pins σ H s) (h:aI X.K H a xs) (h':aI X.K H a ys):xs=ys:=by
 obtain ⟨its,r,⟨o,e,_,n,d⟩,_⟩:=I.tuple h
 obtain ⟨its',r',⟨o',e',_,n',d'⟩,_⟩:=I.tuple h'
 rw [e] at e'; cases e'
 rw [d] at d'
 injection d' with d1 _
 have:its=its':=by simpa using congrArg Array.toList d1
 subst this
 exact r.inj r'
end
abbrev Cx.wish (X:Cx) (E:Value->Shared->Prop):Cx:={ X with xe:=E }
abbrev Cx.nox (X:Cx):Cx:=X.wish fun _ _=>False
theorem Cx.Ok.wish {X:Cx} (ok:X.Ok) (E:Value->Shared->Prop):(X.wish E).Ok:=
 ⟨ok.mod,ok.kind,ok.glob,ok.blt,ok.above,ok.inj,ok.has,ok.cab,ok.hd,ok.frames,ok.stk,ok.exf,ok.bs,ok.bsz,ok.noex,ok.exfs,ok.funs,ok.frf⟩
theorem Cx.Ok.unwish {X:Cx}{E:Value->Shared->Prop} (ok:(X.wish E).Ok):X.Ok:=
 ⟨ok.mod,ok.kind,ok.glob,ok.blt,ok.above,ok.inj,ok.has,ok.cab,ok.hd,ok.frames,ok.stk,ok.exf,ok.bs,ok.bsz,ok.noex,ok.exfs,ok.funs,ok.frf⟩
section
variable {X : Cx} {pins : List (Addr × Obj)} {σ : St} {H : Hp} {s : Shared} {E : Value → Shared → Prop}
theorem a5.wish (I:a5 X pins σ H s) (E:Value->Shared->Prop):a5 (X.wish E) pins σ H s:=⟨I.ok.wish E,I.os,I.bare,I.base,I.loc,I.cell,I.free,I.freeC,I.pin,I.hok,I.len⟩
theorem a5.unwish (I:a5 (X.wish E) pins σ H s):a5 X pins σ H s:=⟨I.ok.unwish,I.os,I.bare,I.base,I.loc,I.cell,I.free,I.freeC,I.pin,I.hok,I.len⟩
theorem SP.unwish {D:cH}{f:Flow}{s':Shared} (h:SP (X.wish E) pins D f s'):SP X pins D f s':=by
 cases f with
 | next=>obtain ⟨σ',H',I,q⟩:=h; exact⟨σ',H',I.unwish,q⟩
 | brk=>obtain ⟨σ',H',I,q⟩:=h; exact⟨σ',H',I.unwish,q⟩
 | cont=>obtain ⟨σ',H',I,q⟩:=h; exact⟨σ',H',I.unwish,q⟩
 | ret u=>obtain ⟨v,σ',H',I,r,q⟩:=h; exact⟨v,σ',H',I.unwish,r,q⟩
theorem cO.nox {st:List Stmt}{t:TS} (h:cO X.nox st t):cO X st t:=fun pins s σ H D I hw=>
 aB5 (h pins s σ H D (I.wish _) hw) (fun _ _ q=>q.unwish) fun _ _ z=>False.elim z
end
section
variable {X : Cx} {st : Stmt} {bT : List Stmt} {t u : TS} {e : Expr} {te : TE} {pos : Pos}
def tP:TS:=fun D σ H=>D.nx σ H
def tQ (t u:TS):TS:=fun D σ H=>t { D with nx:=u D } σ H
theorem G6:cO X [] tP:=fun _ _ σ H _ I h=>wpAny_execs_nil ⟨σ,H,I,h⟩
theorem lT (h1:PS X st t) (h2:cO X bT u):cO X (st :: bT) (tQ t u):=by
 intro pins s σ H D I h
 refine wpAny_execs_cons (aJ (h1 pins s σ H { D with nx:=u D } I h) fun f s1 q=>?_)
 cases f with
 | next=>
  obtain ⟨σ',H',I',q⟩:=q
  exact h2 pins s1 σ' H' D I' q
 | ret v=>exact q
 | brk=>exact q
 | cont=>exact q
theorem kD (h1:PS X st t):cO X [st] t:=by
 intro pins s σ H D I h
 refine wpAny_execs_cons (aJ (h1 pins s σ H D I h) fun f s1 q=>?_)
 cases f with
 | next=>exact wpAny_execs_nil q
 | ret v=>exact q
 | brk=>exact q
 | cont=>exact q
theorem a5.quiet {pins:List (Addr × Obj)}{σ:St}{H:Hp}{s:Shared} (I:a5 X pins σ H s):interactive X.env=false:=by simp [interactive,I.ok.kind]
def tR (te:TE):TS:=fun D σ H=>te σ H fun _ H1=>D.nx σ H1
theorem oU (he:PE X e te) (hs:swapsWith e none pos.line X.env=pure false:=by rfl):PS X (.Expr e pos) (tR te):=by
 intro pins s σ H D I h
 exact wpAny_Expr_any (aJ (he pins s σ H _ I h) fun v s1 ⟨x,H1,I1,r1,q1⟩=>⟨σ,H1,I1,q1⟩) I.quiet hs
def tS (te:TE):TS:=fun D σ H=>te σ H D.rt
theorem lU (he:PE X e te):PS X (.Return (some e) pos) (tS te):=by
 intro pins s σ H D I h
 exact wpAny_Return_some (aJ (he pins s σ H _ I h) fun v s1 ⟨x,H1,I1,r1,q1⟩=>⟨x,σ,H1,I1,r1,q1⟩)
def tT (c:TT) (t u:TS):TS:=fun D σ H=>c σ H fun b H1=>if b=true then t D σ H1 else u D σ H1
theorem G7 {c:Expr}{a b:List Stmt}{tc:TT} (hc:PT X c tc) (ha:cO X a t) (hb:cO X b u):PS X (.If c a b pos) (tT tc t u):=by
 intro pins s σ H D I h
 refine wpAny_If (aJ (hc pins s σ H _ I h) fun d s1 ⟨H1,I1,q1⟩=>?_)
 cases d with
 | true=>exact ha pins s1 σ H1 D I1 q1
 | false=>exact hb pins s1 σ H1 D I1 q1
end
abbrev TG:=V->St->Hp->(St->Hp->Prop)->Prop
abbrev iM:=List V->St->Hp->(St->Hp->Prop)->Prop
def PG (X:Cx) (target:Expr) (t:TG):Prop:=
 ∀ (pins:List (Addr × Obj)) (s:Shared) (σ:St) (H:Hp) (v:V) (u:Value) (Q:St->Hp->Prop),a5 X pins σ H s->aN v u->t v σ H Q->
  wpAny (model X.prog X.w) X.A (assign target X.env u) (fun _ s'=>∃ σ' H',a5 X pins σ' H' s'/\Q σ' H') X.xe s
def lV (X:Cx) (ts:List Expr) (t:iM):Prop:=
 ∀ (pins:List (Addr × Obj)) (s:Shared) (σ:St) (H:Hp) (vs:List V) (us:List Value) (Q:St->Hp->Prop),a5 X pins σ H s->aL vs us->t vs σ H Q->
  wpAny (model X.prog X.w) X.A (assignInOrder ((assignEach ts X.env).map (·.2)) us) (fun _ s'=>∃ σ' H',a5 X pins σ' H' s'/\Q σ' H') X.xe s
section
variable {X : Cx} {pos : Pos}
def bY (i:Nat):TG:=fun v σ H Q=>Q (σ.set i (some v)) H
theorem e9 {i:Nat}{x:Str} (hN:X.N.Nodup) (hi:X.N[i]? = some x) (hx:gI X.env.scope x) (hf:X.fn x=true ∨ X.env.scope.names.lookup x=some .local:=by first | exact .inl rfl | exact .inr rfl | assumption):PG X (.Name x pos) (bY i):=by
 intro pins s σ H v u Q I r h
 exact wpAny_assign_Name (oT I hN hi hx r (fun s' I'=>⟨_,H,I',h⟩) hf)
def jB:iM:=fun vs σ H Q=>vs = []/\Q σ H
def fD (t:TG) (u:iM):iM:=fun vs σ H Q=>∃ v r,vs=v :: r/\t v σ H fun σ' H'=>u r σ' H' Q
theorem kE:lV X [] jB:=by
 intro pins s σ H vs us Q I r h
 obtain ⟨e,h⟩:=h
 subst e
 cases r
 exact assignInOrder_nil ⟨σ,H,I,h⟩
theorem fW {e:Expr}{es:List Expr}{t:TG}{u:iM} (h1:PG X e t) (h2:lV X es u)
  (hs:(assignEach (e :: es) X.env).map (·.2)=assign e X.env :: (assignEach es X.env).map (·.2):=by rfl):lV X (e :: es) (fD t u):=by
 intro pins s σ H vs us Q I r h
 obtain ⟨v,vr,e1,h⟩:=h
 subst e1
 cases r with
 | cons r rr=>
  rw [hs]
  refine assignInOrder_cons (aJ (h1 pins s σ H _ _ _ I r h) fun _ s1 ⟨σ1,H1,I1,q1⟩=>?_)
  exact h2 pins s1 σ1 H1 _ _ Q I1 rr q1
def jC (K:PySem.W.Frag) (n:Nat) (t:iM):TG:=fun v σ H Q=>∃ a xs,v = .ref a/\aI K H a xs/\xs.length=n/\t xs σ H Q
theorem kF {es:List Expr}{k:Nat}{t:iM}{n:Nat} (hc:X.calm=true) (h:lV X es t)
  (hn:(assignEach es X.env).length=n:=by rfl) (hst:(assignEach es X.env).findIdx? (·.1)=none:=by rfl):PG X (.Tuple es k pos) (jC X.K n t):=by
 intro pins s σ H v u Q I r hw
 obtain ⟨a,xs,e1,hq,hl,hw⟩:=hw
 subst e1
 cases r
 obtain ⟨its,rv,ht,hz⟩:=I.tuple hq
 refine assign_Tuple_tuple (I.ok.hd hc) ht (by simp [hn,<- hl,rv.length]) hst fun h' hx=>?_
 have I1:a5 X pins σ H { s with heap:=h' }:=I.kept (t':=s.toks) fun b o e=>hx b o (ay8 (ax2 e)) e
 exact h pins _ σ H xs _ Q I1 (by simpa using rv) hw
def iN (te:TE) (g:TG):TS:=fun D σ H=>te σ H fun x H1=>g x σ H1 D.nx
theorem tU {i:Nat}{x:Str}{e:Expr}{te:TE}{pos':Pos} (hN:X.N.Nodup) (hi:X.N[i]? = some x) (hx:gI X.env.scope x) (he:PE X e te) (hs:swapsWith e (some (.Name x pos')) pos.line X.env=pure false:=by rfl) (hf:X.fn x=true ∨ X.env.scope.names.lookup x=some .local:=by first | exact .inl rfl | exact .inr rfl | assumption) :
  PS X (.Assign [.Name x pos'] e pos) (iN te (bY i)):=by
 intro pins s σ H D I h
 refine wpAny_Assign_Name (aJ (he pins s σ H _ I h) fun v s1 ⟨y,H1,I1,r1,q1⟩=>?_) hs
 exact oT I1 hN hi hx r1 (fun s2 I2=>⟨_,H1,I2,q1⟩) hf
end
structure It where
 go:Nat->Hp->Prop
 yld:Nat->Hp->V->Hp->Prop
 stop:Nat->Hp->Prop
def eO (X:Cx) (pins:List (Addr × Obj)) (H:Hp) (b:Addr):Prop:=
 H b=none/\b ≠ X.env.locals/\b ∉ X.fs/\(b ∈ X.ex ∨ X.s₀.heap.objs.size<=b)/\(∀ x c,X.env.cells.lookup x=some c->c ≠ b)/\∀ p ∈ X.pn ++ pins,p.1 ≠ b
theorem a5.fpOk {X:Cx}{pins:List (Addr × Obj)}{σ:St}{H H':Hp}{s:Shared}{b:Addr} (I:a5 X pins σ H s) (hb:s.heap.objs.size<=b) (hn:H' b=none):eO X pins H' b:=by
 refine⟨hn,aD5 (ax0 I.lt hb),I.nofs hb,.inr (aA3 I.sz hb),fun x c e z=>?_,fun p hp z=>?_⟩
 ·obtain ⟨v,q⟩:=I.cell x c e
  exact absurd (ax0 q.lt (by rw [z]; exact hb)) (az9 _)
 ·exact absurd (ax0 (ax2 (I.pin p hp).1) (by rw [z]; exact hb)) (az9 _)
structure fE (P:Program) (w:World) (K:PySem.W.Frag) (tg:Expr) (J:It) (fp:List Addr) (it:Addr) (tn:Nat->Heap->Prop):Prop where
 mem:it ∈ fp
 obj:∀ i h,tn i h->∀ b ∈ fp,∃ o,h.get? b=some o/\∀ v,o.data ≠ .cell v
 keep:∀ i h h',tn i h->(∀ b ∈ fp,∀ o,h.get? b=some o->h'.get? b=some o)->tn i h'
 item:∀ (X:Cx),X.prog=P->X.w=w->X.K=K->X.calm=true->∀ (i:Nat) (pins:List (Addr × Obj)) (s:Shared) (σ:St) (H:Hp) (E:Value->Shared->Prop),a5 X pins σ H s->(∀ b ∈ fp,eO X pins H b)->tn i s.heap->J.go i H->
  wpAny (model P w) X.A (pyNext (.ref it)) (fun r s1=>∃ u,r=some u/\
   wpAny (model P w) X.A (letOwnedTupleGo tg (.ref it) u) (fun _ s2=>∃ x H',a5 X pins σ H' s2/\aN x u/\J.yld i H x H'/\tn (i+1) s2.heap/\∀ b ∈ fp,H' b=none) E s1) E s
 done:∀ (X:Cx),X.prog=P->X.w=w->X.K=K->X.calm=true->∀ (i:Nat) (pins:List (Addr × Obj)) (s:Shared) (σ:St) (H:Hp) (E:Value->Shared->Prop),a5 X pins σ H s->(∀ b ∈ fp,eO X pins H b)->tn i s.heap->J.stop i H->
  wpAny (model P w) X.A (pyNext (.ref it)) (fun r s1=>r=none/\a5 X pins σ H s1) E s
 self:∀ (A:Around) (i:Nat) (s:Shared) (Q:Value->Shared->Prop) (E:Value->Shared->Prop),tn i s.heap->Q (.ref it) s->wpAny (model P w) A (pyIter (.ref it)) Q E s
abbrev TI:=St->Hp->(It->Hp->Prop)->Prop
def tV (X:Cx) (pins:List (Addr × Obj)) (σ:St) (tg:Expr) (R:It->Hp->Prop) (itv:Value) (s2:Shared):Prop:=
 ∃ (it:Addr) (fp:List Addr) (tn:Nat->Heap->Prop) (J:It) (H':Hp),itv = .ref it/\a5 X pins σ H' s2/\fE X.prog X.w X.K tg J fp it tn/\tn 0 s2.heap/\(∀ b ∈ fp,eO X pins H' b)/\R J H'
def PI (X:Cx) (tg iter:Expr) (wi:TI):Prop:=
 ∀ (pins:List (Addr × Obj)) (s:Shared) (σ:St) (H:Hp) (R:It->Hp->Prop),a5 X pins σ H s->wi σ H R->
  wpAny (model X.prog X.w) X.A (eval iter X.env) (fun v s1=>wpAny (model X.prog X.w) X.A (pyIter v) (tV X pins σ tg R) X.xe s1) X.xe s
theorem lW {M:Model}{A:Around}{E:Value->Shared->Prop}{s:Shared}{tg:Expr}{it:Addr}{u:Value}{o:Obj}{n:String}{vs:Array Value}{Q:Unit->Shared->Prop} (ho:s.heap.get? it=some o) (hc:o.cls = .type n) (hd:o.data = .fields vs)
    (hn : ["enumerate","zip","dict_itemiterator","dict_reverseitemiterator","odict_iterator","itertools.zip_longest","itertools.pairwise"].contains n=false) (hQ:Q () s):wpAny M A (letOwnedTupleGo tg (.ref it) u) Q E s:=by
  unfold letOwnedTupleGo
  cases tg <;> first
    | exact aw5 hQ
    | (cases u <;> first
        | exact aw5 hQ
        | (refine aw1 (wpAny_load ho ?_)
           rw [hc,hd]
           show wpAny M A (if (["enumerate","zip","dict_itemiterator","dict_reverseitemiterator","odict_iterator","itertools.zip_longest","itertools.pairwise"].contains n && vs[0]? == some (rawInt _))=true then _ else _) Q E s
           rw [if_neg (by intro h; rw [hn,Bool.false_and] at h; cases h)]
           exact aw5 hQ))
def jD (K:PySem.W.Frag) (a:Addr):It:=
 ⟨fun i H=>∃ xs x,aH K H a xs/\xs[i]? = some x,fun i H x H'=>H'=H/\∀ xs,aH K H a xs->xs[i]? = some x,fun i H=>∃ xs,aH K H a xs/\xs.length<=i⟩
def i7 (K:PySem.W.Frag) (a:Addr):It:=
 ⟨fun i H=>∃ xs x,aI K H a xs/\xs[i]? = some x,fun i H x H'=>H'=H/\∀ xs,aI K H a xs->xs[i]? = some x,fun i H=>∃ xs,aI K H a xs/\xs.length<=i⟩
def kG (lo:Int) (n:Nat):It:=⟨fun i _=>i < n,fun i H x H'=>H'=H/\x = .int (lo+i),fun i _=>n<=i⟩
theorem G8 {P:Program}{w:World}{K:PySem.W.Frag}{tg:Expr} (a it:Addr):fE P w K tg (jD K a) [it] it (fun i h=>h.IsListIter it a i) where
 mem:=by simp
 obj:=fun i h st b hb=>by
  have e:b=it:=by simpa using hb
  subst e
  obtain ⟨o,e,c,d⟩:=st
  exact⟨o,e,fun v z=>by rw [d] at z; cases z⟩
 keep:=fun i h h' st k=>st.at fun o e=>k it (by simp) o e
 item:=by
  intro X hP hw hK hc i pins s σ H E I hf st hg
  subst hP hw hK
  obtain ⟨xs,x,hq,hx⟩:=hg
  obtain ⟨its,rv,p,hz⟩:=I.list hq
  obtain ⟨u,hu,ru⟩:=rv.get hx
  obtain ⟨f0,f1,f2,f3,f4,f5⟩:=hf it (by simp)
  refine wpAny_pyNext_list_item st p.isList (x:=u) (by simpa using hu) fun h' st' sb=>?_
  have I1:a5 X pins σ H { s with heap:=h' }:=I.turned (t':=s.toks) (fun b o hb e=>(sb.2 b hb).trans e) f0 f1 f3 f4 f5
  obtain ⟨o,e,c,d⟩:=id st'
  exact⟨u,rfl,lW (s:={ s with heap:=h' }) e c d (by decide) ⟨x,H,I1,ru,⟨rfl,fun ys hy=>by rw [I.list_inj hy hq]; exact hx⟩,st',fun b hb=>(hf b hb).1⟩⟩
 done:=by
  intro X hP hw hK hc i pins s σ H E I hf st hg
  subst hP hw hK
  obtain ⟨xs,hq,hx⟩:=hg
  obtain ⟨its,rv,p,hz⟩:=I.list hq
  obtain ⟨f0,f1,f2,f3,f4,f5⟩:=hf it (by simp)
  have hl:=rv.length
  exact wpAny_pyNext_list_end (I.ok.hd hc) st p.isList (by simp; omega) fun h' eb=>⟨rfl,I.turned (t':=s.toks) (fun b o hb e=>eb b o hb e) f0 f1 f3 f4 f5⟩
 self:=fun _ _ _ _ _ st h=>wpAny_pyIter_listiter st h
theorem tW {P:Program}{w:World}{K:PySem.W.Frag}{tg:Expr} (a it:Addr):fE P w K tg (i7 K a) [it] it (fun i h=>h.IsTupleIter it a i) where
 mem:=by simp
 obj:=fun i h st b hb=>by
  have e:b=it:=by simpa using hb
  subst e
  obtain ⟨o,e,c,d⟩:=st
  exact⟨o,e,fun v z=>by rw [d] at z; cases z⟩
 keep:=fun i h h' st k=>st.at fun o e=>k it (by simp) o e
 item:=by
  intro X hP hw hK hc i pins s σ H E I hf st hg
  subst hP hw hK
  obtain ⟨xs,x,hq,hx⟩:=hg
  obtain ⟨its,rv,p,hz⟩:=I.tuple hq
  obtain ⟨u,hu,ru⟩:=rv.get hx
  obtain ⟨f0,f1,f2,f3,f4,f5⟩:=hf it (by simp)
  refine wpAny_pyNext_tuple_item st (show s.heap.IsTuple a its.toArray from p) (x:=u) (by simpa using hu) fun h' st' sb=>?_
  have I1:a5 X pins σ H { s with heap:=h' }:=I.turned (t':=s.toks) (fun b o hb e=>(sb.2 b hb).trans e) f0 f1 f3 f4 f5
  obtain ⟨o,e,c,d⟩:=id st'
  exact⟨u,rfl,lW (s:={ s with heap:=h' }) e c d (by decide) ⟨x,H,I1,ru,⟨rfl,fun ys hy=>by rw [I.tuple_inj hy hq]; exact hx⟩,st',fun b hb=>(hf b hb).1⟩⟩
 done:=by
  intro X hP hw hK hc i pins s σ H E I hf st hg
  subst hP hw hK
  obtain ⟨xs,hq,hx⟩:=hg
  obtain ⟨its,rv,p,hz⟩:=I.tuple hq
  obtain ⟨f0,f1,f2,f3,f4,f5⟩:=hf it (by simp)
  have hl:=rv.length
  exact wpAny_pyNext_tuple_end (I.ok.hd hc) st (show s.heap.IsTuple a its.toArray from p) (by simp; omega) fun h' eb=>⟨rfl,I.turned (t':=s.toks) (fun b o hb e=>eb b o hb e) f0 f1 f3 f4 f5⟩
 self:=fun _ _ _ _ _ st h=>wpAny_pyIter_tupleiter st h
theorem G9 {P:Program}{w:World}{K:PySem.W.Frag}{tg:Expr} (it:Addr) (lo:Int) (n:Nat):fE P w K tg (kG lo n) [it] it (fun i h=>IsRangeIter h it (lo+(i:Nat) * 1) ((n:Int) - (i:Nat)) 1) where
 mem:=by simp
 obj:=fun i h st b hb=>by
  have e:b=it:=by simpa using hb
  subst e
  exact⟨_,st,fun v z=>by
   have z':Data.fields _=Data.cell v:=z
   cases z'⟩
 keep:=fun i h h' st k=>k it (by simp) _ st
 item:=by
  intro X hP hw hK hc i pins s σ H E I hf st hg
  subst hP hw hK
  obtain ⟨f0,f1,f2,f3,f4,f5⟩:=hf it (by simp)
  have W:=Walks.range (prog:=X.prog) (w:=X.w) (I.ok.hd hc) it lo 1 n
  refine W.item i s _ _ hg st fun v h' tk hv st' kk=>?_
  obtain ⟨t,rfl⟩:=hv
  have I1:a5 X pins σ H { s with heap:=h',toks:=tk }:=I.turned (fun b o hb e=>kk b o (by simpa using hb) e) f0 f1 f3 f4 f5
  refine⟨_,rfl,lW (s:={ s with heap:=h',toks:=tk }) (n:="range_iterator") st' rfl rfl (by decide) ⟨.int (lo+i),H,I1,⟨t,?_⟩,⟨rfl,rfl⟩,st',fun b hb=>(hf b hb).1⟩⟩
  rw [Int.mul_one]
 done:=by
  intro X hP hw hK hc i pins s σ H E I hf st hg
  subst hP hw hK
  obtain ⟨f0,f1,f2,f3,f4,f5⟩:=hf it (by simp)
  exact wpAny_pyNext_range_end (I.ok.hd hc) st (by have:n<=i:=hg; omega) fun h' eb=>⟨rfl,I.turned (t':=s.toks) (fun b o hb e=>eb b o hb e) f0 f1 f3 f4 f5⟩
 self:=fun _ _ _ _ _ st h=>wpAny_pyIter_rangeiter st h
section
variable {X : Cx} {tg : Expr}
def J0 (K:PySem.W.Frag) (tl:TE):TI:=fun σ H R=>tl σ H fun x H1=>∃ a,x = .ref a/\(∃ xs,aI K H1 a xs)/\R (i7 K a) H1
theorem tX {l:Expr}{tl:TE} (hl:PE X l tl):PI X tg l (J0 X.K tl):=by
 intro pins s σ H R I h
 refine aJ (hl pins s σ H _ I h) fun v s1 ⟨x,H1,I1,r1,q1⟩=>?_
 obtain ⟨a,e,⟨xs,hq⟩,q⟩:=q1
 subst e
 cases r1
 obtain ⟨its,rv,p,hz⟩:=I1.tuple hq
 refine aG2 (show s1.heap.IsTuple a its.toArray from p) ?_
 refine⟨s1.heap.objs.size,[s1.heap.objs.size],_,_,H1,rfl,I1.kept (t':=s1.toks) fun b o e=>aw2 _ e,tW a _,⟨_,ax5 _ rfl,rfl,rfl⟩,fun b hb=>?_,q⟩
 have e:b=s1.heap.objs.size:=by simpa using hb
 subst e
 exact I1.fpOk (aw6 _) (I1.hok.fresh (aw6 _))
theorem tY {pins:List (Addr × Obj)}{σ:St}{H:Hp}{s:Shared}{R:It->Hp->Prop}{E:Value->Shared->Prop}{lo hi:Int}{t u v:Tok}{tk:Nat} (I:a5 X pins σ H s) (h1 : -(2 ^ 62)<=lo) (h2:lo < 2 ^ 62) (h3 : -(2 ^ 62)<=hi) (h4:hi < 2 ^ 62)
  (q:R (kG lo (hi - lo).toNat) H):wpAny (model X.prog X.w) X.A (pyIter (.ref s.heap.objs.size)) (tV X pins σ tg R) E { s with heap:=s.heap.push { cls:=.type "range",data:=.fields #[.int lo t,.int hi u,.int 1 v] },toks:=tk }:=by
 refine wpAny_pyIter_range (IsRange.new ..) (small_one h1 h2 h3 h4) ?_
 have I1:a5 X pins σ H { s with heap:=s.heap.push { cls:=.type "range",data:=.fields #[.int lo t,.int hi u,.int 1 v] },toks:=tk }:=I.kept fun b o e=>aw2 _ e
 refine⟨(s.heap.push { cls:=.type "range",data:=.fields #[.int lo t,.int hi u,.int 1 v] }).objs.size,[(s.heap.push { cls:=.type "range",data:=.fields #[.int lo t,.int hi u,.int 1 v] }).objs.size],_,_,H,rfl,
  I1.kept (t':=tk) fun b o e=>aw2 _ e,G9 _ lo (hi - lo).toNat,?_,fun b hb=>?_,q⟩
 ·have e1:lo+((0:Nat):Int) * 1=lo:=by simp
  have e2:(((hi - lo).toNat:Nat):Int) - ((0:Nat):Int)=Builtin.Range.rangeSize lo hi 1:=by rw [rangeSize_one]; split <;> omega
  show IsRangeIter _ _ (lo+((0:Nat):Int) * 1) ((((hi - lo).toNat:Nat):Int) - ((0:Nat):Int)) 1
  rw [e1,e2]
  exact ax5 _ rfl
 ·have e:b=(s.heap.push { cls:=.type "range",data:=.fields #[.int lo t,.int hi u,.int 1 v] }).objs.size:=by simpa using hb
  subst e
  exact I1.fpOk (aw6 _) (I1.hok.fresh (aw6 _))
def tZ (ta:TA):TI:=fun σ H R=>ta σ H fun vs H1=>∃ j:Int,vs = [.int j]/\-(2 ^ 62)<=j/\j < 2 ^ 62/\R (kG 0 j.toNat) H1
def u3 (ta:TA):TI:=fun σ H R=>ta σ H fun vs H1=>∃ i j:Int,vs = [.int i,.int j]/\(-(2 ^ 62)<=i/\i < 2 ^ 62/\-(2 ^ 62)<=j/\j < 2 ^ 62)/\R (kG i (j - i).toNat) H1
theorem J1 {a:Expr}{ta:TA}{p pos:Pos} (hg:Gl X "range") (hm:X.mg "range" = none) (ha:PA X [a] ta) (hs:starEach [a] X.env = [(false,eval a X.env)]:=by rfl):PI X tg (.Call (.Name "range" p) [a] [] pos) (tZ ta):=by
 intro pins s σ H R I h
 refine Call_ (gJ I hg hm boot_range (aB8 (aJ (ha pos pins s σ H _ I h) fun us s1 ⟨vs,H1,I1,r1,q1⟩=>?_) hs rfl))
 obtain ⟨j,e,q1,q2,q⟩:=q1
 subst e
 cases r1 with
 | cons r rr=>
  cases rr
  obtain ⟨t,rfl⟩:=r
  exact call_range_1 (tY I1 (by omega) (by omega) q1 q2 (by simpa using q))
theorem J2 {a b:Expr}{ta:TA}{p pos:Pos} (hg:Gl X "range") (hm:X.mg "range" = none) (ha:PA X [a,b] ta) (hs:starEach [a,b] X.env = [(false,eval a X.env),(false,eval b X.env)]:=by rfl) (hs2:starEach [b] X.env = [(false,eval b X.env)]:=by rfl) :
  PI X tg (.Call (.Name "range" p) [a,b] [] pos) (u3 ta):=by
 intro pins s σ H R I h
 refine Call_ (gJ I hg hm boot_range (aB8 (aJ (ha pos pins s σ H _ I h) fun us s1 ⟨vs,H1,I1,r1,q1⟩=>?_) (by rw [hs,hs2]) (by rw [hs2]; rfl)))
 obtain ⟨i,j,e,⟨q1,q2,q3,q4⟩,q⟩:=q1
 subst e
 cases r1 with
 | cons r rr=>
  cases rr with
  | cons r' rr=>
   cases rr
   obtain ⟨t,rfl⟩:=r
   obtain ⟨t',rfl⟩:=r'
   exact call_range_2 (tY I1 q1 q2 q3 q4 q)
def u4 (wi:TI) (g:TG) (tb:TS):TS:=fun D σ H=>wi σ H fun J H1=>∃ W:Nat->Nat->St->Hp->Prop,(∃ m,W 0 m σ H1)/\∀ i m σ H,W i m σ H->
 (J.stop i H/\D.nx σ H) ∨ (J.go i H/\∃ N:St->Hp->Prop,(∀ σ' H',N σ' H'->∃ m',m' < m/\W (i+1) m' σ' H')/\∀ x H',J.yld i H x H'->g x σ H' fun σ2 H2=>tb { D with nx:=N,ct:=N,bk:=D.nx } σ2 H2)
def kH (fp:List Addr) (h:Heap):List (Addr × Obj):=fp.filterMap fun b=>(h.get? b).map fun o=>(b,o)
theorem lX {fp:List Addr}{h:Heap}{b:Addr}{o:Obj} (hb:b ∈ fp) (e:h.get? b=some o):(b,o) ∈ kH fp h:=List.mem_filterMap.mpr ⟨b,hb,by rw [e]; rfl⟩
theorem J3 {fp:List Addr}{h:Heap}{p:Addr × Obj} (hp:p ∈ kH fp h):p.1 ∈ fp/\h.get? p.1=some p.2:=by
 obtain ⟨b,hb,e⟩:=List.mem_filterMap.mp hp
 cases q:h.get? b with
 | none=>rw [q] at e; cases e
 | some o=>
  rw [q] at e
  have e':(b,o)=p:=ay6 e
  subst e'
  exact⟨hb,q⟩
theorem a5.pinned {pins:List (Addr × Obj)}{σ:St}{H:Hp}{s:Shared}{fp:List Addr} (I:a5 X pins σ H s) (hf:∀ b ∈ fp,eO X pins H b) (ho:∀ b ∈ fp,∃ o,s.heap.get? b=some o/\∀ v,o.data ≠ .cell v):a5 X (pins ++ kH fp s.heap) σ H s:=
 I.pins_of fun p hp=>(aA8.mp hp).elim (fun z=>I.pin p (az6 _ z)) fun z=>by
  obtain ⟨hb,e⟩:=J3 z
  obtain ⟨f0,f1,f2,_⟩:=hf p.1 hb
  obtain ⟨o,e',d⟩:=ho p.1 hb
  rw [e] at e'; cases e'
  exact⟨e,f0,f1,f2,d⟩
theorem a5.unpinned {pins pl:List (Addr × Obj)}{σ:St}{H:Hp}{s:Shared} (I:a5 X (pins ++ pl) σ H s):a5 X pins σ H s:=I.pins_of fun p hp=>I.pin p (az6 _ (List.mem_append_left _ hp))
theorem u5 {iter:Expr}{body:List Stmt}{wi:TI}{g:TG}{tb:TS}{pos:Pos} (hp:PassesOwn (model X.prog X.w) X.A X.env X.xe) (hc:X.calm=true) (hi:PI X tg iter wi) (hg:PG X tg g) (hb:cO X body tb)
  (hs:∀ x,foldedSetIterable iter X.env x=pure x:=by intro _; rfl):PS X (.For tg iter body [] pos) (u4 wi g tb):=by
 intro pins s σ H D I h
 refine wpAny_For (aJ (hi pins s σ H _ I h) fun v s1 h1=>aJ h1 fun itv s2 h2=>?_) hs
 obtain ⟨it,fp,tn,J,H2,e,I2,T,st2,f2,W,⟨m0,w0⟩,turn⟩:=h2
 subst e
 have stat:∀ {H':Hp},(∀ b ∈ fp,H' b=none)->∀ b ∈ fp,eO X pins H' b:=fun hn b hb=>⟨hn b hb,(f2 b hb).2⟩
 refine codeAny_forLoop_any (fun n s'=>∃ i σ' H',a5 X pins σ' H' s'/\tn i s'.heap/\(∀ b ∈ fp,H' b=none)/\W i n σ' H') ?_ m0 ⟨0,σ,H2,I2,st2,fun b hb=>(f2 b hb).1,w0⟩
 rintro n s3 ⟨i,σ3,H3,I3,st3,fr3,w3⟩
 rcases turn i n σ3 H3 w3 with ⟨stop,qn⟩ | ⟨go,N,hN,step⟩
 ·refine wpAny_passesOwn hp (aJ (T.done X rfl rfl rfl hc i pins s3 σ3 H3 X.xe I3 (stat fr3) st3 stop) fun r s4 ⟨hr,I4⟩=>?_)
  subst hr
  exact wpAny_execs_nil ⟨σ3,H3,I4,qn⟩
 ·refine wpAny_passesOwn hp (aJ (T.item X rfl rfl rfl hc i pins s3 σ3 H3 X.xe I3 (stat fr3) st3 go) fun r s4 ⟨u,hr,h4⟩=>?_)
  subst hr
  refine wpAny_passesOwn hp (aJ h4 fun _ s5 ⟨x,H5,I5,r5,y5,st5,fr5⟩=>?_)
  have I5':=I5.pinned (stat fr5) (T.obj _ _ st5)
  refine wpAny_passesOwn hp (aJ (hg _ s5 σ3 H5 x u _ I5' r5 (step x H5 y5)) fun _ s6 ⟨σ6,H6,I6,q6⟩=>?_)
  refine wpAny_passesOwn hp (aJ (hb _ s6 σ6 H6 _ I6 q6) fun f s7 q7=>?_)
  have again:∀ {σ7:St}{H7:Hp},a5 X (pins ++ kH fp s5.heap) σ7 H7 s7->N σ7 H7->∃ m,m < n/\∃ i σ' H',a5 X pins σ' H' s7/\tn i s7.heap/\(∀ b ∈ fp,H' b=none)/\W i m σ' H':=fun {σ7 H7} I7 n7=>by
   obtain ⟨m',hm,w7⟩:=hN σ7 H7 n7
   refine⟨m',hm,i+1,σ7,H7,I7.unpinned,T.keep _ _ _ st5 fun b hb o e=>(I7.pin (b,o) (az6 _ (az6 _ (lX hb e)))).1,fun b hb=>?_,w7⟩
   obtain ⟨o,e,d⟩:=T.obj _ _ st5 b hb
   exact (I7.pin (b,o) (az6 _ (az6 _ (lX hb e)))).2.1
  cases f with
  | next=>obtain ⟨σ7,H7,I7,n7⟩:=q7; exact again I7 n7
  | cont=>obtain ⟨σ7,H7,I7,n7⟩:=q7; exact again I7 n7
  | brk=>obtain ⟨σ7,H7,I7,q7⟩:=q7; exact⟨σ7,H7,I7.unpinned,q7⟩
  | ret v=>obtain ⟨x7,σ7,H7,I7,r7,q7⟩:=q7; exact⟨x7,σ7,H7,I7.unpinned,r7,q7⟩
end
theorem av6 {K:PySem.W.Frag}{a:Addr}{xs:List V}{g:TG}{tb:TS}{D:cH}{σ:St}{H:Hp} (Pv:Nat->St->Hp->Prop) (h0:Pv 0 σ H) (hl:∀ i σ H,i<=xs.length->Pv i σ H->aH K H a xs)
  (hs:∀ i x σ H,xs[i]? = some x->Pv i σ H->g x σ H fun σ2 H2=>tb { D with nx:=Pv (i+1),ct:=Pv (i+1),bk:=D.nx } σ2 H2) (hd:∀ σ H,Pv xs.length σ H->D.nx σ H) :
  ∃ W:Nat->Nat->St->Hp->Prop,(∃ m,W 0 m σ H)/\∀ i m σ H,W i m σ H->
   ((jD K a).stop i H/\D.nx σ H) ∨ ((jD K a).go i H/\∃ N:St->Hp->Prop,(∀ σ' H',N σ' H'->∃ m',m' < m/\W (i+1) m' σ' H')/\∀ x H',(jD K a).yld i H x H'->g x σ H' fun σ2 H2=>tb { D with nx:=N,ct:=N,bk:=D.nx } σ2 H2):=by
 refine⟨fun i m σ H=>m=xs.length - i/\i<=xs.length/\Pv i σ H,⟨xs.length,by simp,az7 _,h0⟩,?_⟩
 rintro i m σ H ⟨rfl,hi,p⟩
 have q:=hl i σ H hi p
 by_cases hlt:i < xs.length
 ·refine .inr ⟨⟨xs,xs[i],q,by simp [hlt]⟩,Pv (i+1),fun σ' H' p'=>⟨xs.length - (i+1),by omega,rfl,hlt,p'⟩,fun x H' y=>?_⟩
  obtain ⟨e,y⟩:=y
  subst e
  exact hs i x σ _ (y xs q) p
 ·have e:i=xs.length:=by omega
  subst e
  exact .inl ⟨⟨xs,q,aw6 _⟩,hd σ H p⟩
theorem J4 {K:PySem.W.Frag}{a:Addr}{xs:List V}{g:TG}{tb:TS}{D:cH}{σ:St}{H:Hp} (Pv:Nat->St->Hp->Prop) (h0:Pv 0 σ H) (hl:∀ i σ H,i<=xs.length->Pv i σ H->aI K H a xs)
  (hs:∀ i x σ H,xs[i]? = some x->Pv i σ H->g x σ H fun σ2 H2=>tb { D with nx:=Pv (i+1),ct:=Pv (i+1),bk:=D.nx } σ2 H2) (hd:∀ σ H,Pv xs.length σ H->D.nx σ H) :
  ∃ W:Nat->Nat->St->Hp->Prop,(∃ m,W 0 m σ H)/\∀ i m σ H,W i m σ H->
   ((i7 K a).stop i H/\D.nx σ H) ∨ ((i7 K a).go i H/\∃ N:St->Hp->Prop,(∀ σ' H',N σ' H'->∃ m',m' < m/\W (i+1) m' σ' H')/\∀ x H',(i7 K a).yld i H x H'->g x σ H' fun σ2 H2=>tb { D with nx:=N,ct:=N,bk:=D.nx } σ2 H2):=by
 refine⟨fun i m σ H=>m=xs.length - i/\i<=xs.length/\Pv i σ H,⟨xs.length,by simp,az7 _,h0⟩,?_⟩
 rintro i m σ H ⟨rfl,hi,p⟩
 have q:=hl i σ H hi p
 by_cases hlt:i < xs.length
 ·refine .inr ⟨⟨xs,xs[i],q,by simp [hlt]⟩,Pv (i+1),fun σ' H' p'=>⟨xs.length - (i+1),by omega,rfl,hlt,p'⟩,fun x H' y=>?_⟩
  obtain ⟨e,y⟩:=y
  subst e
  exact hs i x σ _ (y xs q) p
 ·have e:i=xs.length:=by omega
  subst e
  exact .inl ⟨⟨xs,q,aw6 _⟩,hd σ H p⟩
abbrev R2:=V->V->Hp->VK->Prop
def bU (X:Cx) (f:Value->Value->Sem Value) (r:R2):Prop:=
 ∀ (pins:List (Addr × Obj)) (s:Shared) (σ:St) (H:Hp) (x y:V) (v u:Value) (Q:VK),a5 X pins σ H s->aN x v->aN y u->r x y H Q->
  wpAny (model X.prog X.w) X.A (f v u) (EP X pins σ Q) X.xe s
def oV (X:Cx) (f:Value->Sem Value) (r:V->Hp->VK->Prop):Prop:=
 ∀ (pins:List (Addr × Obj)) (s:Shared) (σ:St) (H:Hp) (x:V) (v:Value) (Q:VK),a5 X pins σ H s->aN x v->r x H Q->
  wpAny (model X.prog X.w) X.A (f v) (EP X pins σ Q) X.xe s
def cC (X:Cx) (f:Value) (r:List V->Hp->VK->Prop):Prop:=
 ∀ (pins:List (Addr × Obj)) (s:Shared) (σ:St) (H:Hp) (xs:List V) (us:List Value) (Q:VK),a5 X pins σ H s->aL xs us->r xs H Q->
  wpAny (model X.prog X.w) X.A (call f us) (EP X pins σ Q) X.xe s
def kI (r:R2) (ta tb:TE):TE:=fun σ H Q=>ta σ H fun x H1=>tb σ H1 fun y H2=>r x y H2 Q
def J5 (r:V->Hp->VK->Prop) (ta:TE):TE:=fun σ H Q=>ta σ H fun x H1=>r x H1 Q
def rI (C:Int->Int->Prop) (g:Int->Int->V):R2:=fun x y H Q=>∃ i j,x = .int i/\y = .int j/\C i j/\Q (g i j) H
def gK (g:Int->Int->V):R2:=fun x y H Q=>∃ i j,x = .int i/\y = .int j/\Q (g i j) H
def rU (g:Int->V):V->Hp->VK->Prop:=fun x H Q=>∃ i,x = .int i/\Q (g i) H
section
variable {X : Cx} {a b c : Expr} {ta tb tc : TE} {pos : Pos}
theorem oW (ha:PE X a ta) (hb:PE X b tb) {pins:List (Addr × Obj)}{s:Shared}{σ:St}{H:Hp}{R:V->V->Hp->Prop} (I:a5 X pins σ H s)
  (h:ta σ H fun x H1=>tb σ H1 fun y H2=>R x y H2) {Q:Value->Shared->Prop}{f:Value->Value->Sem Value}
  (hf:∀ v u s2 x y H2,a5 X pins σ H2 s2->aN x v->aN y u->R x y H2->wpAny (model X.prog X.w) X.A (f v u) Q X.xe s2) :
  wpAny (model X.prog X.w) X.A (eval a X.env) (fun v s₁=>wpAny (model X.prog X.w) X.A (eval b X.env) (fun u s₂=>wpAny (model X.prog X.w) X.A (f v u) Q X.xe s₂) X.xe s₁) X.xe s:=by
 refine aJ (ha pins s σ H _ I h) fun v s1 ⟨x,H1,I1,r1,q1⟩=>?_
 refine aJ (hb pins s1 σ H1 _ I1 q1) fun u s2 ⟨y,H2,I2,r2,q2⟩=>?_
 exact hf v u s2 x y H2 I2 r1 r2 q2
theorem J6 {op:Operator}{r:R2} (ho:bU X (binaryOp op) r) (ha:PE X a ta) (hb:PE X b tb):PE X (.BinOp a op b pos) (kI r ta tb):=by
 intro pins s σ H Q I h
 exact wpAny_BinOp (oW ha hb I h fun v u s2 x y H2 I2 rx ry q=>ho pins s2 σ H2 x y v u Q I2 rx ry q)
theorem J7 {op:UnaryOp}{r:V->Hp->VK->Prop} (ho:oV X (unaryOp op) r) (ha:PE X a ta):PE X (.UnaryOp op a pos) (J5 r ta):=by
 intro pins s σ H Q I h
 exact UnaryOp_ (aJ (ha pins s σ H _ I h) fun v s1 ⟨x,H1,I1,r1,q1⟩=>ho pins s1 σ H1 x v Q I1 r1 q1)
theorem lY {f:Value->Value->Sem Value}{C:Int->Int->Prop}{g:Int->Int->Int}
  (rule:∀ (i j:Int) (t u:Tok) (s:Shared) (Q:Value->Shared->Prop) (E:Value->Shared->Prop),C i j->Q (.int (g i j) s.toks) { s with toks:=s.toks+1 }->wpAny (model X.prog X.w) X.A (f (.int i t) (.int j u)) Q E s) :
  bU X f (rI C fun i j=>.int (g i j)):=by
 intro pins s σ H x y v u Q I rx ry h
 obtain ⟨i,j,rfl,rfl,hc,q⟩:=h
 obtain ⟨t,rfl⟩:=rx
 obtain ⟨t',rfl⟩:=ry
 exact rule i j t t' s _ _ hc ⟨.int (g i j),H,I.tok _,⟨_,rfl⟩,q⟩
theorem u6 {f:Value->Value->Sem Value}{g:Int->Int->Int}
  (rule:∀ (i j:Int) (t u:Tok) (s:Shared) (Q:Value->Shared->Prop) (E:Value->Shared->Prop),Q (.int (g i j) s.toks) { s with toks:=s.toks+1 }->wpAny (model X.prog X.w) X.A (f (.int i t) (.int j u)) Q E s) :
  bU X f (gK fun i j=>.int (g i j)):=by
 intro pins s σ H x y v u Q I rx ry h
 obtain ⟨i,j,rfl,rfl,q⟩:=h
 obtain ⟨t,rfl⟩:=rx
 obtain ⟨t',rfl⟩:=ry
 exact rule i j t t' s _ _ ⟨.int (g i j),H,I.tok _,⟨_,rfl⟩,q⟩
theorem oX {f:Value->Value->Sem Value}{g:Int->Int->Bool}
  (rule:∀ (i j:Int) (t u:Tok) (s:Shared) (Q:Value->Shared->Prop) (E:Value->Shared->Prop),Q (.bool (g i j)) s->wpAny (model X.prog X.w) X.A (f (.int i t) (.int j u)) Q E s) :
  bU X f (gK fun i j=>.bl (g i j)):=by
 intro pins s σ H x y v u Q I rx ry h
 obtain ⟨i,j,rfl,rfl,q⟩:=h
 obtain ⟨t,rfl⟩:=rx
 obtain ⟨t',rfl⟩:=ry
 exact rule i j t t' s _ _ ⟨.bl (g i j),H,I,rfl,q⟩
def oY (i j:Int):Prop:=0 < j/\j < 1073741824
def oZ (i j:Int):Prop:=0<=j/\j<=1000000/\i.natAbs < 2 ^ 64
def kJ (i j:Int):Prop:=(-(2 ^ 64) < i/\i < 2 ^ 64) ∨ (-(2 ^ 64) < j/\j < 2 ^ 64)
theorem kJ.ok {i j:Int} (h:kJ i j):IntMulOk i j:=by
 rcases h with ⟨h1,h2⟩ | ⟨h1,h2⟩
 ·exact .of_left (intBits_le_64 h1 h2)
 ·exact .of_right (intBits_le_64 h1 h2)
theorem J8:bU X (binaryOp .Add) (gK fun i j=>.int (i+j)):=u6 fun _ _ _ _ _ _ _ q=>add_int q
theorem K0:bU X (binaryOp .Sub) (gK fun i j=>.int (i - j)):=u6 fun _ _ _ _ _ _ _ q=>sub_int q
theorem K1:bU X (binaryOp .Mult) (rI kJ fun i j=>.int (i * j)):=lY fun _ _ _ _ _ _ _ hc q=>mul_int q hc.ok
theorem K2:bU X (binaryOp .FloorDiv) (rI oY fun i j=>.int (i / j)):=lY fun i j _ _ _ _ _ hc q=>by
 have h1:(0:Int) < j:=hc.1
 have h2:j < 1073741824:=hc.2
 exact floordiv_int (by omega) (by rw [Int.fdiv_eq_ediv_of_nonneg i (by omega)]; exact q) (.inl (PyProof.noPylong_small (by omega)))
theorem K3:bU X (binaryOp .Mod) (rI (fun _ j=>0 < j) fun i j=>.int (i % j)):=lY fun i j _ _ _ _ _ hc q=>by
 have h1:(0:Int) < j:=hc
 exact mod_int' (by omega) (by rw [Int.fmod_eq_emod_of_nonneg i (by omega)]; exact q)
theorem K4:bU X (binaryOp .Pow) (rI oZ fun i j=>.int (i ^ j.toNat)):=lY fun _ _ _ _ _ _ _ hc q=>pow_int_small hc.1 hc.2.1 hc.2.2 q
theorem K5 {f:Value->Sem Value}{g:Int->Int}
  (rule:∀ (i:Int) (t:Tok) (s:Shared) (Q:Value->Shared->Prop) (E:Value->Shared->Prop),Q (.int (g i) s.toks) { s with toks:=s.toks+1 }->wpAny (model X.prog X.w) X.A (f (.int i t)) Q E s) :
  oV X f (rU fun i=>.int (g i)):=by
 intro pins s σ H x v Q I rx h
 obtain ⟨i,rfl,q⟩:=h
 obtain ⟨t,rfl⟩:=rx
 exact rule i t s _ _ ⟨.int (g i),H,I.tok _,⟨_,rfl⟩,q⟩
theorem K6:oV X (unaryOp .USub) (rU fun i=>.int (-i)):=K5 fun _ _ _ _ _ q=>neg_int q
end
def u7:V->V->Bool
 | .non,.non=>true | .non,.int _=>true | .int _,.non=>true | .non,.bl _=>true | .bl _,.non=>true | .non,.str _=>true | .str _,.non=>true
 | .int _,.int _=>true | .bl _,.bl _=>true | .str _,.str _=>true | .byt _,.byt _=>true
 | .int _,.str _=>true | .str _,.int _=>true | .bl _,.str _=>true | .str _,.bl _=>true
 | _,_=>false
def u8:R2:=fun x y H Q=>u7 x y=true/\Q (.bl (decide (x=y))) H
def u9:R2:=fun x y H Q=>u7 x y=true/\Q (.bl (!decide (x=y))) H
theorem uA {i j:Int}:decide (V.int i=V.int j)=(i == j):=by
 rw [aF4]
 simp
theorem uB {i j:Bool}:decide (V.bl i=V.bl j)=(i == j):=by
 rw [aF4]
 simp
theorem uC {i j:Str}:decide (V.str i=V.str j)=(i == j):=by
 rw [aF4]
 simp
theorem uD {i j:Array UInt8}:decide (V.byt i=V.byt j)=(i.toList == j.toList):=by
 rw [aF4]
 cases i
 cases j
 simp
section
variable {X : Cx} {a b c : Expr} {ta tb tc : TE} {pos : Pos}
theorem bC {pins:List (Addr × Obj)}{σ:St}{H:Hp}{s:Shared}{Q:VK}{k k':Bool} (I:a5 X pins σ H s) (q:Q (.bl k) H) (e:k=k'):EP X pins σ Q (.bool k') s:=by
 subst e
 exact⟨.bl k,H,I,rfl,q⟩
theorem uE:bU X (compareOp .Eq) u8:=by
 intro pins s σ H x y v u Q I rx ry h
 obtain ⟨hs,q⟩:=h
 cases x with
 | non=>
  cases rx
  cases y with
  | non=>cases ry; exact PySem.EqNone.eq_none_none (bC I q (by simp))
  | bl j=>cases ry; exact PySem.EqNone.eq_none_bool (bC I q (by simp))
  | int j=>obtain ⟨t',rfl⟩:=ry; exact PySem.EqNone.eq_none_int (bC I q (by simp))
  | str j=>obtain ⟨t',rfl⟩:=ry; exact PySem.EqNone.eq_none_str (bC I q (by simp))
  | _=>exact absurd (show false=true from hs) ay1
 | bl i=>
  cases rx
  cases y with
  | non=>cases ry; exact PySem.EqNone.eq_bool_none (bC I q (by simp))
  | bl j=>cases ry; exact eq_bool (bC I q uB)
  | str j=>obtain ⟨t',rfl⟩:=ry; exact PySem.EqMixed.eq_bool_str (bC I q (by simp))
  | _=>exact absurd (show false=true from hs) ay1
 | int i=>
  obtain ⟨t,rfl⟩:=rx
  cases y with
  | non=>cases ry; exact PySem.EqNone.eq_int_none (bC I q (by simp))
  | int j=>obtain ⟨t',rfl⟩:=ry; exact eq_int (bC I q uA)
  | str j=>obtain ⟨t',rfl⟩:=ry; exact PySem.EqMixed.eq_int_str (bC I q (by simp))
  | _=>exact absurd (show false=true from hs) ay1
 | str i=>
  obtain ⟨t,rfl⟩:=rx
  cases y with
  | non=>cases ry; exact PySem.EqNone.eq_str_none (bC I q (by simp))
  | bl j=>cases ry; exact PySem.EqMixed.eq_str_bool (bC I q (by simp))
  | int j=>obtain ⟨t',rfl⟩:=ry; exact PySem.EqMixed.eq_str_int (bC I q (by simp))
  | str j=>obtain ⟨t',rfl⟩:=ry; exact eq_str (bC I q uC)
  | _=>exact absurd (show false=true from hs) ay1
 | byt i=>
  obtain ⟨t,rfl⟩:=rx
  cases y with
  | byt j=>obtain ⟨t',rfl⟩:=ry; exact PySem.W.eq_bytes (bC I q uD)
  | _=>exact absurd (show false=true from hs) ay1
 | _=>cases y <;> exact absurd (show false=true from hs) ay1
theorem K7:bU X (compareOp .NotEq) u9:=by
 intro pins s σ H x y v u Q I rx ry h
 obtain ⟨hs,q⟩:=h
 cases x with
 | non=>
  cases rx
  cases y with
  | non=>cases ry; exact PySem.EqNone.ne_none_none (bC I q (by simp))
  | bl j=>cases ry; exact PySem.EqNone.ne_none_bool (bC I q (by simp))
  | int j=>obtain ⟨t',rfl⟩:=ry; exact PySem.EqNone.ne_none_int (bC I q (by simp))
  | str j=>obtain ⟨t',rfl⟩:=ry; exact PySem.EqNone.ne_none_str (bC I q (by simp))
  | _=>exact absurd (show false=true from hs) ay1
 | bl i=>
  cases rx
  cases y with
  | non=>cases ry; exact PySem.EqNone.ne_bool_none (bC I q (by simp))
  | bl j=>cases ry; exact ne_bool (bC I q (congrArg not uB))
  | str j=>obtain ⟨t',rfl⟩:=ry; exact PySem.EqMixed.ne_bool_str (bC I q (by simp))
  | _=>exact absurd (show false=true from hs) ay1
 | int i=>
  obtain ⟨t,rfl⟩:=rx
  cases y with
  | non=>cases ry; exact PySem.EqNone.ne_int_none (bC I q (by simp))
  | int j=>obtain ⟨t',rfl⟩:=ry; exact ne_int (bC I q (congrArg not uA))
  | str j=>obtain ⟨t',rfl⟩:=ry; exact PySem.EqMixed.ne_int_str (bC I q (by simp))
  | _=>exact absurd (show false=true from hs) ay1
 | str i=>
  obtain ⟨t,rfl⟩:=rx
  cases y with
  | non=>cases ry; exact PySem.EqNone.ne_str_none (bC I q (by simp))
  | bl j=>cases ry; exact PySem.EqMixed.ne_str_bool (bC I q (by simp))
  | int j=>obtain ⟨t',rfl⟩:=ry; exact PySem.EqMixed.ne_str_int (bC I q (by simp))
  | str j=>obtain ⟨t',rfl⟩:=ry; exact ne_str (bC I q (congrArg not uC))
  | _=>exact absurd (show false=true from hs) ay1
 | byt i=>
  obtain ⟨t,rfl⟩:=rx
  cases y with
  | byt j=>obtain ⟨t',rfl⟩:=ry; exact PySem.W.ne_bytes (bC I q (congrArg not uD))
  | _=>exact absurd (show false=true from hs) ay1
 | _=>cases y <;> exact absurd (show false=true from hs) ay1
theorem lZ:bU X (compareOp .Lt) (gK fun i j=>.bl (decide (i < j))):=oX fun _ _ _ _ _ _ _ q=>lt_int q
theorem K8:bU X (compareOp .Gt) (gK fun i j=>.bl (decide (j < i))):=oX fun _ _ _ _ _ _ _ q=>gt_int q
theorem K9:bU X (compareOp .GtE) (gK fun i j=>.bl (decide (j<=i))):=oX fun _ _ _ _ _ _ _ q=>ge_int q
theorem fX (b:Expr) {op:CmpOp} (h:op ≠ .In:=by decide) (h2:op ≠ .NotIn:=by decide):behindInMarks op b=false:=by
 have e1:(op == CmpOp.In)=false:=by cases op <;> first | rfl | exact absurd rfl h
 have e2:(op == CmpOp.NotIn)=false:=by cases op <;> first | rfl | exact absurd rfl h2
 cases b <;> simp [behindInMarks,e1,e2]
theorem p4 {op:CmpOp}{r:R2} (ho:bU X (compareOp op) r) (ha:PE X a ta) (hb:PE X b tb) (hm:behindInMarks op b=false):PE X (.Compare a [op] [b] pos) (kI r ta tb):=by
 intro pins s σ H Q I h
 exact wpAny_Compare1 (oW ha hb I h fun v u s2 x y H2 I2 rx ry q=>ho pins s2 σ H2 x y v u Q I2 rx ry q) hm
def L4 (t:TE):TT:=fun σ H Q=>t σ H fun x H'=>∃ k,x = .bl k/\Q k H'
theorem L5 {op:CmpOp}{r:R2} (ho:bU X (compareOp op) r) (ha:PE X a ta) (hb:PE X b tb) (hm:behindInMarks op b=false):PT X (.Compare a [op] [b] pos) (L4 (kI r ta tb)):=by
 intro pins s σ H Q I h
 refine wpAny_isTrue_Compare1 (aJ (ha pins s σ H _ I h) fun v s1 ⟨x,H1,I1,r1,q1⟩=>aJ (hb pins s1 σ H1 _ I1 q1) fun u s2 ⟨y,H2,I2,r2,q2⟩=>
  aJ (ho pins s2 σ H2 x y v u _ I2 r1 r2 q2) fun c s3 ⟨z,H3,I3,r3,k,e,q3⟩=>?_) hm
 subst e
 cases r3
 exact aF1 ⟨H3,I3,q3⟩
theorem m3:(sizeLine:Nat) < 2 ^ 63:=by rw [sizeLine_eq]; decide
theorem gL {x:V}{us:List Value} (r:aL [x] us):∃ u,us = [u]/\aN x u:=by
 cases r with
 | cons r1 r2=>cases r2; exact⟨_,rfl,r1⟩
theorem kK {x y:V}{us:List Value} (r:aL [x,y] us):∃ u w',us = [u,w']/\aN x u/\aN y w':=by
 cases r with
 | cons r1 r2=>
  cases r2 with
  | cons r3 r4=>cases r4; exact⟨_,_,rfl,r1,r3⟩
theorem L6 (hc:X.calm=true):cC X (.builtin "max") (fun xs H Q=>∃ i j,xs = [.int i,.int j]/\Q (.int (if j > i then j else i)) H):=by
 intro pins s σ H xs us Q I r h
 obtain ⟨i,j,rfl,q⟩:=h
 obtain ⟨u,w',rfl,⟨t,rfl⟩,⟨t',rfl⟩⟩:=kK r
 refine max_two_ints (I.ok.hd hc) fun h' tk k=>⟨_,H,I.kept k,?_,q⟩
 by_cases hj:j > i
 ·rw [if_pos hj,if_pos hj]; exact⟨_,rfl⟩
 ·rw [if_neg hj,if_neg hj]; exact⟨_,rfl⟩
theorem L7 (hc:X.calm=true):cC X (.builtin "min") (fun xs H Q=>∃ i j,xs = [.int i,.int j]/\Q (.int (if j < i then j else i)) H):=by
 intro pins s σ H xs us Q I r h
 obtain ⟨i,j,rfl,q⟩:=h
 obtain ⟨u,w',rfl,⟨t,rfl⟩,⟨t',rfl⟩⟩:=kK r
 refine min_two_ints (I.ok.hd hc) fun h' tk k=>⟨_,H,I.kept k,?_,q⟩
 by_cases hj:j < i
 ·rw [if_pos hj,if_pos hj]; exact⟨_,rfl⟩
 ·rw [if_neg hj,if_neg hj]; exact⟨_,rfl⟩
end
structure p5 (h:Heap) (x dx C:Addr) (mA:Str->Option Value):Prop where
 obj:h.get? x=some (PySem.W.instObj C dx)
 ns:h.Ns1 dx mA
 ne:dx ≠ x
theorem L8 {h:Heap}{dx:Addr}{mA:Str->Option Value} (n:h.Ns1 dx mA):∃ od,h.get? dx=some od/\∀ name,PySem.W.lookIn name od=some (mA name):=by
 obtain ⟨o,es,ep,ho,hd,hk,_,hm⟩:=n
 refine⟨o,ho,fun name=>?_⟩
 have e:=hm name
 unfold nsFind findBy at e
 rw [<- Array.find?_toList] at e
 unfold PySem.W.lookIn
 rw [hd]
 dsimp only
 split
 ·rename_i y q
  rw [q] at e
  exact congrArg some e
 ·rename_i q
  rw [q] at e
  have a:es.toList.any (·.refKey)=false:=by
   rw [List.any_eq_false]
   intro y hy
   obtain ⟨z,t,hkey⟩:=hk y (Array.mem_toList_iff.mp hy)
   simp [DictEntry.refKey,hkey]
  have a' : ¬ es.toList.any (·.refKey)=true:=by rw [a]; exact ay1
  rw [if_neg a']
  exact congrArg some e
theorem p5.look {h:Heap}{x dx C:Addr}{mA:Str->Option Value} (I:p5 h x dx C mA):∃ od,PySem.W.InstAt h x (PySem.W.instObj C dx) C (some od)/\∀ name,PySem.W.lookIn name od=some (mA name):=
 let ⟨od,ho,hl⟩:=L8 I.ns
 ⟨od,⟨I.obj,rfl,rfl,ho⟩,hl⟩
theorem fC.some_of {v:V}{o:Option Value} (r:fC (some v) o):∃ u,o=some u/\aN v u:=by
 cases o with
 | none=>exact (show False from r).elim
 | some u=>exact⟨u,rfl,r⟩
section
variable {P : Program} {w : World} {H H' : Hp} {h h' : Heap} {a C dx : Addr} {fs fs' : List (Str × V)}
theorem L9 (hok:b9 P w H h) (e:H a=some (.ins C dx fs)):∃ mA,p5 h a dx C mA/\(∀ f,fC (fs.lookup f) (mA f))/\PySem.Within mA (fs.map (·.1))/\fs.length<=1000/\H dx=some (.own a):=by
 obtain ⟨d,z,ne,ob,mA,n,r,q⟩:=(show aZ P w H h a (.ins C dx fs) from hok a _ e)
 exact⟨mA,⟨ob,n,ne⟩,r,q,z,d⟩
end
structure p6 (K:PySem.W.Frag) (C:Addr):Prop where
 pg:PySem.W.plainGet K C Str.empty=true
 hd:PySem.W.hasDictIn K C=true
 po:PySem.W.plainOver K C=true
 sa:PySem.W.findIn K (.ref C) "__setattr__" = some (some (.builtin "object.__setattr__"))
theorem p6.get {K:PySem.W.Frag}{C:Addr} (c:p6 K C) (f:Str):PySem.W.plainGet K C f=true:=c.pg
section
variable {X : Cx} {pins : List (Addr × Obj)} {σ : St} {H : Hp} {s : Shared} {A : Around} {E : Value → Shared → Prop} {Q : Value → Shared → Prop} {c : Value} {b : Bool}
inductive dQ (K:PySem.W.Frag) (H:Hp):V->Value->Prop where
 | non:dQ K H .non (.type "NoneType")
 | bl (x:Bool):dQ K H (.bl x) (.type "bool")
 | int (i:Int):dQ K H (.int i) (.type "int")
 | str (x:Str):dQ K H (.str x) (.type "str")
 | flt (x:UInt64):dQ K H (.flt x) (.type "float")
 | lst {a:Addr}{xs:List V} (e:H a=some (.lst xs)):dQ K H (.ref a) (.type "list")
 | frz {a:Addr}{o:Obj}{xs:List V} (e:H a=some (.frz o (.lst xs))):dQ K H (.ref a) (.type "list")
 | tup {a:Addr}{xs:List V} (e:H a=some (.tup xs)):dQ K H (.ref a) (.type "tuple")
 | dK {a:Addr}{kvs:List (aD × V)} (e:H a=some (.dK kvs)):dQ K H (.ref a) (.type "dict")
 | dT {a:Addr}{kvs:List (List aD × V)} (e:H a=some (.dT kvs)):dQ K H (.ref a) (.type "dict")
 | ins {a C dx:Addr}{fs:List (Str × V)} (e:H a=some (.ins C dx fs)) (cl:p6 K C) (ha:PySem.W.findIn K (.ref C) "__class__" = some (some (.builtin "object.__class__")))
   (hn:PySem.W.specialIn K (.builtin "object.__class__") "__get__" = some (some (.builtin "getset_descriptor.__get__"))) (htk:PySem.W.takesIn K (.builtin "object.__class__")=some true)
   (hm:PySem.W.mroIn K C (.type "object")=some true):dQ K H (.ref a) (.ref C)
theorem M0 {x:V}{u t:Value} (I:a5 X pins σ H s) (rx:aN x u) (ty:dQ X.K H x t) (e:PySem.W.kitOne X.K t c=some b) (h:∀ tk,Q (.bool b) { s with toks:=tk }) :
  wpAny (model X.prog X.w) A (call (.builtin "isinstance") [u,c]) Q E s:=by
 cases ty with
 | non=>cases (show u=Value.none from rx); exact aA9 PySem.W.kitx_none I.kIn True.intro e (fun z=>nomatch z) h
 | bl y=>cases (show u=Value.bool y from rx); exact aA9 PySem.W.kitx_bool I.kIn True.intro e (fun z=>nomatch z) h
 | int i=>obtain ⟨t,q⟩:=(show ∃ t,u=Value.int i t from rx); cases q; exact aA9 PySem.W.kitx_int I.kIn True.intro e (fun z=>nomatch z) h
 | str y=>obtain ⟨t,q⟩:=(show ∃ t,u=Value.str y t from rx); cases q; exact aA9 PySem.W.kitx_str I.kIn True.intro e (fun z=>nomatch z) h
 | flt y=>obtain ⟨t,q⟩:=(show ∃ t,u=Value.float y t from rx); cases q; exact aA9 PySem.W.kitx_float I.kIn True.intro e (fun z=>nomatch z) h
 | @lst a xs ea=>
  cases (show u=Value.ref a from rx)
  obtain ⟨_,_,n,_,h1⟩:=(show aZ X.prog X.w H s.heap a (.lst xs) from I.hok a _ ea)
  exact aA9 PySem.W.kitx_list I.kIn ⟨_,h1,rfl⟩ e (fun z=>nomatch z) h
 | @frz a ob xs ea=>
  cases (show u=Value.ref a from rx)
  obtain ⟨_,_,_,n,_,h1⟩:=(show aZ X.prog X.w H s.heap a (.frz ob (.lst xs)) from I.hok a _ ea)
  exact aA9 PySem.W.kitx_list I.kIn ⟨_,h1,rfl⟩ e (fun z=>nomatch z) h
 | @tup a xs ea=>
  cases (show u=Value.ref a from rx)
  obtain ⟨_,_,_,p,_⟩:=(show aZ X.prog X.w H s.heap a (.tup xs) from I.hok a _ ea)
  obtain ⟨o,h1,h2,_⟩:=p
  exact aA9 PySem.W.kitx_tuple I.kIn ⟨o,h1,h2⟩ e (fun z=>nomatch z) h
 | @dK a kvs ea=>
  cases (show u=Value.ref a from rx)
  obtain ⟨_,_,vs,_,p⟩:=(show aZ X.prog X.w H s.heap a (.dK kvs) from I.hok a _ ea)
  obtain ⟨o,es,ep,h1,h2,_⟩:=p
  exact aA9 PySem.W.kitx_dict I.kIn ⟨o,h1,h2.1⟩ e (fun z=>nomatch z) h
 | @dT a kvs ea=>
  cases (show u=Value.ref a from rx)
  obtain ⟨_,_,xs,_,o,es,ep,h1,h2,_⟩:=(show aZ X.prog X.w H s.heap a (.dT kvs) from I.hok a _ ea)
  exact aA9 PySem.W.kitx_dict I.kIn ⟨o,h1,h2.1⟩ e (fun z=>nomatch z) h
 | @ins a C dx fs ea cl ha hn htk hm=>
  cases (show u=Value.ref a from rx)
  obtain ⟨mA,O,_⟩:=L9 I.hok ea
  obtain ⟨od,J,_⟩:=O.look
  exact aA9 (PySem.W.kitx_own (cl.get _) cl.hd ha hn htk hm) I.kIn J e (fun z=>nomatch z) h
end
structure bD (k:Nat) (A:Around):Prop where
 hd:A.handled=none
 dp:A.depth+3 * k+5 < recursionLimit
 un:A.units+16 * k+200 < cLine
theorem bD.mono {j k:Nat}{A:Around} (r:bD k A) (h:j<=k):bD j A:=⟨r.hd,by have:=r.dp; omega,by have:=r.un; omega⟩
theorem bD.deeper {k:Nat}{A:Around} (r:bD (k+1) A) (env:Env):bD k (A.deeper env):=
 ⟨r.hd,by have:=r.dp; show A.depth+1+3 * k+5 < _; omega,by have:=r.un; show A.units+3+16 * k+200 < _; omega⟩
theorem bD.depth {k:Nat}{A:Around} (r:bD k A):A.depth < recursionLimit:=by have:=r.dp; omega
theorem bD.units {k:Nat}{A:Around} (r:bD k A):A.units+64 < cLine:=by have:=r.un; omega
def iO:TA:=fun _ H Q=>Q [] H
def i8 (ta:TE) (tr:TA):TA:=fun σ H Q=>ta σ H fun x H1=>tr σ H1 fun xs H2=>Q (x :: xs) H2
section
variable {X : Cx} {e : Expr} {es : List Expr} {te : TE} {t : TA} {pos : Pos}
theorem cV:PA X [] iO:=fun _ _ _ _ H Q I h=>Calls.spliced_nil ⟨[],H,I,.nil,h⟩
theorem cD (ha:PE X e te) (hr:PA X es t) (hs:starEach (e :: es) X.env=(false,eval e X.env) :: starEach es X.env:=by rfl):PA X (e :: es) (i8 te t):=by
 intro pos pins s σ H Q I h
 rw [hs]
 show wpAny _ _ (spliced ((false,eval e X.env) :: backTo pos (starEach es X.env))) _ _ s
 refine Calls.spliced_cons (aJ (ha pins s σ H _ I h) fun u s1 ⟨x,H1,I1,r1,q1⟩=>?_)
 exact aJ (hr pos pins s1 σ H1 _ I1 q1) fun us s2 ⟨xs,H2,I2,r2,q2⟩=>⟨x :: xs,H2,I2,.cons r1 r2,q2⟩
def p9 (t:TA):TE:=fun σ H Q=>t σ H fun xs H1=>xs.length<=sizeLine/\∀ p,H1 p=none->Q (.ref p) (upd H1 p (.tup xs))
def uF (t:TA):TE:=fun σ H Q=>t σ H fun xs H1=>xs.length<=sizeLine/\∀ p,H1 p=none->Q (.ref p) (upd H1 p (.lst xs))
theorem uG {x1} (h:PA X es t):PE X (.Tuple es x1 pos) (p9 t):=by
 intro pins s σ H Q I hq
 refine wpAny_Tuple_spliced (aJ (h pos pins s σ H _ I hq) fun us s1 ⟨xs,H1,I1,r,z,q⟩=>⟨by rw [<- r.length]; exact z,?_⟩)
 have hf:H1 s1.heap.objs.size=none:=I1.hok.fresh (aw6 _)
 refine⟨.ref s1.heap.objs.size,upd H1 s1.heap.objs.size (.tup xs),I1.laid (t':=s1.toks) (fun b u e=>aw2 _ e) (aw6 _) ?_,rfl,q _ hf⟩
 exact⟨z,us,r,⟨_,ax5 _ rfl,rfl,_,rfl⟩,fV.new _ _ rfl⟩
theorem uH (h:PA X es t):PE X (.List es pos) (uF t):=by
 intro pins s σ H Q I hq
 refine wpAny_List_spliced (aJ (h pos pins s σ H _ I hq) fun us s1 ⟨xs,H1,I1,r,z,q⟩=>⟨by rw [<- r.length]; exact z,?_⟩)
 have hf:H1 s1.heap.objs.size=none:=I1.hok.fresh (aw6 _)
 refine⟨.ref s1.heap.objs.size,upd H1 s1.heap.objs.size (.lst xs),I1.laid (t':=s1.toks) (fun b u e=>aw2 _ e) (aw6 _) ?_,rfl,q _ hf⟩
 exact⟨z,us,0,r,ax5 _ rfl⟩
end
abbrev Sp:=List V->Hp->VK->XK->Prop
abbrev eQ:=List Env->Hp->Shared->XK->Value->Shared->Prop
structure m5 (P:Program) (w:World) (K:PySem.W.Frag) (mg:Str->Option Value) (base:Heap) (A:Around) (outer:List Env) (s:Shared) (H:Hp):Prop where
 frames:A.frames=some outer
 mod:Mod K mg base
 bs:∀ b o,base.get? b=some o->s.heap.get? b=some o/\H b=none
 bsz:base.objs.size<=s.heap.objs.size
 funs:s.heap.FunFrames base outer
 frf:∀ b ∈ b6 outer,H b=none
 hok:b9 P w H s.heap
 bare:AllBare s.gens
def CE (outer:List Env) (P:Program) (w:World) (H:Hp) (s:Shared) (Q:VK) (u:Value) (s':Shared):Prop:=
 ∃ v H',s'.os=s.os/\AllBare s'.gens/\Un (b6 outer) [] H H' s.heap s'.heap/\b9 P w H' s'.heap/\aN v u/\Q v H'
def CR (CX:eQ) (outer:List Env) (P:Program) (w:World) (H:Hp) (s:Shared) (Q:VK) (E:XK) (r:Result) (s':Shared):Prop:=
 match r with
 | .ok (.ret u)=>CE outer P w H s Q u s'
 | .ok _=>False
 | .error e=>CX outer H s E e s'
structure bZ (P:Program) (w:World) (K:PySem.W.Frag) (mg:Str->Option Value) (base:Heap) (CX:eQ) (k:Nat) (f:Addr) (fd:FuncData) (ps:List Str) (sp:Sp):Prop where
 len:∀ vs H Q E,sp vs H Q E->vs.length=ps.length
 run:∀ (A:Around) (outer:List Env) (s:Shared) (H:Hp) (args:Args) (us:List Value) (vs:List V) (Q:VK) (E:XK),bD k A->m5 P w K mg base A outer s H->BindsTo s fd args (ps.zip us)->aL vs us->sp vs H Q E->
  codeAny (model P w) A (.call (.ref f) args) (CR CX outer P w H s Q E) s
theorem bZ.imp {P:Program}{w:World}{K:PySem.W.Frag}{mg:Str->Option Value}{base:Heap}{CX:eQ}{k:Nat}{f:Addr}{fd:FuncData}{ps:List Str}{sp sp':Sp} (F:bZ P w K mg base CX k f fd ps sp)
  (h:∀ vs H Q E,sp' vs H Q E->sp vs H Q E):bZ P w K mg base CX k f fd ps sp':=
 ⟨fun vs H Q E q=>F.len vs H Q E (h _ _ _ _ q),fun A outer s H args us vs Q E hr he hb hv hs=>F.run A outer s H args us vs Q E hr he hb hv (h _ _ _ _ hs)⟩
section
variable {X : Cx} {pins : List (Addr × Obj)} {σ : St} {H : Hp} {s s' : Shared}
theorem a5.env0 (I:a5 X pins σ H s):m5 X.prog X.w X.K X.mg X.base X.A X.stack s H:=
 ⟨I.ok.frames,I.ok.mod,I.bs,aA3 I.ok.bsz I.sz,I.stack,I.stkFree,I.hok,I.bare⟩
theorem a5.after {Q:VK}{u:Value} (I:a5 X pins σ H s) (h:CE X.stack X.prog X.w H s Q u s'):EP X pins σ Q u s':=by
 obtain ⟨v,H',os,bare,un,hok,r,q⟩:=h
 obtain ⟨hh,g,d,t,os'⟩:=s'
 obtain rfl:os'=s.os:=os
 exact⟨v,H',I.call (h':=hh) (g':=g) (d':=d) (t':=t) (ch:=[]) un hok bare (fun b z=>absurd z (by simp)),r,q⟩
end
def pA (sp:Sp) (dvs:List V) (E:XK) (t:TA):TE:=fun σ H Q=>t σ H fun vs H1=>sp (vs ++ dvs) H1 Q E
def fY (K:PySem.W.Frag) (fd:FuncData) (ps:List Str) (ds:List Value):Prop:=
 ∀ (s:Shared) (us:List Value),K.In s.heap->(us ++ ds).length=ps.length->BindsTo s fd ⟨us,[]⟩ (ps.zip (us ++ ds))
theorem fY.all {K:PySem.W.Frag}{fd:FuncData}{ps:List Str} (h:∀ us:List Value,us.length=ps.length->bindArgs fd ⟨us,[]⟩=pure (ps.zip us)):fY K fd ps []:=fun s us _ hl=>by
 rw [aD9] at hl ⊢
 exact .of_eq (h us hl)
def kL (CX:eQ) (X:Cx) (E:XK):Prop:=∀ (pins:List (Addr × Obj)) (σ:St) (H:Hp) (s:Shared) (e:Value) (s':Shared),a5 X pins σ H s->CX X.stack H s E e s'->X.xe e s'
section
variable {X : Cx} {CX : eQ} {k : Nat} {f C : Addr} {fd : FuncData} {ps : List Str} {sp : Sp} {dvs : List V} {ds : List Value} {E : XK} {x m : Str} {p pos apos : Pos} {e o : Expr} {es : List Expr} {ta : TE} {t : TA}
theorem M1 {pins:List (Addr × Obj)}{σ:St}{H:Hp}{s:Shared}{Q:VK}{us:List Value}{vs:List V} (F:bZ X.prog X.w X.K X.mg X.base CX k f fd ps sp) (hr:bD k X.A) (hb:fY X.K fd ps ds) (hd:aL dvs ds) (hx:kL CX X E)
  (I:a5 X pins σ H s) (r:aL vs us) (h:sp (vs ++ dvs) H Q E):wpAny (model X.prog X.w) X.A (call (.ref f) us) (EP X pins σ Q) X.xe s:=by
 have r2:aL (vs ++ dvs) (us ++ ds):=r.append hd
 have hl:(us ++ ds).length=ps.length:=by rw [<- r2.length]; exact F.len _ _ _ _ h
 refine wpAny_call (codeAny_mono (F.run X.A X.stack s H ⟨us,[]⟩ (us ++ ds) (vs ++ dvs) Q E hr I.env0 (hb s us I.kIn hl) r2 h) fun r s' hq=>?_)
 cases r with
 | error e=>exact hx pins σ H s e s' I hq
 | ok fl=>
  cases fl with
  | ret u=>exact I.after hq
  | next=>exact False.elim hq
  | brk=>exact False.elim hq
  | cont=>exact False.elim hq
theorem pB (F:bZ X.prog X.w X.K X.mg X.base CX k f fd ps sp) (hr:bD k X.A) (hg:Gl X x) (hm:X.mg x=some (.ref f)) (hk:PySem.W.keepIn X.K (.ref f)=true) (hb:fY X.K fd ps ds) (hd:aL dvs ds) (hx:kL CX X E)
  (ha:PA X (e :: es) t) (hdb:(x == ("__debug__" : Str))=false:=by decide) (he:starEach (e :: es) X.env=(false,eval e X.env) :: starEach es X.env:=by rfl) (hpl:(backTo pos (starEach es X.env)).any (·.1)=false:=by rfl) :
  PE X (.Call (.Name x p) (e :: es) [] pos) (pA sp dvs E t):=by
 intro pins s σ H Q I h
 refine wpAny_Call_Name_kw (kC I hg hm ?_ hdb)
 refine PySem.W.callWith_K (h₀:=X.base) I.ok.mod.kin hk (aJ (ha pos pins s σ H _ I h) fun us s1 ⟨vs,H1,I1,r,q⟩=>⟨I1.kIn,?_⟩) he hpl
 exact M1 F hr hb hd hx I1 r q
end
def PK (X:Cx) (kws:List Keyword) (t:TA):Prop:=
 ∀ (pos:Pos) (pins:List (Addr × Obj)) (s:Shared) (σ:St) (H:Hp) (Q:List V->Hp->Prop),a5 X pins σ H s->t σ H Q->wpAny (model X.prog X.w) X.A (evalAll ((backToKw pos (keywordEach kws X.env)).map (·.2))) (AP X pins σ Q) X.xe s
structure FnScope (N P:List Str) (sc:Scope):Prop where
 kind:sc.kind = .function
 co:sc.isCoroutine=false
 gen:sc.isGenerator=false
 nd:N.Nodup
 pre:N.take P.length=P
 par:∀ x ∈ P,sc.names.lookup x=some .local ∨ sc.names.lookup x=some .cell
 nofree:∀ y ∈ sc.names,y.2 ≠ .free
theorem uI {kindOf:Str->Option NameKind}{x:Str}:∀ {binds:List (Str × Value)}{m:Str->Option Value},(∀ v,(x,v) ∉ binds)->bindL kindOf binds m x=m x
 | [],_,_=>rfl
 | (n,v) :: r,m,h=>by
  unfold bindL
  rw [uI fun w hw=>h w (ax7 _ hw)]
  split
  ·have:x ≠ n:=by rintro rfl; exact h v ax6
   simp [this]
  ·rfl
theorem uJ {kindOf:Str->Option NameKind}{x:Str}:∀ {binds:List (Str × Value)}{m:Str->Option Value},(∀ v,(x,v) ∉ binds)->bindC kindOf binds m x=m x
 | [],_,_=>rfl
 | (n,v) :: r,m,h=>by
  unfold bindC
  rw [uJ fun w hw=>h w (ax7 _ hw)]
  split
  ·rfl
  ·have:x ≠ n:=by rintro rfl; exact h v ax6
   simp [this]
theorem uK {kindOf:Str->Option NameKind}{x:Str}{v:Value}:∀ {P:List Str}{vs:List Value}{i:Nat}{m:Str->Option Value},P.Nodup->P[i]? = some x->vs[i]? = some v->kindOf x=some .local->
  bindL kindOf (P.zip vs) m x=some v
 | [],_,_,_,_,h,_,_=>by simp at h
 | _ :: _,[],_,_,_,_,h,_=>by simp at h
 | p :: P,w :: vs,0,m,nd,h1,h2,hk=>by
  simp at h1 h2; subst h1; subst h2
  show bindL kindOf ((p,w) :: P.zip vs) m p=_
  unfold bindL
  rw [uI fun v hv=>(List.nodup_cons.mp nd).1 (List.of_mem_zip hv).1,if_pos hk]
  simp
 | p :: P,w :: vs,i+1,m,nd,h1,h2,hk=>by
  show bindL kindOf ((p,w) :: P.zip vs) m x=_
  unfold bindL
  exact uK (i:=i) (List.nodup_cons.mp nd).2 (by simpa using h1) (by simpa using h2) hk
theorem uL {kindOf:Str->Option NameKind}{x:Str}{v:Value}:∀ {P:List Str}{vs:List Value}{i:Nat}{m:Str->Option Value},P.Nodup->P[i]? = some x->vs[i]? = some v->kindOf x ≠ some .local->
  bindC kindOf (P.zip vs) m x=some v
 | [],_,_,_,_,h,_,_=>by simp at h
 | _ :: _,[],_,_,_,_,h,_=>by simp at h
 | p :: P,w :: vs,0,m,nd,h1,h2,hk=>by
  simp at h1 h2; subst h1; subst h2
  show bindC kindOf ((p,w) :: P.zip vs) m p=_
  unfold bindC
  rw [uJ fun v hv=>(List.nodup_cons.mp nd).1 (List.of_mem_zip hv).1,if_neg hk]
  simp
 | p :: P,w :: vs,i+1,m,nd,h1,h2,hk=>by
  show bindC kindOf ((p,w) :: P.zip vs) m x=_
  unfold bindC
  exact uL (i:=i) (List.nodup_cons.mp nd).2 (by simpa using h1) (by simpa using h2) hk
def eR (N:List Str) (vs:List V):St:=vs.map some ++ List.replicate (N.length - vs.length) none
def cE (CX:eQ) (P:Program) (w:World) (K:PySem.W.Frag) (mg:Str->Option Value) (base:Heap) (N:List Str) (qual:Str) (scope:Scope) (f:Addr) (cd:Value) (A:Around) (outer:List Env) (s:Shared) (H:Hp) (E:XK):Cx where
 prog:=P
 w:=w
 K:=K
 mg:=mg
 base:=base
 A:=A.deeper (envOfC qual scope s.heap.objs.size f cd)
 N:=N
 s₀:=s
 H₀:=H
 env:=envOfC qual scope s.heap.objs.size f cd
 outer:=outer
 stack:=envOfC qual scope s.heap.objs.size f cd :: outer
 ex:=[]
 calm:=true
 fn:=fun _=>true
 pn:=[]
 xe:=fun e s'=>wpAny (model P w) (A.deeper (envOfC qual scope s.heap.objs.size f cd)) (leaving (envOfC qual scope s.heap.objs.size f cd) e) (fun _ s''=>CX outer H s E e s'') (fun e' s''=>CX outer H s E e' s'') s'
theorem uM {sc:Scope}{n:Nat}{x:Str} (h:sc.names.lookup x=some .cell):∃ c,(cellsFrom n sc.names []).lookup x=some c:=by
 have q:=PySem.W.cellsFrom_some sc.names n [] (.inl h)
 exact Option.isSome_iff_exists.mp q
theorem M3 {CX:eQ}{P:Program}{w:World}{K:PySem.W.Frag}{mg:Str->Option Value}{base:Heap}{N ps:List Str}{qual:Str}{scope:Scope}{f:Addr}{cd:Value}{A:Around}{outer:List Env}{s s1:Shared}{H:Hp}{E:XK}{us:List Value}{vs:List V}
  (S:FnScope N ps scope) (hd:A.handled=none) (e0:m5 P w K mg base A outer s H) (hl:vs.length=ps.length) (r:aL vs us)
  (x:InCallC s s.heap.objs.size (bindL (envOfC qual scope s.heap.objs.size f cd).kindOf (ps.zip us) fun _=>none) (cellsFrom (s.heap.objs.size+1) scope.names []) (bindC (envOfC qual scope s.heap.objs.size f cd).kindOf (ps.zip us) fun _=>none) s1) :
  a5 (cE CX P w K mg base N qual scope f cd A outer s H E) [] (eR N vs) H s1:=by
 have hpl:ps.length<=N.length:=by have:=congrArg List.length S.pre; rw [aB0] at this; omega
 obtain ⟨h1,tk,rfl,hk⟩:=x.done
 have noA:∀ b:Addr,b ∉ (cE CX P w K mg base N qual scope f cd A outer s H E).ex:=fun b z=>absurd (show b ∈ ([]:List Addr) from z) (by simp)
 refine⟨⟨e0.mod,S.kind,rfl,rfl,aw6 _,fun y z c h1 h2=>?_,fun y hy=>?_,fun y c _ h=>?_,fun _=>hd,Around.frames_deeper e0.frames,.inr ⟨rfl,rfl⟩,fun b z=>absurd z (noA b),e0.bs,e0.bsz,fun b _ _=>noA b,fun b z=>absurd z (noA b),e0.funs,e0.frf⟩,
  rfl,e0.bare,Un.kept hk,⟨_,x.toInCall.ns,fun i y v h1 h2 h3=>?_⟩,fun y c h=>⟨_,x.cell y c h⟩,e0.hok.fresh (aw6 _),fun y c h=>?_,fun p hp=>absurd (show p ∈ ([]:List (Addr × Obj)) from hp) (by simp),e0.hok.kept hk,?_⟩
 ·exact name_of_addr x.apart (az8 h1) (az8 h2)
 ·have hy:scope.names.lookup y=some .cell ∨ scope.names.lookup y=some .free:=hy
  rcases hy with hy | hy
  ·exact uM hy
  ·exact absurd rfl (S.nofree _ (az8 hy))
 ·exact aD8 (x.above y c (az8 h))
 ·have hi:i < vs.length:=by
   unfold eR at h2
   by_cases hi:i < vs.length
   ·exact hi
   ·rw [List.getElem?_append_right (by simpa using hi)] at h2
    rw [List.getElem?_replicate] at h2
    split at h2 <;> cases h2
  have ha:vs[i]? = some v:=by
   unfold eR at h2
   rw [List.getElem?_append_left (by simpa using hi),aw8] at h2
   cases e:vs[i]? with
   | none=>rw [e] at h2; cases h2
   | some a=>rw [e] at h2; cases h2; rfl
  obtain ⟨u,hu,rv⟩:=r.get ha
  have hp:ps[i]? = some y:=by
   rw [<- S.pre,List.getElem?_take_of_lt (by omega)]; exact h1
  have ndP:ps.Nodup:=by rw [<- S.pre]; exact S.nd.sublist (List.take_sublist _ _)
  refine⟨u,rv,?_⟩
  rcases S.par y (aB3 hp) with k | k
  ·exact .inl ⟨k,uK ndP hp hu k⟩
  ·obtain ⟨c,e⟩:=uM (n:=s.heap.objs.size+1) k
   refine .inr ⟨.inl k,c,e,?_⟩
   have q:=x.cell y c e
   rw [uL ndP hp hu (by show scope.names.lookup y ≠ _; rw [k]; decide)] at q
   exact q
 ·exact e0.hok.fresh (aD8 (x.above y c (az8 h)))
 ·unfold eR
  show _=N.length
  rw [ax9,aw9,List.length_replicate]
  omega
theorem uN {CX:eQ}{P:Program}{w:World}{K:PySem.W.Frag}{mg:Str->Option Value}{base:Heap}{k:Nat}{f:Addr}{name qual:Str}{params:Arguments}{body:List Stmt}{scope:Scope}{dV kV doc pm cdv ct oc:Value}{an od:Option Addr}
  {osl:Array (Option Value)}{N ps:List Str}{sp:Sp} (lk:K.lookup f=some ⟨oc,od,.func (PySem.W.fnOf name qual params body scope dV kV doc pm an cdv ct),osl⟩) (hcd:PySem.W.codeIn K cdv qual=true) (S:FnScope N ps scope)
  (len:∀ vs H Q E,sp vs H Q E->vs.length=ps.length)
  (hbody:∀ (A:Around) (outer:List Env) (s:Shared) (H:Hp) (vs:List V) (Q:VK) (E:XK),bD k (A.deeper (envOfC qual scope s.heap.objs.size f cdv))->sp vs H Q E->
   ∃ t,cO (cE CX P w K mg base N qual scope f cdv A outer s H E) body t/\t { nx:=fun _ H'=>Q .non H',rt:=Q } (eR N vs) H) :
  bZ P w K mg base CX (k+1) f (PySem.W.fnOf name qual params body scope dV kV doc pm an cdv ct) ps sp:=by
 refine⟨len,fun A outer s H args us vs Q E hr e0 hb r hsp=>?_⟩
 have hl:=len _ _ _ _ hsp
 have KX:K.In s.heap:=e0.mod.kin.keeps fun b o e=>(e0.bs b o e).1
 have lim:s.heap.NoLimit:=e0.mod.nolimit.keeps fun b o e=>(e0.bs b o e).1
 have hkind:∀ y ∈ ps.zip us,scope.names.lookup y.1=some .local ∨ (scope.names.lookup y.1=some .cell/\((cellsFrom (s.heap.objs.size+1) scope.names []).lookup y.1).isSome=true):=fun ⟨n,v⟩ hy=>by
  rcases S.par n (List.of_mem_zip hy).1 with q | q
  ·exact .inl q
  ·exact .inr ⟨q,PySem.W.cellsFrom_some _ _ _ (.inl q)⟩
 refine codeAny_call_function hr.depth (KX _ _ lk) rfl S.co S.gen rfl (PySem.W.codeRec_of KX hcd) (hb _ _ _ _ ?_)
 refine wpAny_newFunctionEnv_cells S.kind hkind fun env he s1 x=>?_
 subst he
 refine⟨lim.keeps x.toInCall.keep,codeAny_func ?_⟩
 obtain ⟨t,ht,hq⟩:=hbody A outer s H vs Q E (hr.deeper _) hsp
 have I:a5 (cE CX P w K mg base N qual scope f cdv A outer s H E) [] (eR N vs) H s1:=M3 S hr.hd e0 hl r x
 refine aB5 (ht [] s1 (eR N vs) H _ I hq) (fun fl s' hs=>?_) fun e s' hs=>hs
 have fin:∀ {σ':St}{H':Hp}{v:V}{u:Value},a5 (cE CX P w K mg base N qual scope f cdv A outer s H E) [] σ' H' s'->aN v u->Q v H'->CE outer P w H s Q u s':=
  fun {σ' H' v u} J rv q=>⟨v,H',J.os,J.bare,J.base,J.hok,rv,q⟩
 cases fl with
 | ret u=>
  obtain ⟨v,σ',H',J,rv,q⟩:=hs
  exact fin J rv q
 | next=>
  obtain ⟨σ',H',J,q⟩:=hs
  exact fin (v:=V.non) (u:=Value.none) J rfl q
 | brk=>
  obtain ⟨_,_,_,q⟩:=hs
  exact False.elim q
 | cont=>
  obtain ⟨_,_,_,q⟩:=hs
  exact False.elim q
section
variable {X : Cx} {x : Str} {p pos : Pos} {e : Expr} {es : List Expr} {t : TA} {id T : String} {r : List V → Hp → VK → Prop}
def pC (r:List V->Hp->VK->Prop) (t:TA):TE:=fun σ H Q=>t σ H fun vs H1=>r vs H1 Q
theorem kM (hc:cC X (.builtin id) r) (hg:Gl X x) (hm:X.mg x=none) (hv:bootBuiltins x=some (.builtin id)) (ha:PA X (e :: es) t) (hn:x ≠ "__name__":=by decide) (hdb:(x == ("__debug__" : Str))=false:=by decide)
  (he:starEach (e :: es) X.env=(false,eval e X.env) :: starEach es X.env:=by rfl) (hpl:(backTo pos (starEach es X.env)).any (·.1)=false:=by rfl):PE X (.Call (.Name x p) (e :: es) [] pos) (pC r t):=by
 intro pins s σ H Q I h
 refine wpAny_Call_Name_kw (gJ I hg hm hv ?_ hn hdb)
 exact PyProof.Rows.callWith_builtin1 (aJ (ha pos pins s σ H _ I h) fun us s1 ⟨vs,H1,I1,r1,q1⟩=>hc pins s1 σ H1 vs us Q I1 r1 q1) he hpl
theorem uO (hc:cC X (.type T) r) (hg:Gl X x) (hm:X.mg x=none) (hv:bootBuiltins x=some (.type T)) (ha:PA X (e :: es) t) (hn:x ≠ "__name__":=by decide) (hdb:(x == ("__debug__" : Str))=false:=by decide)
  (he:starEach (e :: es) X.env=(false,eval e X.env) :: starEach es X.env:=by rfl) (hpl:(backTo pos (starEach es X.env)).any (·.1)=false:=by rfl):PE X (.Call (.Name x p) (e :: es) [] pos) (pC r t):=by
 intro pins s σ H Q I h
 refine wpAny_Call_Name_kw (gJ I hg hm hv ?_ hn hdb)
 exact aB8 (aJ (ha pos pins s σ H _ I h) fun us s1 ⟨vs,H1,I1,r1,q1⟩=>hc pins s1 σ H1 vs us Q I1 r1 q1) he hpl
end
end L2
namespace HT
open PySem PyProof.Rows
def dR:List Int->List Int->Bool
 | [],[]=>false
 | [],_ :: _=>true
 | _ :: _,[]=>false
 | x :: xs,y :: ys=>if x=y then dR xs ys else decide (x < y)
theorem kN (x y:Int) (xs ys:List Int):dR (x :: xs) (y :: ys)=if x=y then dR xs ys else decide (x < y):=rfl
section
variable {prog : Program} {w : World} {A : Around} {E : Value → Shared → Prop} {s : Shared}
def aM (n d:Nat):Option Int->Nat
 | none=>d
 | some v=>if v < 0 then (v+(n:Int)).toNat else min v.toNat n
theorem M4 (n d:Nat):aM n d none=d:=rfl
theorem uP (n d k:Nat):aM n d (some (k:Int))=min k n:=by
 show (if (k:Int) < 0 then ((k:Int)+(n:Int)).toNat else min (k:Int).toNat n)=min k n
 rw [if_neg (by omega),aF3]
theorem M5 (n d:Nat) (hd:d<=n) (o:Option Int):aM n d o<=n:=by
 cases o with
 | none=>exact hd
 | some v=>
  show (if v < 0 then (v+(n:Int)).toNat else min v.toNat n)<=n
  by_cases hv:v < 0
  ·rw [if_pos hv]; omega
  ·rw [if_neg hv]; exact Nat.min_le_right _ _
theorem uQ (v:Int) (n d:Nat):(if v < 0 then max (v+(n:Int)) 0 else min v (n:Int))=((aM n d (some v):Nat):Int):=by
 show (if v < 0 then max (v+(n:Int)) 0 else min v (n:Int))=(((if v < 0 then (v+(n:Int)).toNat else min v.toNat n):Nat):Int)
 by_cases hv:v < 0
 ·simp only [if_pos hv]; omega
 ·simp only [if_neg hv]; omega
theorem M6 (lo hi:Option Int) (n:Nat):Builtin.Slice.sliceAdjust lo hi 1 (n:Int)=(((aM n 0 lo:Nat):Int),((aM n n hi:Nat):Int)):=by
 have h1 : ¬ ((1:Int) < 0):=by omega
 unfold Builtin.Slice.sliceAdjust
 simp only [h1,aC4]
 refine Prod.ext ?_ ?_
 ·cases lo with
  | none=>rfl
  | some v=>exact uQ v n 0
 ·cases hi with
  | none=>rfl
  | some v=>exact uQ v n n
theorem M7 (i j:Nat):Builtin.Slice.slicePlaces (i:Int) (j:Int) 1=j - i:=by
 unfold Builtin.Slice.slicePlaces
 have h1:(1:Int) > 0:=by omega
 simp only [h1,if_true,Int.ediv_one]
 split <;> omega
theorem uR {v:Value}{o:Option Int}{Q:Option Int->Shared->Prop} (p:IsPart v o) (h:Q o s):wpAny (model prog w) A (Builtin.Slice.slicePartIndex v) Q E s:=by
 cases p with
 | none=>exact slicePart_none h
 | int i t=>exact slicePart_int h
theorem uS {sl:Addr}{vl vu:Value}{lo hi:Option Int}{n:Nat}{Q:Int × Int × Nat->Shared->Prop} (hs:s.heap.IsSliceOf sl vl vu .none) (pl:IsPart vl lo) (pu:IsPart vu hi)
  (h:Q (((aM n 0 lo:Nat):Int),1,aM n n hi - aM n 0 lo) s):wpAny (model prog w) A (Builtin.Slice.sliceApplied (.ref sl) (pure (n:Int))) Q E s:=by
 obtain ⟨os,hos,hcs,hds⟩:=id hs
 unfold Builtin.Slice.sliceApplied Builtin.Slice.sliceFields
 refine aw1 (aw1 (aA4 hos hds (x:=vl) rfl (aw1 (aA4 hos hds (x:=vu) rfl (aw1 (aA4 hos hds (x:=.none) rfl (aw5 ?_)))))))
 refine aw1 (slicePart_none ?_)
 show wpAny _ _ (if ((1:Int) == 0)=true then _ else _) _ _ s
 rw [if_neg (by decide)]
 refine aw1 (uR pl (aw1 (uR pu (aw1 (aw5 ?_)))))
 show wpAny _ _ (match Builtin.Slice.sliceAdjust lo hi 1 (n:Int) with | (lo,hi)=>pure (lo,(1:Int),Builtin.Slice.slicePlaces lo hi 1)) _ _ s
 rw [M6 lo hi n]
 show wpAny _ _ (pure (((aM n 0 lo:Nat):Int),(1:Int),Builtin.Slice.slicePlaces ((aM n 0 lo:Nat):Int) ((aM n n hi:Nat):Int) 1)) _ _ s
 rw [M7]
 exact aw5 h
theorem M8 (xs:Array Value) (i k:Nat):((List.range k).filterMap fun (m:Nat)=>xs[((i:Int)+(m:Int) * 1).toNat]?).toArray=((xs.toList.drop i).take k).toArray:=by
 have e:(fun (m:Nat)=>xs[((i:Int)+(m:Int) * 1).toNat]?)=fun m=>xs[i+m]?:=by
  funext m
  have:((i:Int)+(m:Int) * 1).toNat=i+m:=by omega
  rw [this]
 rw [e]
 have:=pick_run xs i k
 rw [List.filterMap_map] at this
 have e2:((fun x=>xs[x]?) ∘ fun x=>i+x)=fun m=>xs[i+m]?:=rfl
 rw [e2] at this
 rw [this]
theorem M9 {t sl:Addr}{items:Array Value}{vl vu:Value}{lo hi:Option Int}{Q:Value->Shared->Prop} (ht:IsTup s.heap t items) (hs:s.heap.IsSliceOf sl vl vu .none) (pl:IsPart vl lo) (pu:IsPart vu hi)
  (hw : ¬ (aM items.size 0 lo=0/\aM items.size items.size hi=items.size))
  (h:Q (.ref s.heap.objs.size) { s with heap:=s.heap.push { cls:=.type "tuple",data:=.seq ((items.toList.drop (aM items.size 0 lo)).take (aM items.size items.size hi - aM items.size 0 lo)).toArray } })
  (hsz:items.size<=sizeLine):wpAny (model prog w) A (getItem (.ref t) (.ref sl)) Q E s:=by
 have htake:sizeOk (.seq ((items.toList.drop (aM items.size 0 lo)).take (aM items.size items.size hi - aM items.size 0 lo)).toArray):=by
  show ((items.toList.drop (aM items.size 0 lo)).take (aM items.size items.size hi - aM items.size 0 lo)).toArray.size<=sizeLine
  rw [aw4,aB0,aC2,az4]
  omega
 have hj:aM items.size items.size hi<=items.size:=M5 _ _ (aw6 _) hi
 obtain ⟨os,hos,hcs,hds⟩:=id hs
 have hTs:s.TypeIs (.ref sl) "slice":=⟨os,hos,hcs⟩
 unfold getItem
 try with_reducible refine aH5 ?_
 first | refine aw1 (aw5 ?_) | skip
 refine aw1 (wpAny_sequenceKey ht.typeIs (by decide) ?_)
 refine aw1 (aA5 (name:=Str.ofString "__getitem__") ht.typeIs aE6
  (aC8 aE6 ht.typeIs entry_tuple_getitem ?_ (args_tuple_getitem _ _)))
 show wpAny _ _ (Builtin.Tuple.tupleItemsOf (.ref t) >>= _) _ _ s
 refine aw1 (tupleItemsOf_ ht ?_)
 refine aw1 (wpAny_typeOf hTs ?_)
 rw [if_pos (by decide)]
 refine aw1 (uS hs pl pu ?_)
 have hno : ¬ ((((aM items.size 0 lo:Nat):Int) == 0 && (1:Int) == 1 && (aM items.size items.size hi - aM items.size 0 lo) == items.size)=true):=by
  intro q
  rw [az2,az2] at q
  have q1:((aM items.size 0 lo:Nat):Int)=0:=eq_of_beq q.1.1
  have q2:aM items.size items.size hi - aM items.size 0 lo=items.size:=eq_of_beq q.2
  exact hw ⟨by omega,by omega⟩
 show wpAny _ _ (if (((aM items.size 0 lo:Nat):Int) == 0 && (1:Int) == 1 && (aM items.size items.size hi - aM items.size 0 lo) == items.size)=true then _ else _) _ _ s
 rw [if_neg hno,M8]
 first
  | exact aw1 (m:=Builtin.Tuple.tupleExact _) (aB4 (aw5 ⟨_,rfl,aw5 h⟩) htake)
  | exact aw1 (m:=Builtin.Tuple.tupleExact _) (aB4 (aw1 (aw5 (aw5 ⟨_,rfl,aw5 h⟩))) htake)
  | exact aw1 (aw1 (m:=Builtin.Tuple.tupleExact _) (aB4 (aw5 (aw5 ⟨_,rfl,aw5 h⟩)) htake))
  | exact aw1 (aw1 (m:=Builtin.Tuple.tupleExact _) (aB4 (aw5 ⟨_,rfl,aw5 h⟩) htake))
end
end HT
namespace L2
open PySem PySem.Spec PyProof.Rows
abbrev TO:=St->Hp->(Option Int->Hp->Prop)->Prop
def PO (X:Cx) (e:Option Expr) (t:TO):Prop:=
 ∀ (pins:List (Addr × Obj)) (s:Shared) (σ:St) (H:Hp) (Q:Option Int->Hp->Prop),a5 X pins σ H s->t σ H Q->
  wpAny (model X.prog X.w) X.A (evalPart e X.env) (fun u s'=>∃ o H',a5 X pins σ H' s'/\IsPart u o/\Q o H') X.xe s
def N0:TO:=fun _ H Q=>Q none H
def N1 (t:TE):TO:=fun σ H Q=>t σ H fun x H1=>∃ i,x = .int i/\Q (some i) H1
theorem pD {ns:List Int}:∀ {us:List Value},aL (ns.map V.int) us->IntsAre us ns:=by
 induction ns with
 | nil=>intro us r; rw [List.map_nil] at r; cases r; exact .nil
 | cons n ns ih=>
  intro us r
  rw [aA0] at r
  cases r with
  | cons r1 r2=>
   obtain ⟨t,e⟩:=r1
   subst e
   exact .cons n t (ih r2)
section
variable {X : Cx} {e : Expr} {te : TE} {lo hi : Option Expr} {tl th : TO} {pos p2 : Pos}
theorem pE:PO X none N0:=by
 intro pins s σ H Q I h
 rw [evalPart_none]
 exact aw5 ⟨none,H,I,.none,h⟩
theorem pF (h:PE X e te):PO X (some e) (N1 te):=by
 intro pins s σ H Q I hw
 rw [evalPart_some]
 refine aJ (h pins s σ H _ I hw) fun u s1 ⟨x,H1,I1,r1,q1⟩=>?_
 obtain ⟨i,rfl,q⟩:=q1
 obtain ⟨t,rfl⟩:=r1
 exact⟨some i,H1,I1,.int i t,q⟩
def i9 (X:Cx) (r:V->Option Int->Option Int->Hp->VK->Prop):Prop:=
 ∀ (pins:List (Addr × Obj)) (s:Shared) (σ:St) (H:Hp) (x:V) (v vl vu:Value) (lo hi:Option Int) (sl:Addr) (Q:VK),a5 X pins σ H s->aN x v->s.heap.IsSliceOf sl vl vu .none->IsPart vl lo->IsPart vu hi->r x lo hi H Q->
  ∃ T id,typeLookup (.type T) "__getitem__" = pure (some (.builtin id))/\s.TypeIs v T/\wpAny (model X.prog X.w) X.A (getItem v (.ref sl)) (EP X pins σ Q) X.xe s
theorem i9.or {r r':V->Option Int->Option Int->Hp->VK->Prop} (h:i9 X r) (h':i9 X r'):i9 X (fun x lo hi H Q=>r x lo hi H Q ∨ r' x lo hi H Q):=by
 intro pins s σ H x v vl vu lo hi sl Q I rx hs pl pu q
 rcases q with q | q
 ·exact h pins s σ H x v vl vu lo hi sl Q I rx hs pl pu q
 ·exact h' pins s σ H x v vl vu lo hi sl Q I rx hs pl pu q
def N3 (r:V->Option Int->Option Int->Hp->VK->Prop) (te:TE) (tl th:TO):TE:=fun σ H Q=>te σ H fun x H1=>tl σ H1 fun l H2=>th σ H2 fun u H3=>r x l u H3 Q
theorem pG {r:V->Option Int->Option Int->Hp->VK->Prop} (hr:i9 X r) (he:PE X e te) (hl:PO X lo tl) (hu:PO X hi th):PE X (.Subscript e (.Slice lo hi none p2) pos) (N3 r te tl th):=by
 intro pins s σ H Q I h
 refine Subscript_ (aJ (he pins s σ H _ I h) fun v s1 ⟨x,H1,I1,r1,q1⟩=>?_)
 refine wpAny_Slice (aJ (hl pins s1 σ H1 _ I1 q1) fun vl s2 ⟨l,H2,I2,pl,q2⟩=>aJ (hu pins s2 σ H2 _ I2 q2) fun vu s3 ⟨u,H3,I3,pu,q3⟩=>?_)
 rw [evalPart_none]
 refine aw5 ?_
 have I4:a5 X pins σ H3 { s3 with heap:=s3.heap.push { cls:=.type "slice",data:=.fields #[vl,vu,.none] } }:=I3.kept (t':=s3.toks) fun b ob q=>aw2 _ q
 obtain ⟨T,id,hT,ht,hg⟩:=hr pins { s3 with heap:=s3.heap.push { cls:=.type "slice",data:=.fields #[vl,vu,.none] } } σ H3 x v vl vu l u s3.heap.objs.size Q I4 r1 (Heap.IsSliceOf.new ..) pl pu q3
 show wpAny (model X.prog X.w) X.A (subscriptTail e (.Slice lo hi none p2) v (.ref s3.heap.objs.size)) (EP X pins σ Q) X.xe { s3 with heap:=s3.heap.push { cls:=.type "slice",data:=.fields #[vl,vu,.none] } }
 exact tail_any (ops:=[.ref s3.heap.objs.size,v]) ht hT hg (by with_unfolding_all rfl)
def cW (xs:List V) (lo hi:Option Int):List V:=(xs.drop (HT.aM xs.length 0 lo)).take (HT.aM xs.length xs.length hi - HT.aM xs.length 0 lo)
theorem uT (xs:List V) (lo hi:Option Int):(cW xs lo hi).length<=xs.length:=by
 unfold cW
 rw [aB0,aC2]
 omega
def N4 (K:PySem.W.Frag):V->Option Int->Option Int->Hp->VK->Prop:=fun x lo hi H Q=>∃ a xs,x = .ref a/\aI K H a xs/\
 ¬ (HT.aM xs.length 0 lo=0/\HT.aM xs.length xs.length hi=xs.length)/\∀ p,H p=none->Q (.ref p) (upd H p (.tup (cW xs lo hi)))
theorem N5:i9 X (N4 X.K):=by
 intro pins s σ H x v vl vu lo hi sl Q I rx hs pl pu h
 obtain ⟨a,xs,rfl,hx,hw,q⟩:=h
 cases rx
 obtain ⟨its,r,ht,hz⟩:=I.tuple hx
 have hlen:its.toArray.size=xs.length:=by rw [aw4]; exact r.length.symm
 refine⟨"tuple",_,PyProof.Rows.slot_tuple_getitem.lookup,ht.typeIs,?_⟩
 refine HT.M9 ht hs pl pu (by rw [hlen]; exact hw) ?_ (by rw [hlen]; exact hz)
 rw [hlen]
 refine⟨.ref s.heap.objs.size,_,I.laid (t':=s.toks) (o:=.tup (cW xs lo hi)) (fun b ob q=>aw2 _ q) (aw6 _) ?_,rfl,q _ (I.hok.fresh (aw6 _))⟩
 exact⟨aA3 (uT xs lo hi) hz,_,(r.drop (HT.aM xs.length 0 lo)).take (HT.aM xs.length xs.length hi - HT.aM xs.length 0 lo),IsTup.new _ _,fV.new _ _ rfl⟩
end
def iP (n:Nat) (i:Int):Option Nat:=if 0<=i then (if i < n then some i.toNat else none) else if -(n:Int)<=i then some (i+n).toNat else none
def atI {α:Type} (xs:List α) (i:Int):Option α:=(iP xs.length i).bind fun j=>xs[j]?
theorem N6 {n:Nat}{i:Int}{j:Nat} (h:iP n i=some j):seqIndex? i n=some j/\j < n/\-(n:Int)<=i/\i < n:=by
 unfold iP at h
 by_cases h0:0<=i
 ·rw [if_pos h0] at h
  by_cases h1:i < n
  ·rw [if_pos h1] at h
   have e:i.toNat=j:=ay6 h
   exact⟨by rw [seqIndex_of h0 h1,e],by omega,by omega,h1⟩
  ·rw [if_neg h1] at h; cases h
 ·rw [if_neg h0] at h
  by_cases h1 : -(n:Int)<=i
  ·rw [if_pos h1] at h
   have e:(i+n).toNat=j:=ay6 h
   exact⟨by rw [seqIndex_neg (by omega) h1,e],by omega,h1,by omega⟩
  ·rw [if_neg h1] at h; cases h
theorem pH {α:Type}{xs:List α}{i:Int}{v:α} (h:atI xs i=some v):∃ j,seqIndex? i xs.length=some j/\xs[j]? = some v/\j < xs.length/\-(xs.length:Int)<=i/\i < xs.length:=by
 unfold atI at h
 cases e:iP xs.length i with
 | none=>rw [e] at h; cases h
 | some j=>
  rw [e] at h
  obtain ⟨h1,h2,h3,h4⟩:=N6 e
  exact⟨j,h1,h,h2,h3,h4⟩
theorem kO {α:Type}{xs:List α}{j:Nat}{v:α} (h:xs[j]? = some v):atI xs (j:Int)=some v:=by
 have hj:j < xs.length:=(ax3.mp h).1
 have e:iP xs.length (j:Int)=some j:=by
  unfold iP
  rw [if_pos (by omega),if_pos (by omega)]; simp
 unfold atI; rw [e]; exact h
def uU (b:Expr):Prop:=∀ o i,subscripted b false o i=operate [o,i] (getItem o i)
def gM (X:Cx) (r:R2):Prop:=
 ∀ (value slice:Expr) (pins:List (Addr × Obj)) (s:Shared) (σ:St) (H:Hp) (x y:V) (v u:Value) (Q:VK),a5 X pins σ H s->aN x v->aN y u->r x y H Q->
  subscripted slice false v u=operate [v,u] (getItem v u)->wpAny (model X.prog X.w) X.A (subscriptTail value slice v u) (EP X pins σ Q) X.xe s
def N7 (X:Cx) (id:String) (r:V->List V->Hp->VK->Prop):Prop:=
 ∀ (pins:List (Addr × Obj)) (s:Shared) (σ:St) (H:Hp) (x:V) (xs:List V) (v:Value) (us:List Value) (Q:VK),a5 X pins σ H s->aN x v->aL xs us->r x xs H Q->
  wpAny (model X.prog X.w) X.A (call (.builtin id) (v :: us)) (EP X pins σ Q) X.xe s
section
variable {X : Cx} {a b : Expr} {ta tb : TE} {pos : Pos}
theorem gM.or {r r':R2} (h:gM X r) (h':gM X r'):gM X (fun x y H Q=>r x y H Q ∨ r' x y H Q):=by
 intro value slice pins s σ H x y v u Q I rx ry q hs
 rcases q with q | q
 ·exact h value slice pins s σ H x y v u Q I rx ry q hs
 ·exact h' value slice pins s σ H x y v u Q I rx ry q hs
theorem kQ {r:R2} (hr:gM X r) (ha:PE X a ta) (hb:PE X b tb) (hs:uU b):PE X (.Subscript a b pos) (kI r ta tb):=by
 intro pins s σ H Q I h
 exact Subscript_ (oW ha hb I h fun v u s2 x y H2 I2 rx ry q=>hr a b pins s2 σ H2 x y v u Q I2 rx ry q (hs _ _))
def uV (K:PySem.W.Frag):R2:=fun x y H Q=>∃ p xs i v,x = .ref p/\y = .int i/\aH K H p xs/\atI xs i=some v/\Q v H
def uW (K:PySem.W.Frag):R2:=fun x y H Q=>∃ p xs i v,x = .ref p/\y = .int i/\aI K H p xs/\atI xs i=some v/\Q v H
def uX:R2:=fun x y H Q=>∃ z i c,x = .str z/\y = .int i/\z.length<=sizeLine/\atI z.cps.toList i=some c/\Q (.str ⟨#[c]⟩) H
theorem pI:gM X (uV X.K):=by
 intro value slice pins s σ H x y v u Q I rx ry h hs
 obtain ⟨p,xs,i,z,rfl,rfl,hq,he,q⟩:=h
 cases rx
 obtain ⟨t,rfl⟩:=ry
 obtain ⟨its,r,pl,hz⟩:=I.list hq
 obtain ⟨j,h1,h2,h3,h4,h5⟩:=pH he
 obtain ⟨w,ew,rw'⟩:=r.get h2
 have hl:=r.length
 have hn:=m3
 have fin:EP X pins σ Q w s:=⟨z,H,I,rw',q⟩
 by_cases h0:0<=i
 ·have hj:i.toNat=j:=by
   rw [seqIndex_of h0 h5] at h1
   exact ay6 h1
  exact item_listR pl.isList h0 (by omega) (by rw [hj]; simpa using ew) fin hs
 ·have hj:(i+(its.toArray.size:Int)).toNat=j:=by
   rw [seqIndex_neg (by omega) h4] at h1
   rw [aw4,<- hl]
   exact ay6 h1
  exact subscriptTail_builtinR (x:=w) pl.isList.typeIs slot_list_getitem.lookup
   (wpAny_getItem_list_neg (Q:=fun r s'=>r=w/\EP X pins σ Q r s') pl.isList (by omega) (by rw [aw4] <;> omega) (by omega) (by rw [hj]; simpa using ew) ⟨rfl,fin⟩) hs
theorem pJ:gM X (uW X.K):=by
 intro value slice pins s σ H x y v u Q I rx ry h hs
 obtain ⟨p,xs,i,z,rfl,rfl,hq,he,q⟩:=h
 cases rx
 obtain ⟨t,rfl⟩:=ry
 obtain ⟨its,r,pl,hz⟩:=I.tuple hq
 obtain ⟨j,h1,h2,h3,h4,h5⟩:=pH he
 obtain ⟨w,ew,rw'⟩:=r.get h2
 have hl:=r.length
 have hn:=m3
 have fin:EP X pins σ Q w s:=⟨z,H,I,rw',q⟩
 exact subscriptTail_builtinR (x:=w) pl.typeIs slot_tuple_getitem.lookup
  (getItem_tuple (j:=j) (Q:=fun r s'=>r=w/\EP X pins σ Q r s') pl (by omega) (by omega) (by rw [aw4,<- hl]; exact h1) (by simpa using ew) ⟨rfl,fin⟩) hs
theorem N8:gM X uX:=by
 intro value slice pins s σ H x y v u Q I rx ry h hs
 obtain ⟨z,i,c,rfl,rfl,hz,he,q⟩:=h
 obtain ⟨t,rfl⟩:=rx
 obtain ⟨t',rfl⟩:=ry
 obtain ⟨j,h1,h2,h3,h4,h5⟩:=pH he
 have hl:z.cps.toList.length=z.length:=by simp [Str.length]
 rw [hl] at h1 h4 h5
 have hn:=m3
 exact tail_any (typeIs_str s z t) slot_str_getitem.lookup (getItem_str (c:=c) (by
  have e1:decide (i < -(2 ^ 63:Int))=false:=ax4 (by omega)
  have e2:decide (i >= 2 ^ 63)=false:=ax4 (by omega)
  rw [e1,e2,Bool.or_false]) (by rw [h1]; simpa using h2) ⟨.str ⟨#[c]⟩,H,I.tok _,⟨_,rfl⟩,q⟩) hs
def uY (K:PySem.W.Frag):R2:=fun x y H Q=>uV K x y H Q ∨ uW K x y H Q ∨ uX x y H Q
theorem N9:gM X (uY X.K):=pI.or (pJ.or N8)
theorem O0 (lo hi:Option Int) (n:Nat):(sliceBounds lo hi none n).1=((HT.aM n 0 lo:Nat):Int)/\(sliceBounds lo hi none n).2.1=((HT.aM n n hi:Nat):Int)/\(sliceBounds lo hi none n).2.2=1:=by
 refine⟨?_,?_,rfl⟩
 ·cases lo with
  | none=>simp [sliceBounds,HT.aM]
  | some i=>
   simp only [sliceBounds,HT.aM,Option.getD_none,show (1:Int) > 0 by decide,if_true]
   by_cases h:i < 0
   ·simp only [h,if_true] <;> omega
   ·simp only [h,aC4] <;> omega
 ·cases hi with
  | none=>simp [sliceBounds,HT.aM]
  | some i=>
   simp only [sliceBounds,HT.aM,Option.getD_none,show (1:Int) > 0 by decide,if_true]
   by_cases h:i < 0
   ·simp only [h,if_true] <;> omega
   ·simp only [h,aC4] <;> omega
theorem O1 (its:List Value) (lo hi:Option Int):slicePick its.toArray lo hi none=((its.drop (HT.aM its.length 0 lo)).take (HT.aM its.length its.length hi - HT.aM its.length 0 lo)).toArray:=by
 obtain ⟨h1,h2,h3⟩:=O0 lo hi its.toArray.size
 unfold slicePick
 rw [h1,h2,h3]
 simp only [sliceRange_one,pick_run,aw4] <;> rfl
def O2 (K:PySem.W.Frag):V->Option Int->Option Int->Hp->VK->Prop:=fun x lo hi H Q=>∃ a xs,x = .ref a/\aH K H a xs/\∀ p,H p=none->Q (.ref p) (upd H p (.lst (cW xs lo hi)))
theorem uZ:i9 X (O2 X.K):=by
 intro pins s σ H x v vl vu lo hi sl Q I rx hs pl pu h
 obtain ⟨a,xs,rfl,hx,q⟩:=h
 cases rx
 obtain ⟨its,r,ht,hz⟩:=I.list hx
 have hlen:=r.length
 refine⟨"list",_,slot_list_getitem.lookup,ht.isList.typeIs,?_⟩
 refine wpAny_getItem_list_slice ht.isList hs pl pu .none (by simp) ?_ (by rw [aw4] <;> omega)
 rw [O1,<- hlen]
 refine⟨.ref s.heap.objs.size,_,I.laid (t':=s.toks) (o:=.lst (cW xs lo hi)) (fun b ob q=>aw2 _ q) (aw6 _) ?_,rfl,q _ (I.hok.fresh (aw6 _))⟩
 exact⟨aA3 (uT xs lo hi) hz,_,0,(r.drop (HT.aM xs.length 0 lo)).take (HT.aM xs.length xs.length hi - HT.aM xs.length 0 lo),ax5 _ rfl⟩
def gN:V->Bool
 | .non=>true
 | .bl _=>true
 | .int _=>true
 | .str _=>true
 | _=>false
def fF:V->V->Bool
 | .non,.non=>true
 | .bl a,.bl b=>a == b
 | .bl a,.int b=>(if a then 1 else 0) == b
 | .int a,.bl b=>a == (if b then 1 else 0)
 | .int a,.int b=>a == b
 | .str a,.str b=>a == b
 | _,_=>false
theorem O3 {A:Around}{s:Shared}{y x:V}{u v:Value} (ry:aN y u) (rx:aN x v) (fy:gN y=true) (fx:gN x=true):SeqAt.EqAt A s u v (fF y x):=by
 cases y with
 | non=>
  cases ry
  cases x with
  | non=>cases rx; exact SeqAt.EqAt.same _
  | bl b=>cases rx; exact SeqAt.EqAt.none_bool b
  | int b=>obtain ⟨t,rfl⟩:=rx; exact SeqAt.EqAt.none_int b t
  | str b=>obtain ⟨t,rfl⟩:=rx; exact SeqAt.EqAt.none_str b t
  | _=>exact absurd (show false=true from fx) ay1
 | bl a=>
  cases ry
  cases x with
  | non=>cases rx; exact SeqAt.EqAt.bool_none a
  | bl b=>cases rx; exact SeqAt.EqAt.bool_bool a b
  | int b=>obtain ⟨t,rfl⟩:=rx; exact SeqAt.EqAt.bool_int a b t
  | str b=>obtain ⟨t,rfl⟩:=rx; exact SeqAt.EqAt.bool_str a b t
  | _=>exact absurd (show false=true from fx) ay1
 | int a=>
  obtain ⟨t',rfl⟩:=ry
  cases x with
  | non=>cases rx; exact SeqAt.EqAt.int_none a t'
  | bl b=>cases rx; exact SeqAt.EqAt.int_bool a t' b
  | int b=>obtain ⟨t,rfl⟩:=rx; exact SeqAt.EqAt.int_int a t' b t
  | str b=>obtain ⟨t,rfl⟩:=rx; exact SeqAt.EqAt.int_str a t' b t
  | _=>exact absurd (show false=true from fx) ay1
 | str a=>
  obtain ⟨t',rfl⟩:=ry
  cases x with
  | non=>cases rx; exact SeqAt.EqAt.str_none a t'
  | bl b=>cases rx; exact SeqAt.EqAt.str_bool a t' b
  | int b=>obtain ⟨t,rfl⟩:=rx; exact SeqAt.EqAt.str_int a t' b t
  | str b=>obtain ⟨t,rfl⟩:=rx; exact SeqAt.EqAt.str_str a t' b t
  | _=>exact absurd (show false=true from fx) ay1
 | _=>exact absurd (show false=true from fy) ay1
def dE (x:V) (u:Value):Bool:=match u with
 | .none=>fF .non x
 | .bool b=>fF (.bl b) x
 | .int i _=>fF (.int i) x
 | .str z _=>fF (.str z) x
 | _=>false
theorem v0 {x y:V}{u:Value} (r:aN y u) (f:gN y=true):dE x u=fF y x:=by
 cases y with
 | non=>cases r; rfl
 | bl b=>cases r; rfl
 | int i=>obtain ⟨t,rfl⟩:=r; rfl
 | str z=>obtain ⟨t,rfl⟩:=r; rfl
 | _=>exact absurd (show false=true from f) ay1
theorem kR {x:V}:∀ {xs:List V}{us:List Value},aL xs us->xs.all gN=true->us.any (dE x)=xs.any fun y=>fF y x
 | _,_,.nil,_=>rfl
 | y :: xs,u :: us,.cons r t,f=>by
  rw [aF8,az2] at f
  rw [List.any_cons,List.any_cons,v0 r f.1,kR t f.2]
theorem kS {A:Around}{s:Shared}{x:V}{v:Value} (rx:aN x v) (fx:gN x=true):∀ {xs:List V}{us:List Value},aL xs us->xs.all gN=true->∀ u ∈ us,SeqAt.EqAt A s u v (dE x u)
 | _,_,.nil,_=>fun u hu=>by cases hu
 | y :: xs,u :: us,.cons r t,f=>fun u' hu=>by
  rw [aF8,az2] at f
  rcases aw7.mp hu with rfl | hu
  ·rw [v0 r f.1]; exact O3 r rx f.1 fx
  ·exact kS rx fx t f.2 u' hu
def kT (x:V) (xs:List V):Bool:=xs.any fun y=>fF y x
def pK (K:PySem.W.Frag) (neg:Bool):R2:=fun x y H Q=>∃ p xs,y = .ref p/\(aH K H p xs ∨ aI K H p xs)/\gN x=true/\xs.all gN=true/\Q (.bl (if neg then !kT x xs else kT x xs)) H
theorem O4:bU X (compareOp .In) (pK X.K false):=by
 intro pins s σ H x y v u Q I rx ry h
 obtain ⟨p,xs,rfl,hq,fx,fs,q⟩:=h
 cases ry
 rcases hq with hq | hq
 ·obtain ⟨its,r,pl,hz⟩:=I.list hq
  refine SeqAt.in_listAt (dE x) pl.isList (fun w hw=>kS rx fx r fs w (by simpa using hw)) ⟨.bl _,H,I,rfl,?_⟩
  rw [show its.toArray.any (dE x)=its.any (dE x) by simp,kR r fs]
  exact q
 ·obtain ⟨its,r,pl,hz⟩:=I.tuple hq
  refine SeqAt.in_tupleAt (dE x) pl (fun w hw=>kS rx fx r fs w (by simpa using hw)) ⟨.bl _,H,I,rfl,?_⟩
  rw [show its.toArray.any (dE x)=its.any (dE x) by simp,kR r fs]
  exact q
theorem O5:bU X (compareOp .NotIn) (pK X.K true):=by
 intro pins s σ H x y v u Q I rx ry h
 obtain ⟨p,xs,rfl,hq,fx,fs,q⟩:=h
 cases ry
 rcases hq with hq | hq
 ·obtain ⟨its,r,pl,hz⟩:=I.list hq
  refine SeqAt.notIn_listAt (dE x) pl.isList (fun w hw=>kS rx fx r fs w (by simpa using hw)) ⟨.bl _,H,I,rfl,?_⟩
  rw [show its.toArray.any (dE x)=its.any (dE x) by simp,kR r fs]
  exact q
 ·obtain ⟨its,r,pl,hz⟩:=I.tuple hq
  refine SeqAt.notIn_tupleAt (dE x) pl (fun w hw=>kS rx fx r fs w (by simpa using hw)) ⟨.bl _,H,I,rfl,?_⟩
  rw [show its.toArray.any (dE x)=its.any (dE x) by simp,kR r fs]
  exact q
theorem O6:cC X (.builtin "len") (fun xs H Q=>∃ p ys,xs = [.ref p]/\(aH X.K H p ys ∨ aI X.K H p ys)/\Q (.int ys.length) H):=by
 intro pins s σ H xs us Q I r h
 obtain ⟨p,ys,rfl,hq,q⟩:=h
 obtain ⟨u,rfl,rx⟩:=gL r
 cases rx
 have hn:=m3
 rcases hq with hq | hq
 ·obtain ⟨its,r',pl,hz⟩:=I.list hq
  have hlen:=r'.length
  exact Calls.call_len_list pl.isList (by simp only [aw4] <;> omega) ⟨.int ys.length,H,I.tok _,⟨s.toks+1,by rw [aw4,hlen]⟩,q⟩
 ·obtain ⟨its,r',pl,hz⟩:=I.tuple hq
  have hlen:=r'.length
  exact len_tuple pl (by simp only [aw4] <;> omega) ⟨.int ys.length,H,I.tok _,⟨s.toks+1,by rw [aw4,hlen]⟩,q⟩
theorem cC.or {f:Value}{r r':List V->Hp->VK->Prop} (h:cC X f r) (h':cC X f r'):cC X f (fun xs H Q=>r xs H Q ∨ r' xs H Q):=by
 intro pins s σ H xs us Q I rs q
 rcases q with q | q
 ·exact h pins s σ H xs us Q I rs q
 ·exact h' pins s σ H xs us Q I rs q
theorem O7:cC X (.type "list") (fun xs H Q=>∃ p ys,xs = [.ref p]/\(aH X.K H p ys ∨ aI X.K H p ys)/\∀ l,H l=none->Q (.ref l) (upd H l (.lst ys))):=by
 intro pins s σ H xs us Q I r h
 obtain ⟨p,ys,rfl,hq,q⟩:=h
 obtain ⟨u,rfl,rx⟩:=gL r
 cases rx
 have fin:∀ (its:List Value),aL ys its->ys.length<=sizeLine->∀ (h':Heap) (c':Nat),(∀ b o',s.heap.get? b=some o'->h'.get? b=some o')->
   h'.get? s.heap.objs.size=some { cls:=.type "list",dict:=none,data:=.seq its.toArray c',slots:=#[] }->EP X pins σ Q (.ref s.heap.objs.size) { s with heap:=h' }:=fun its r' hz h' c' kp e=>
  ⟨.ref s.heap.objs.size,_,I.laid (t':=s.toks) kp (aw6 _) (show aZ X.prog X.w _ h' _ (.lst ys) from ⟨hz,its,c',r',e⟩),rfl,q _ (I.hok.fresh (aw6 _))⟩
 rcases hq with hq | hq
 ·obtain ⟨its,r',pl,hz⟩:=I.list hq
  have hlen:=r'.length
  obtain ⟨o,ho,hc,n,hd⟩:=pl.isList
  exact call_list_seq p (.inl rfl) ho hc hd (fun h' c' kp e=>fin its r' hz h' c' kp e) (by simp only [aw4] <;> omega)
 ·obtain ⟨its,r',pl,hz⟩:=I.tuple hq
  have hlen:=r'.length
  obtain ⟨o,ho,hc,n,hd⟩:=pl
  exact call_list_seq p (.inr rfl) ho hc hd (fun h' c' kp e=>fin its r' hz h' c' kp e) (by simp only [aw4] <;> omega)
theorem O8:cC X (.type "tuple") (fun xs H Q=>∃ p ys,xs = [.ref p]/\((aH X.K H p ys/\∀ l,H l=none->Q (.ref l) (upd H l (.tup ys))) ∨ (aI X.K H p ys/\Q (.ref p) H))):=by
 intro pins s σ H xs us Q I r h
 obtain ⟨p,ys,rfl,h⟩:=h
 obtain ⟨u,rfl,rx⟩:=gL r
 cases rx
 rcases h with ⟨hq,q⟩ | ⟨hq,q⟩
 ·obtain ⟨its,r',pl,hz⟩:=I.list hq
  have hlen:=r'.length
  refine call_tuple_list pl.isList (fun h' kp=>?_) (by simp only [aw4] <;> omega)
  have I1:a5 X pins σ H { s with heap:=h' }:=I.kept (t':=s.toks) kp
  have I2:a5 X pins σ (upd H h'.objs.size (.tup ys)) { s with heap:=h'.push { cls:=.type "tuple",data:=.seq its.toArray } }:=
   I1.laid (t':=s.toks) (fun b o e=>aw2 _ e) (aw6 _) (show aZ X.prog X.w _ _ _ (.tup ys) from ⟨hz,its,r',IsTup.new _ _,fV.new _ _ rfl⟩)
  exact⟨.ref h'.objs.size,_,I2,rfl,q _ (I1.hok.fresh (aw6 _))⟩
 ·obtain ⟨its,r',pl,hz⟩:=I.tuple hq
  exact call_tuple_same pl ⟨.ref p,H,I,rfl,q⟩
def fG (K:PySem.W.Frag) (T:String) (x:V) (H:Hp):Prop:=match x with
 | .str _=>T="str"
 | .int _=>T="int"
 | .ref p=>(T="list"/\∃ xs,aH K H p xs) ∨ (T="tuple"/\∃ o,K.lookup p=some o/\o.cls = .type "tuple"/\o.dict=none) ∨
   (T="dict"/\((∃ kvs,H p=some (.dK kvs)) ∨ ∃ kvs,H p=some (.dT kvs))) ∨ (T="set"/\∃ S n,H p=some (.set S n))
 | _=>False
theorem O9 {pins:List (Addr × Obj)}{σ:St}{H:Hp}{s:Shared}{T:String}{x:V}{v:Value} (I:a5 X pins σ H s) (r:aN x v) (ty:fG X.K T x H) :
  s.TypeIs v T/\∀ a,v = .ref a->∃ ob,s.heap.get? a=some ob/\ob.dict=none:=by
 cases x with
 | str z=>
  obtain ⟨t,rfl⟩:=r
  cases (show T="str" from ty)
  exact⟨typeIs_str s z t,fun _ e=>nomatch e⟩
 | int i=>
  obtain ⟨t,rfl⟩:=r
  cases (show T="int" from ty)
  exact⟨typeIs_int s i t,fun _ e=>nomatch e⟩
 | ref p=>
  cases r
  rcases ty with ⟨rfl,xs,hq⟩ | ⟨rfl,o,hk,hc,hd⟩ | ⟨rfl,hk⟩ | ⟨rfl,S,n,hk⟩
  ·obtain ⟨its,_,pl,_⟩:=I.list hq
   refine⟨pl.isList.typeIs,fun a e=>?_⟩
   cases e
   obtain ⟨o,n,e,c,hd,_⟩:=pl
   exact⟨o,e,hd⟩
  ·refine⟨⟨o,I.kIn p o hk,hc⟩,fun a e=>?_⟩
   cases e
   exact⟨o,I.kIn _ o hk,hd⟩
  ·have z:∃ o,s.heap.get? p=some o/\o.ExactDict:=by
    rcases hk with ⟨kvs,hk⟩ | ⟨kvs,hk⟩
    ·obtain ⟨_,_,_,_,o,_,_,e,ex,_⟩:=I.hok p _ hk
     exact⟨o,e,ex⟩
    ·obtain ⟨_,_,_,_,o,_,_,e,ex,_⟩:=I.hok p _ hk
     exact⟨o,e,ex⟩
   obtain ⟨o,e,ex⟩:=z
   refine⟨⟨o,e,ex.1⟩,fun a e2=>?_⟩
   cases e2
   exact⟨o,e,ex.2.1⟩
  ·obtain ⟨o,_,_,_,e,ex,_⟩:=I.hok p _ hk
   refine⟨⟨o,e,ex.1⟩,fun a e2=>?_⟩
   cases e2
   exact⟨o,e,ex.2.1⟩
 | _=>exact False.elim ty
def pL (K:PySem.W.Frag) (T:String) (r:V->List V->Hp->VK->Prop) (to:TE) (t:TA):TE:=fun σ H Q=>to σ H fun x H1=>fG K T x H1/\t σ H1 fun xs H2=>r x xs H2 Q
variable {o e : Expr} {es : List Expr} {to : TE} {t : TA} {name : Str} {apos cpos : Pos} {T id : String} {r : V → List V → Hp → VK → Prop}
theorem m6 (pa:PlainAttrs T) (slot:Slot T name id) (hty:typeOf (.builtin id)=pure (.type "method_descriptor")) (hm:N7 X id r) (ho:PE X o to) (ha:PA X (e :: es) t)
  (hbase:attributeBase o name X.env (eval o X.env)=eval o X.env:=by rfl)
  (hfew:((backTo cpos (starEach (e :: es) X.env)).all (fun x=>!x.1) && (backToKw cpos (keywordEach [] X.env)).all (fun x=>x.1.isSome)
   && decide ((e :: es).length+([]:List Keyword).length+(if ([]:List Keyword).isEmpty then 0 else 1) < 30))=true:=by rfl)
  (hline:(apos.endLine == cpos.line)=true:=by rfl) (hs:starEach (e :: es) X.env=(false,eval e X.env) :: starEach es X.env:=by rfl) (hplain:(backTo cpos (starEach es X.env)).any (·.1)=false:=by rfl) :
  PE X (.Call (.Attribute o name apos) (e :: es) [] cpos) (pL X.K T r to t):=by
 intro pins s σ H Q I h
 refine wpAny_Call_method_late hbase hfew hline rfl (aJ (ho pins s σ H _ I h) fun v s1 ⟨x,H1,I1,r1,ty,q1⟩=>?_)
 obtain ⟨h1,h2⟩:=O9 I1 r1 ty
 refine⟨T,id,pa,slot,hty,h1,h2,?_⟩
 have hA:=ha cpos pins s1 σ H1 _ I1 q1
 rw [hs] at hA ⊢
 refine Calls.callWith_builtin (by show (false || (backTo cpos (starEach es X.env)).any (·.1))=false; rw [hplain] <;> rfl) (Calls.evalArgs_plain ?_)
 exact aJ hA fun us s2 ⟨vs,H2,I2,r2,q2⟩=>hm pins s2 σ H2 x vs v us Q I2 r1 r2 q2
end
def pM (X:Cx) (id:String) (r:V->List V->Hp->VK->Prop):Prop:=
 ∀ (pins:List (Addr × Obj)) (s:Shared) (σ:St) (H:Hp) (x:V) (xs:List V) (v:Value) (us:List Value) (Q:VK),a5 X pins σ H s->aN x v->aL xs us->r x xs H Q->
  wpAny (model X.prog X.w) X.A (call (.builtin id) (v :: us)) (EP X pins σ Q) X.xe s
theorem aL.one {x:V}{us:List Value} (h:aL [x] us):∃ u,us = [u]/\aN x u:=by
 cases h with
 | cons r t=>
  cases t
  exact⟨_,rfl,r⟩
section
variable {X : Cx} {pins : List (Addr × Obj)} {σ : St} {H : Hp} {s : Shared} {l b : Addr} {xs ys zs : List V}
theorem a5.lset {its its':List Value}{n:Nat}{f:Array Value->Array Value}{t':Nat} (I:a5 X pins σ H s) (hH:H l=some (.lst xs))
  (e:s.heap.get? l=some { cls:=.type "list",data:=.seq its.toArray n }) (hf:f its.toArray=its'.toArray) (hv:aL ys its') (hz:ys.length<=sizeLine) :
  a5 X pins σ (upd H l (.lst ys)) { s with heap:=s.heap.update l (Obj.mapSeq f),toks:=t' }:=by
 have q:=PySem.IsL.update e f
 rw [hf] at q
 refine I.write (x:=l) (e:=l) (by rw [hH]; exact trivial) (.inl rfl) (fun b' u hb hu=>(Heap.get?_update_other s.heap (Obj.mapSeq f) (Ne.symm hb)).trans hu) ⟨_,q⟩ ?_
 exact⟨hz,its',_,hv,q⟩
theorem a5.lnew {its:List Value}{t':Nat} (I:a5 X pins σ H s) (hv:aL ys its) (hz:ys.length<=sizeLine) :
  a5 X pins σ (upd H s.heap.objs.size (.lst ys)) { s with heap:=s.heap.push { cls:=.type "list",data:=.seq its.toArray },toks:=t' }:=
 I.laid (fun _ _ q=>aw2 _ q) (aw6 _) ⟨hz,its,0,hv,ax5 _ rfl⟩
theorem a5.fresh (I:a5 X pins σ H s):H s.heap.objs.size=none:=I.hok.fresh (aw6 _)
theorem a5.lstM (I:a5 X pins σ H s) (hH:H l=some (.lst xs)):xs.length<=sizeLine/\∃ (its:List Value) (n:Nat),aL xs its/\xs.length=its.length/\s.heap.get? l=some { cls:=.type "list",data:=.seq its.toArray n }:=by
 obtain ⟨z,its,n,r,e⟩:=I.hok l _ hH
 exact⟨z,its,n,r,r.length,e⟩
theorem P0 {n:Nat} (h:n<=sizeLine):Builtin.List.listTooLong n=false:=by
 unfold Builtin.List.listTooLong
 exact ax4 (by omega)
end
section
variable {X : Cx}
def v3:V->List V->Hp->VK->Prop:=fun x vs H Q=>∃ l xs y,x = .ref l/\vs = [y]/\H l=some (.lst xs)/\xs.length < sizeLine/\Q .non (upd H l (.lst (xs ++ [y])))
theorem m7:pM X "list.append" v3:=by
 intro pins s σ H x vs v us Q I rx rv h
 obtain ⟨l,xs,y,rfl,rfl,hH,hz,q⟩:=h
 cases rx
 obtain ⟨u,rfl,ru⟩:=rv.one
 obtain ⟨z,its,n,r,hl,e⟩:=I.lstM hH
 refine call_meets F.slot_list_append ⟨_,e,rfl⟩ F.entry_list_append (F.args_list_append_2 _ _) (PySem.list_append l its.toArray n u (by rw [aw4]; omega)) ⟨e,?_⟩
 refine⟨.non,_,I.lset (its':=its ++ [u]) hH e (by simp) (r.append (.cons ru .nil)) ?_,rfl,q⟩
 rw [ax9,az1]
 omega
def P3:V->List V->Hp->VK->Prop:=fun x vs H Q=>∃ l b xs zs,x = .ref l/\vs = [.ref b]/\H l=some (.lst xs)/\H b=some (.lst zs)/\xs.length+zs.length<=sizeLine/\Q .non (upd H l (.lst (xs ++ zs)))
theorem av7:pM X "list.extend" P3:=by
 intro pins s σ H x vs v us Q I rx rv h
 obtain ⟨l,b,xs,zs,rfl,rfl,hH,hB,hz,q⟩:=h
 cases rx
 obtain ⟨u,rfl,ru⟩:=rv.one
 cases ru
 obtain ⟨z,its,n,r,hl,e⟩:=I.lstM hH
 obtain ⟨z2,its2,n2,r2,hl2,e2⟩:=I.lstM hB
 have hsz:its.toArray.size+its2.toArray.size<=sizeLine:=by rw [aw4,aw4]; omega
 have hlong : ¬ (!its.toArray.isEmpty && Builtin.List.listTooLong (its.toArray.size+its2.toArray.size))=true:=by
  rw [P0 hsz,aG6]
  exact ay1
 refine call_meets F.slot_list_extend ⟨_,e,rfl⟩ F.entry_list_extend (F.args_list_extend_2 _ _)
  (AutoSeq1.list_extend_list_list_0 l its.toArray n b its2.toArray n2 hlong (by rw [aw4]; omega) (by omega)) ⟨e,e2,?_⟩
 refine⟨.non,_,I.lset (its':=its ++ its2) hH e (by simp) (r.append r2) ?_,rfl,q⟩
 rw [ax9]
 omega
def v4:R2:=fun x y H Q=>∃ l b xs zs,x = .ref l/\y = .ref b/\H l=some (.lst xs)/\H b=some (.lst zs)/\xs.length+zs.length<=sizeLine/\∀ p,H p=none->Q (.ref p) (upd H p (.lst (xs ++ zs)))
theorem P4:bU X (binaryOp .Add) v4:=by
 intro pins s σ H x y v u Q I rx ry h
 obtain ⟨l,b,xs,zs,rfl,rfl,hH,hB,hz,q⟩:=h
 cases rx
 cases ry
 obtain ⟨z,its,n,r,hl,e⟩:=I.lstM hH
 obtain ⟨z2,its2,n2,r2,hl2,e2⟩:=I.lstM hB
 refine PySem.P.add_list e e2 ?_ (by rw [aw4,aw4]; omega)
 have ea:its.toArray ++ its2.toArray=(its ++ its2).toArray:=by simp
 rw [ea]
 exact⟨.ref _,_,I.lnew (t':=s.toks) (r.append r2) (by rw [ax9]; omega),rfl,q _ I.fresh⟩
end
section
variable {κ : Type} [DecidableEq κ]
def dF (kvs:List (κ × V)) (k:κ):Option V:=(kvs.find? fun kv=>decide (kv.1=k)).map (·.2)
def dG (kvs:List (κ × V)) (k:κ) (v:V):List (κ × V):=
 if (kvs.any fun kv=>decide (kv.1=k))=true then kvs.map (fun kv=>if kv.1=k then (kv.1,v) else kv) else kvs ++ [(k,v)]
theorem pN {p:κ × V}{r:List (κ × V)}{k:κ} (e:p.1=k):dF (p :: r) k=some p.2:=by simp [dF,aF5,e]
theorem pO {p:κ × V}{r:List (κ × V)}{k:κ} (e : ¬ p.1=k):dF (p :: r) k=dF r k:=by simp [dF,aF5,e]
theorem v7 (k:κ):∀ kvs:List (κ × V),(kvs.any fun kv=>decide (kv.1=k))=(dF kvs k).isSome
 | []=>rfl
 | p :: r=>by
  rw [List.any_cons]
  by_cases e:p.1=k
  ·simp only [pN e,ay0 e,Bool.true_or,Option.isSome_some]
  ·rw [pO e,ax4 e,Bool.false_or]; exact v7 k r
theorem v8 (kvs:List (κ × V)) (k:κ) (v:V):(dG kvs k v).length<=kvs.length+1:=by
 unfold dG
 split
 ·rw [aw9]; omega
 ·rw [ax9,aC9,List.length_nil]; omega
theorem fC.isSome_eq {o:Option V}{u:Option Value} (r:fC o u):o.isSome=u.isSome:=by
 cases o with
 | none=>cases u with
  | none=>rfl
  | some _=>exact (show False from r).elim
 | some _=>cases u with
  | none=>exact (show False from r).elim
  | some _=>rfl
theorem KV.val {kvs:List (κ × V)}{vs:List (κ × Value)} (r:KV kvs vs) (k:κ):fC (dF kvs k) (valueAt vs k):=by
 unfold KV at r
 induction r with
 | nil=>exact True.intro
 | @cons p q ps qs h t ih=>
  obtain ⟨h1,h2⟩:=h
  by_cases e:p.1=k
  ·have e':q.1=k:=h1.symm.trans e
   have b:valueAt (q :: qs) k=some q.2:=by simp [valueAt,aF5,e']
   rw [pN e,b]; exact h2
  ·have e' : ¬ q.1=k:=fun z=>e (h1.trans z)
   have b:valueAt (q :: qs) k=valueAt qs k:=by simp [valueAt,aF5,e']
   rw [pO e,b]; exact ih
theorem KV.any {kvs:List (κ × V)}{vs:List (κ × Value)} (r:KV kvs vs) (k:κ):(kvs.any fun kv=>decide (kv.1=k))=vs.any fun kv=>decide (kv.1=k):=by
 unfold KV at r
 induction r with
 | nil=>rfl
 | cons h t ih=>rw [List.any_cons,List.any_cons,ih,h.1]
theorem KV.repl {kvs:List (κ × V)}{vs:List (κ × Value)} (r:KV kvs vs) (k:κ) {y:V}{u:Value} (ry:aN y u) :
  KV (kvs.map fun kv=>if kv.1=k then (kv.1,y) else kv) (vs.map fun kv=>if kv.1=k then (kv.1,u) else kv):=by
 unfold KV at r ⊢
 induction r with
 | nil=>exact .nil
 | @cons p q ps qs h t ih=>
  rw [aA0,aA0]
  refine .cons ?_ ih
  obtain ⟨h1,h2⟩:=h
  by_cases e:p.1=k
  ·rw [if_pos e,if_pos (h1.symm.trans e)]; exact⟨h1,ry⟩
  ·rw [if_neg e,if_neg (fun z=>e (h1.trans z))]; exact⟨h1,h2⟩
theorem KV.put {kvs:List (κ × V)}{vs:List (κ × Value)} (r:KV kvs vs) (k:κ) {y:V}{u:Value} (ry:aN y u):KV (dG kvs k y) (stored vs k u):=by
 unfold dG stored
 rw [r.any k]
 by_cases e:(vs.any fun kv=>decide (kv.1=k))=true
 ·rw [if_pos e,if_pos e]; exact r.repl k ry
 ·rw [if_neg e,if_neg e]; exact Paired.snoc r ⟨rfl,ry⟩
theorem KV.length {kvs:List (κ × V)}{vs:List (κ × Value)} (r:KV kvs vs):kvs.length=vs.length:=Paired.length r
end
theorem m8 {P:Program}{w:World}{k:aD}{u:Value} (r:aN (kV k) u):(e8 P w).is k u=true:=by
 cases k with
 | inl i=>obtain ⟨t,e⟩:=(show ∃ t,u=Value.int i t from r); subst e; exact C8 P w i t
 | inr x=>obtain ⟨t,e⟩:=(show ∃ t,u=Value.str x t from r); subst e; exact C9 P w x t
theorem v9 {P:Program}{w:World}:∀ {ks:List aD}{us:List Value},aL (ks.map kV) us->ItemsAre (e8 P w) ks us
 | [],_,r=>by rw [List.map_nil] at r; cases r; exact .nil
 | k :: ks,_,r=>by
  rw [aA0] at r
  cases r with
  | cons h t=>exact .cons (m8 h) (v9 t)
abbrev KT (H:Hp):List (List aD × V)->List (List aD × Addr × Value)->Prop:=Paired fun p q=>p.1=q.1/\H q.2.1=some (.tup (p.1.map kV))/\aN p.2 q.2.2
theorem KT.val {H:Hp}{kvs:List (List aD × V)}{xs:List (List aD × Addr × Value)} (r:KT H kvs xs) (k:List aD):fC (dF kvs k) ((atKey xs k).map (·.2)):=by
 induction r with
 | nil=>exact True.intro
 | @cons p q ps qs h t ih=>
  obtain ⟨h1,_,h2⟩:=h
  by_cases e:p.1=k
  ·have e':q.1=k:=h1.symm.trans e
   have b:atKey (q :: qs) k=some q.2:=by simp [atKey,aF5,e']
   rw [pN e,b]; exact h2
  ·have e' : ¬ q.1=k:=fun z=>e (h1.trans z)
   have b:atKey (q :: qs) k=atKey qs k:=by simp [atKey,aF5,e']
   rw [pO e,b]; exact ih
theorem KT.repl {H:Hp}{kvs:List (List aD × V)}{xs:List (List aD × Addr × Value)} (r:KT H kvs xs) (k:List aD) {y:V}{u:Value} (ry:aN y u) :
  KT H (kvs.map fun kv=>if kv.1=k then (kv.1,y) else kv) (xs.map (putAt k u)):=by
 induction r with
 | nil=>exact .nil
 | @cons p q ps qs h t ih=>
  rw [aA0,aA0]
  refine .cons ?_ ih
  obtain ⟨h1,h2,h3⟩:=h
  unfold putAt
  by_cases e:p.1=k
  ·rw [if_pos e,if_pos (h1.symm.trans e)]; exact⟨h1,h2,ry⟩
  ·rw [if_neg e,if_neg (fun z=>e (h1.trans z))]; exact⟨h1,h2,h3⟩
theorem KT.put {H:Hp}{kvs:List (List aD × V)}{xs:List (List aD × Addr × Value)} (r:KT H kvs xs) (k:List aD) {b:Addr}{y:V}{u:Value} (hb:H b=some (.tup (k.map kV))) (ry:aN y u) :
  KT H (dG kvs k y) (storedH xs k b u):=by
 have e:(kvs.any fun kv=>decide (kv.1=k))=(atKey xs k).isSome:=by
  rw [v7,(r.val k).isSome_eq,Option.isSome_map]
 unfold dG storedH
 rw [e]
 by_cases q:(atKey xs k).isSome=true
 ·rw [if_pos q,if_pos q]; exact r.repl k ry
 ·rw [if_neg q,if_neg q]; exact Paired.snoc r ⟨rfl,hb,ry⟩
theorem KT.keeps {H H':Hp}{kvs:List (List aD × V)}{xs:List (List aD × Addr × Value)} (r:KT H kvs xs) (ht:∀ b ys,H b=some (.tup ys)->H' b=some (.tup ys)):KT H' kvs xs:=
 Paired.mapP r fun _ _ z=>⟨z.1,ht _ _ z.2.1,z.2.2⟩
section
variable {P : Program} {w : World} {H : Hp} {h : Heap} {a : Addr}
theorem vA {u:HO} (ok:b9 P w H h) (e:Rd H a u):aZ P w H h a u:=e.ok ok
theorem kU {kvs:List (aD × V)} (ok:b9 P w H h) (e:Rd H a (.dK kvs)):kvs.length<=sizeLine/\(a == sysModules)=false/\∃ vs,KV kvs vs/\h.DictOf (e8 P w) a vs:=
 show aZ P w H h a (.dK kvs) from vA ok e
theorem P5 {kvs:List (aD × V)} (ok:b9 P w H h) (e:H a=some (.dK kvs)):kvs.length<=sizeLine/\(a == sysModules)=false/\∃ vs,KV kvs vs/\h.DictOf (e8 P w) a vs:=kU ok (.inl e)
theorem m9 {ks:List aD} (ok:b9 P w H h) (e:H a=some (.tup (ks.map kV))):(tupleKind (e8 P w)).is h ks a:=by
 obtain ⟨_,its,r,⟨o,h1,h2,n,h3⟩,_⟩:=(show aZ P w H h a (.tup (ks.map kV)) from ok a _ e)
 exact⟨o,its.toArray,n,h1,h2,h3,by simpa using v9 r⟩
theorem mB {kvs:List (List aD × V)} (ok:b9 P w H h) (e:Rd H a (.dT kvs)):kvs.length<=sizeLine/\(a == sysModules)=false/\
  ∃ xs,KT H kvs xs/\h.DictOfH (tupleKind (e8 P w)) a xs:=by
 obtain ⟨z,y,xs,r,o,es,ep,h1,h2,h3,h4,h5⟩:=(show aZ P w H h a (.dT kvs) from vA ok e)
 refine⟨z,y,xs,r,o,es,ep,h1,h2,h3,h4,fun x hx=>?_,h5⟩
 have all:∀ {l:List (List aD × V)}{m:List (List aD × Addr × Value)},KT H l m->∀ x ∈ m,(tupleKind (e8 P w)).is h x.1 x.2.1:=by
  intro l m q
  induction q with
  | nil=>intro x hx; exact nomatch hx
  | @cons p q ps qs hq t ih=>
   intro x hx
   rcases aw7.mp hx with e | hx
   ·subst e
    exact m9 ok (by rw [<- hq.1]; exact hq.2.1)
   ·exact ih x hx
 exact all r x hx
theorem P6 {kvs:List (List aD × V)} (ok:b9 P w H h) (e:H a=some (.dT kvs)):kvs.length<=sizeLine/\(a == sysModules)=false/\
  ∃ xs,KT H kvs xs/\h.DictOfH (tupleKind (e8 P w)) a xs:=mB ok (.inl e)
end
def eS (H:Hp) (a:Addr) (y:V) (r:Option V):Prop:=
 (∃ kvs k,Rd H a (.dK kvs)/\y=kV k/\r=dF kvs k) ∨ ∃ kvs k b,Rd H a (.dT kvs)/\y = .ref b/\H b=some (.tup (k.map kV))/\r=dF kvs k
def iA (H:Hp) (a:Addr) (y v:V) (H':Hp):Prop:=
 (∃ kvs k,H a=some (.dK kvs)/\y=kV k/\kvs.length < sizeLine/\H'=upd H a (.dK (dG kvs k v))) ∨
 ∃ kvs k b,H a=some (.dT kvs)/\y = .ref b/\H b=some (.tup (k.map kV))/\kvs.length < sizeLine/\H'=upd H a (.dT (dG kvs k v))
theorem eS.k {H:Hp}{a:Addr}{kvs:List (aD × V)}{k:aD} (e:H a=some (.dK kvs)):eS H a (kV k) (dF kvs k):=.inl ⟨kvs,k,.inl e,rfl,rfl⟩
theorem eS.t {H:Hp}{a b:Addr}{kvs:List (List aD × V)}{k:List aD} (e:H a=some (.dT kvs)) (eb:H b=some (.tup (k.map kV))):eS H a (.ref b) (dF kvs k):=.inr ⟨kvs,k,b,.inl e,rfl,eb,rfl⟩
theorem iA.k {H:Hp}{a:Addr}{kvs:List (aD × V)}{k:aD}{v:V} (e:H a=some (.dK kvs)) (hl:kvs.length < sizeLine):iA H a (kV k) v (upd H a (.dK (dG kvs k v))):=.inl ⟨kvs,k,e,rfl,hl,rfl⟩
theorem iA.t {H:Hp}{a b:Addr}{kvs:List (List aD × V)}{k:List aD}{v:V} (e:H a=some (.dT kvs)) (eb:H b=some (.tup (k.map kV))) (hl:kvs.length < sizeLine) :
  iA H a (.ref b) v (upd H a (.dT (dG kvs k v))):=.inr ⟨kvs,k,b,e,rfl,eb,hl,rfl⟩
section
variable {X : Cx} {pins : List (Addr × Obj)} {σ : St} {H : Hp} {s : Shared} {a : Addr} {y v : V} {u r : Value} {o : Option V} {A : Around} {E : Value → Shared → Prop}
theorem a5.big (I:a5 X pins σ H s):sysModules < s.heap.objs.size:=by
 have h:mainGlobals < s.heap.objs.size:=(I.mod.glob.keeps I.bk).lt
 exact Nat.lt_trans (by decide) h
theorem P7 {Q:Value->Shared->Prop} (hu:A.units+1 < cLine) (I:a5 X pins σ H s) (g:eS H a y (some v)) (ry:aN y u) (h:∀ w' s',a5 X pins σ H s'->aN v w'->Q w' s') :
  wpAny (model X.prog X.w) A (getItem (.ref a) u) Q E s:=by
 rcases g with ⟨kvs,k,e,ey,l⟩ | ⟨kvs,k,b,e,ey,eb,l⟩
 ·subst ey
  obtain ⟨z,hd,vs,rel,dd⟩:=kU I.hok e
  obtain ⟨w',hw,rw'⟩:=fC.some_of (v:=v) (o:=valueAt vs k) (by rw [l]; exact rel.val k)
  exact wpAny_getItem_of (m8 ry) dd.mapOf hw (h w' _ (I.tok _) rw')
 ·subst ey
  cases (show u=Value.ref b from ry)
  obtain ⟨z,hd,xs,rel,dd⟩:=mB I.hok e
  obtain ⟨w',hw,rw'⟩:=fC.some_of (v:=v) (o:=(atKey xs k).map (·.2)) (by rw [l]; exact rel.val k)
  obtain ⟨p,hp,hp2⟩:=Option.map_eq_some_iff.mp hw
  refine wpAny_getItem_heap (tupleKind_room_in1 hu) (m9 I.hok eb) dd hp ?_
  rw [hp2]
  exact h w' _ (I.tok _) rw'
theorem P8 {Q:Value->Shared->Prop} (hu:A.units+1 < cLine) (I:a5 X pins σ H s) (g:eS H a y o) (ry:aN y u) (h:∀ s',a5 X pins σ H s'->Q (.bool o.isSome) s') :
  wpAny (model X.prog X.w) A (compareOp .In u (.ref a)) Q E s:=by
 rcases g with ⟨kvs,k,e,ey,l⟩ | ⟨kvs,k,b,e,ey,eb,l⟩
 ·subst ey
  obtain ⟨z,hd,vs,rel,dd⟩:=kU I.hok e
  refine wpAny_in_of (m8 ry) hd dd.mapOf ?_
  rw [<- (rel.val k).isSome_eq,<- l]
  exact h _ (I.tok _)
 ·subst ey
  cases (show u=Value.ref b from ry)
  obtain ⟨z,hd,xs,rel,dd⟩:=mB I.hok e
  refine wpAny_in_heap (tupleKind_room_in1 hu) (m9 I.hok eb) hd dd ?_
  have q:=(rel.val k).isSome_eq
  rw [Option.isSome_map] at q
  rw [<- q,<- l]
  exact h _ (I.tok _)
theorem vB {h':Heap}{t':Nat}{ob:HO} (I:a5 X pins σ H s) (mu:k8 (H a)) (hs:Heap.SameBut a s.heap h') (he:∃ q,h'.get? a=some q) (new:aZ X.prog X.w (upd H a ob) h' a ob) :
  a5 X pins σ (upd H a ob) { s with heap:=h',toks:=t' }:=
 I.write (x:=a) (e:=a) mu (.inl rfl) (fun b q hb z=>(hs.2 b hb).trans z) he new
theorem P9 {P:Program}{w:World}{H':Hp}{h':Heap}{kvs:List (aD × V)}{vs:List (aD × Value)} (z:kvs.length<=sizeLine) (hd:(a == sysModules)=false) (rel:KV kvs vs) (dd:h'.DictOf (e8 P w) a vs) :
  aZ P w H' h' a (.dK kvs):=⟨z,hd,vs,rel,dd⟩
theorem Q0 {H':Hp}{Q:Unit->Shared->Prop} (hu:A.units+1 < cLine) (I:a5 X pins σ H s) (g:iA H a y v H') (ry:aN y u) (rv:aN v r) (h:∀ s',a5 X pins σ H' s'->Q () s') :
  wpAny (model X.prog X.w) A (setItem (.ref a) u r) Q E s:=by
 rcases g with ⟨kvs,k,e,ey,l,eH⟩ | ⟨kvs,k,b,e,ey,eb,l,eH⟩
 ·subst ey eH
  obtain ⟨z,hd,vs,rel,dd⟩:=P5 I.hok e
  have hz:vs.length<=sizeLine:=by rw [<- rel.length]; exact z
  have hl:(dG kvs k v).length<=sizeLine:=by have:=v8 kvs k v; omega
  refine wpAny_setItem_pairs (hsz:=hz) (m8 ry) dd fun h' dd' hs=>h _ ?_
  have he:∃ q,h'.get? a=some q:=let ⟨q,_,_,hq,_⟩:=dd'; ⟨q,hq⟩
  exact vB I (by rw [e]; exact True.intro) hs he (P9 hl hd (rel.put k rv) dd')
 ·subst ey eH
  cases (show u=Value.ref b from ry)
  obtain ⟨z,hd,xs,rel,dd⟩:=P6 I.hok e
  have hz:xs.length<=sizeLine:=by rw [<- Paired.length rel]; exact z
  have hl:(dG kvs k v).length<=sizeLine:=by have:=v8 kvs k v; omega
  refine wpAny_setItem_heap (hsz:=hz) (tupleKind_room_in1 hu) (m9 I.hok eb) dd fun h' dd' hs=>h _ ?_
  obtain ⟨q,es,ep,hq,h2,h3,h4,_,h5⟩:=dd'
  refine vB I (by rw [e]; exact True.intro) hs ⟨q,hq⟩ ⟨hl,hd,_,(rel.put k eb rv).keeps fun c ys ec=>?_,q,es,ep,hq,h2,h3,h4,h5⟩
  rw [aB (E1 ec e (fun z=>nomatch z))]
  exact ec
end
section
variable {X : Cx} {pins : List (Addr × Obj)} {σ : St} {H : Hp} {s : Shared} {a : Addr} {kvs : List (aD × V)} {k : aD} {u : Value} {A : Around} {E : Value → Shared → Prop}
theorem Q2 {Q:Value->Shared->Prop} (I:a5 X pins σ H s) (e:Rd H a (.dK kvs)) (h:∀ t s',a5 X pins σ H s'->Q (.int kvs.length t) s'):wpAny (model X.prog X.w) A (call (.builtin "len") [.ref a]) Q E s:=by
 obtain ⟨z,hd,vs,rel,dd⟩:=kU I.hok e
 refine call_len_dict hd dd (by rw [<- rel.length]; rw [sizeLine_eq] at z; omega) ?_
 rw [<- rel.length]
 exact h _ _ (I.tok _)
end
def pP (i:Expr):Prop:=∀ ov iv,subscripted i false ov iv=operate [ov,iv] (getItem ov iv)
theorem Q3 {prog:Program}{w:World}{A:Around}{E:Value->Shared->Prop}{s:Shared}{env:Env}{value slice:Expr}{pos:Pos}{T id:String}{Q:Value->Shared->Prop}
  (hl:typeLookup (.type T) "__getitem__" = pure (some (.builtin id))) (hs:pP slice)
  (h:wpAny (model prog w) A (eval value env) (fun o s₁=>wpAny (model prog w) A (eval slice env) (fun i s₂=>s₂.TypeIs o T/\wpAny (model prog w) A (getItem o i) Q E s₂) E s₁) E s) :
  wpAny (model prog w) A (eval (.Subscript value slice pos) env) Q E s:=by
 refine Subscript_ (aB5 h (fun o s₁ h₁=>aB5 h₁ (fun i s₂ h₂=>?_) fun _ _ x=>x) fun _ _ x=>x)
 obtain ⟨hT,h₂⟩:=h₂
 unfold subscriptTail
 refine aw1 ?_
 rw [getitemInPython_of_ne hT.not_modules]
 refine aw1 (wpAny_specialOf hT hl ?_)
 have fin:wpAny (model prog w) A (subscripted slice false o i) (fun r s₃=>wpAny (model prog w) A (letTemporaryGo value o r >>= fun _=>pure r) Q E s₃) E s₂:=by
  rw [hs o i]
  exact wpAny_operating (aB5 h₂ (fun r s₃ h₃=>aw1 (wpAny_letTemporaryGo (aw5 h₃))) fun _ _ x=>x)
 first
  | exact aw5 (aw1 fin)
  | exact aw1 (aw5 (aw1 fin))
  | exact aw1 fin
theorem Q4 {X:Cx}{pins:List (Addr × Obj)}{σ:St}{H:Hp}{s:Shared}{a:Addr}{y:V}{o:Option V} (I:a5 X pins σ H s) (g:eS H a y o):s.TypeIs (.ref a) "dict":=by
 rcases g with ⟨kvs,k,e,_,_⟩ | ⟨kvs,k,b,e,_,_,_⟩
 ·obtain ⟨_,_,vs,_,dd⟩:=kU I.hok e
  exact dd.typeIs
 ·obtain ⟨_,_,xs,_,dd⟩:=mB I.hok e
  exact dd.typeIs
def vC (td ty:TE):TE:=fun σ H Q=>td σ H fun x H1=>ty σ H1 fun y H2=>∃ a v,x = .ref a/\eS H2 a y (some v)/\Q v H2
def vD (ty td:TE):TE:=fun σ H Q=>ty σ H fun y H1=>td σ H1 fun x H2=>∃ a o,x = .ref a/\eS H2 a y o/\Q (.bl o.isSome) H2
def pQ (td ty tv:TE):TS:=fun D σ H=>tv σ H fun v H1=>td σ H1 fun x H2=>ty σ H2 fun y H3=>∃ a H4,x = .ref a/\iA H3 a y v H4/\D.nx σ H4
section
variable {X : Cx} {o i e value : Expr} {pos pos' tpos : Pos} {td ty tv : TE}
theorem Q5 (hu:X.A.units+1 < cLine) (ho:PE X o td) (hi:PE X i ty) (hs:pP i):PE X (.Subscript o i pos) (vC td ty):=by
 intro pins s σ H Q I h
 refine Q3 PySem.F.slot_dict_getitem.lookup hs (aJ (ho pins s σ H _ I h) fun u s1 ⟨x,H1,I1,rx,q1⟩=>aJ (hi pins s1 σ H1 _ I1 q1) fun iv s2 ⟨y,H2,I2,ry,a,v,ex,g,q2⟩=>?_)
 subst ex
 obtain rfl:u=Value.ref a:=rx
 exact⟨Q4 I2 g,P7 hu I2 g ry fun w' s3 I3 rw'=>⟨v,H2,I3,rw',q2⟩⟩
theorem Q6 (hu:X.A.units+1 < cLine) (hi:PE X i ty) (ho:PE X o td):PC X .In i o (vD ty td):=by
 intro pins s σ H Q I h
 refine aJ (hi pins s σ H _ I h) fun iv s1 ⟨y,H1,I1,ry,q1⟩=>aJ (ho pins s1 σ H1 _ I1 q1) fun u s2 ⟨x,H2,I2,rx,a,ov,ex,g,q2⟩=>?_
 subst ex
 obtain rfl:u=Value.ref a:=rx
 exact P8 hu I2 g ry fun s3 I3=>⟨.bl ov.isSome,H2,I3,rfl,q2⟩
theorem vE (hu:X.A.units+1 < cLine) (ho:PE X o td) (hi:PE X i ty) (hv:PE X value tv) (hs:swapsWith value (some (.Subscript o i pos')) pos.line X.env=pure false) :
  PS X (.Assign [.Subscript o i pos'] value pos) (pQ td ty tv):=by
 intro pins s σ H D I h
 refine wpAny_Assign_Subscript (aJ (hv pins s σ H _ I h) fun r s1 ⟨v,H1,I1,rv,q1⟩=>aJ (ho pins s1 σ H1 _ I1 q1) fun u s2 ⟨x,H2,I2,rx,q2⟩=>aJ (hi pins s2 σ H2 _ I2 q2) fun iv s3 ⟨y,H3,I3,ry,a,H4,ex,g,q3⟩=>?_) hs
 subst ex
 obtain rfl:u=Value.ref a:=rx
 exact Q0 hu I3 g ry rv fun s4 I4=>⟨σ,H4,I4,q3⟩
end
theorem Q7 {P:Program}{w:World}{H:Hp} (h:Heap) (hb:sysModules < h.objs.size):aZ P w H (h.push { cls:=.type "dict",data:=.dict #[] }) h.objs.size (.dK []):=
 ⟨az7 _,beq_eq_false_iff_ne.mpr (Ne.symm (ay8 hb)),[],.nil,Heap.DictOf.new h⟩
theorem Q8 {P:Program}{w:World}{H:Hp} (h:Heap) (hb:sysModules < h.objs.size):aZ P w H (h.push { cls:=.type "dict",data:=.dict #[] }) h.objs.size (.dT []):=
 ⟨az7 _,beq_eq_false_iff_ne.mpr (Ne.symm (ay8 hb)),[],.nil,_,#[],0,ax5 _ rfl,⟨rfl,rfl,rfl⟩,rfl,rfl,List.nodup_nil⟩
def vF:TE:=fun _ H Q=>∀ p,H p=none->Q (.ref p) (upd H p (.dK []))
def vG:TE:=fun _ H Q=>∀ p,H p=none->Q (.ref p) (upd H p (.dT []))
section
variable {X : Cx} {pos : Pos}
theorem Q9:PE X (.Dict [] [] pos) vF:=fun pins s σ H Q I h=>
 wpAny_Dict_empty ⟨.ref s.heap.objs.size,_,I.laid (a:=s.heap.objs.size) (o:=.dK []) (t':=s.toks) (fun _ _ q=>aw2 _ q) (aw6 _) (Q7 s.heap I.big),rfl,h _ (I.hok.fresh (aw6 _))⟩
theorem R3:PE X (.Dict [] [] pos) vG:=fun pins s σ H Q I h=>
 wpAny_Dict_empty ⟨.ref s.heap.objs.size,_,I.laid (a:=s.heap.objs.size) (o:=.dT []) (t':=s.toks) (fun _ _ q=>aw2 _ q) (aw6 _) (Q8 s.heap I.big),rfl,h _ (I.hok.fresh (aw6 _))⟩
end
structure M2 (X:Cx) (o:Expr) (m:Str) (apos:Pos) (e f:Expr) (cpos:Pos):Prop where
 base:attributeBase o m X.env (eval o X.env)=eval o X.env
 few:((backTo cpos (starEach [e,f] X.env)).all (fun x=>!x.1) && (backToKw cpos (keywordEach [] X.env)).all (fun x=>x.1.isSome)
  && decide (([e,f]:List Expr).length+([]:List Keyword).length+(if ([]:List Keyword).isEmpty then 0 else 1) < 30))=true
 line:(apos.endLine == cpos.line)=true
 trees:backTo cpos (starEach [e,f] X.env) = [(false,eval e X.env),(false,eval f X.env)]
end L2
namespace Att
open PySem PySem.W PySem.Calls PyProof.Rows
theorem R4 {P:Params}{h:Heap}:∀ (ns:List Int) (vs:List Value),WellAll P h vs (ns.map WData.int)->IntsAre vs ns:=by
 intro ns
 induction ns with
 | nil=>
  intro vs w
  rw [List.map_nil] at w
  cases w
  exact .nil
 | cons n ns ih=>
  intro vs w
  rw [aA0] at w
  cases w with
  | cons a b=>
   cases a
   exact .cons _ _ (ih _ b)
theorem vH {l:OpenLaw}{n:Nat} (hn:l.most=some n) {P:Params}{h:Heap}{args:List WData}{vals:List Value}
  (hpre:l.row.toRowW.claim.pre args=true) (hwl:WellAll P h vals args) :
  ∃ a vs ns,vals = [Value.ref a]/\args = [WData.list (ns.map WData.int)]/\h.get? a=some { cls:=.type "list",data:=.seq vs.toArray }/\IntsAre vs ns/\ns.length<=n:=by
 have hsh:WShape.hasAll [] args [.list .int]=true:=(pre_splitW hpre).1
 have hc:l.pre.holds [] { args:=args }=true:=(pre_splitW hpre).2
 obtain ⟨d,r,rfl,h1,h2⟩:=hasAllW_cons hsh
 obtain rfl:=hasAllW_nil h2
 obtain ⟨xs,rfl,h3⟩:=hasW_list h1
 obtain ⟨ns,rfl⟩:=items_int h3
 have hlen:ns.length<=n:=by
  unfold OpenLaw.pre at hc
  have h4:(WTm.not (.lt (.lit (.int (n:Int))) (.len (.arg 0)))).holds [] { args:=[.list (ns.map .int)] }=true:=by
   have h4:=(holds_andW hc).1
   rw [hn] at h4
   exact h4
  have h5:=condW_of h4 (w_not (w_lt w_lit (w_len_list (w_arg rfl))))
  rw [aw9] at h5
  refine aF9 fun q=>?_
  have q':(n:Int) < ((ns.length:Nat):Int):=by omega
  first
   | (rw [ay0 q'] at h5; exact absurd h5 (by decide))
   | (simp at h5; omega)
 cases hwl with
 | cons w1 w2=>
  cases w2
  cases w1 with
  | list ho hall=>exact⟨_,_,ns,rfl,rfl,ho,R4 ns _ hall,hlen⟩
theorem vI (l:OpenLaw) (args:List WData):l.row.toRowW.claim.post args (.bool true) args=true:=
 postW_of (r:=l.row.toRowW) (X:=(true == true))
  (show WShape.has [] (.bool true) .bool=true by first | rfl | decide | simp [WShape.has,WShape.arms,WShape.armsAll])
  (show (WTm.eq .res (.lit (.bool true))).value [] { args:=args,res:=some (.bool true),after:=args }=some (.bool (true == true)) from w_eq_bool (w_res rfl) w_lit) rfl
theorem av8 {l:OpenLaw}{n:Nat}{q:Program}{loose:List Str}{XP:(Str->Option Value)->Heap->Prop}{YP:World->Heap->Prop}{d:DefRec}{x:Str}
  (hn:l.most=some n) (hdf:d.params.defaults = [])
  (hbind:∀ pm cd doc v:Value,bindArgs (docDef d.name d.params d.body d.scope pm cd doc) ⟨[v],[]⟩=pure [(x,v)])
  (hx:d.scope.names.lookup x=some .local ∨ d.scope.names.lookup x=some .cell)
  (hk:d.scope.kind = .function) (hco:d.scope.isCoroutine=false) (hgen:d.scope.isGenerator=false)
  (body:∀ (w:World) (s₀ s₁ s:Shared) (mg mb:Str->Option Value) (fa:Addr) (o:Obj) (pm cd doc:Value) (a:Addr) (vs:List Value) (ns:List Int),
   Ground q loose [] XP w s₀ mg mb s₁.heap->YP w s₁.heap->
   s₁.heap.get? fa=some o->o.data = .func (docDef d.name d.params d.body d.scope pm cd doc)->s₁.heap.CodeRec cd d.name->mg d.name=some (.ref fa)->
   s₁.heap.get? a=some { cls:=.type "list",data:=.seq vs.toArray }->IntsAre vs ns->ns.length<=n->
   s.gens = #[]->s.os=s₁.os->
   Fr s₁.heap s₁.heap.objs.size s.heap (bindL (envOfC d.name d.scope s₁.heap.objs.size fa cd).kindOf [(x,.ref a)] fun _=>none)->
   Cl s₁.heap.objs.size (cellsFrom (s₁.heap.objs.size+1) d.scope.names []) s.heap (bindC (envOfC d.name d.scope s₁.heap.objs.size fa cd).kindOf [(x,.ref a)] fun _=>none)->
   wpAny (model l.prog w) (callerA.deeper (envOfC d.name d.scope s₁.heap.objs.size fa cd)) (execs d.body (envOfC d.name d.scope s₁.heap.objs.size fa cd))
    (fun f s'=>f = .ret (.bool true)/\OldK s₁.heap s'.heap/\s'.os=s₁.os/\AllBare s'.gens) (fun _ _=>False) s) :
  WalkO q loose XP YP l.row.toRowW d [] (fun f vs=>PySem.call f vs):=by
 intro w s₀ s₁ mg mb G Y fa o pm cd doc dV kV ho hd hcd hD hmg hg args vals as hpre hlay hrd hwl hlo
 obtain rfl:dV = .none:=Dflts.none hD hdf
 obtain rfl:kV = .none:=Dflts.noKw hD
 obtain ⟨a,vs,ns,rfl,rfl,hobj,hints,hlen⟩:=vH hn hpre hwl
 refine enter_call ?_
 refine call_cells_ret (o:=o) (by rw [depth_caller]; decide) ho (fd_plain hd) G.T.nolimit hcd (hbind pm cd doc (.ref a)) (fun y hy=>?_) (fun h₁ tk F X=>?_) hco hgen hk
 ·obtain rfl:y=(x,Value.ref a):=ay2.mp hy
  rcases hx with e | e
  ·exact .inl e
  ·exact .inr ⟨e,cellsFrom_some _ _ _ (.inl e)⟩
 ·refine aB5 (body w s₀ s₁ { s₁ with heap:=h₁,toks:=tk } mg mb fa o pm cd doc a vs ns G Y ho (fd_plain hd) hcd hmg hobj hints hlen hg rfl F X) (fun f s' hq=>?_) (fun _ _ hq=>hq)
  obtain ⟨rfl,h2,h3,h4⟩:=hq
  exact⟨.inl ⟨.bool true,.bool true,[],rfl,fun _=>rfl,.bool true,vI l _,fun _=>⟨List.Pairwise.nil,fun _ hm=>(nomatch hm)⟩⟩,h2,h3,h4⟩
theorem R5 {l:OpenLaw}{n:Nat}{q:Program}{loose:List Str}{XP:(Str->Option Value)->Heap->Prop}{YP:World->Heap->Prop}{d:DefRec}
  (hn:l.most=some n) (hdf:d.params.defaults = [])
  (call:∀ (w:World) (s₀ s₁:Shared) (mg mb:Str->Option Value) (fa:Addr) (o:Obj) (pm cd doc:Value) (a:Addr) (vs:List Value) (ns:List Int),
   Ground q loose [] XP w s₀ mg mb s₁.heap->YP w s₁.heap->
   s₁.heap.get? fa=some o->o.data = .func (docDef d.name d.params d.body d.scope pm cd doc)->s₁.heap.CodeRec cd d.name->mg d.name=some (.ref fa)->
   s₁.heap.get? a=some { cls:=.type "list",data:=.seq vs.toArray }->IntsAre vs ns->ns.length<=n->s₁.gens = #[]->
   codeAny (model l.prog w) callerA (.call (.ref fa) ⟨[.ref a],[]⟩) (fun r s'=>r = .ok (.ret (.bool true))/\OldK s₁.heap s'.heap/\s'.os=s₁.os/\AllBare s'.gens) s₁) :
  WalkO q loose XP YP l.row.toRowW d [] (fun f vs=>PySem.call f vs):=by
 intro w s₀ s₁ mg mb G Y fa o pm cd doc dV kV ho hd hcd hD hmg hg args vals as hpre hlay hrd hwl hlo
 obtain rfl:dV = .none:=Dflts.none hD hdf
 obtain rfl:kV = .none:=Dflts.noKw hD
 obtain ⟨a,vs,ns,rfl,rfl,hobj,hints,hlen⟩:=vH hn hpre hwl
 refine enter_call (codeAny_mono (call w s₀ s₁ mg mb fa o pm cd doc a vs ns G Y ho (fd_plain hd) hcd hmg hobj hints hlen hg) fun r s' hq=>?_)
 obtain ⟨rfl,h2,h3,h4⟩:=hq
 exact⟨.inl ⟨.bool true,.bool true,[],rfl,fun _=>rfl,.bool true,vI l _,fun _=>⟨List.Pairwise.nil,fun _ hm=>(nomatch hm)⟩⟩,h2,h3,h4⟩
end Att
namespace L2
open PySem PySem.Spec PyProof.Rows
theorem vJ:∀ {vs:List Value}{ns:List Int},IntsAre vs ns->aL (ns.map V.int) vs
 | _,_,.nil=>.nil
 | _,_,.cons n t h=>.cons ⟨t,rfl⟩ (vJ h)
def mC (H:Hp):Prop:=∀ b,H b=none ∨ ∃ o xs,H b=some (.frz o (.lst xs))
theorem R6 {P:Program}{w:World}{K:PySem.W.Frag}{mg mb:Str->Option Value}{CX:eQ}{k:Nat}{fa a:Addr}{fd:FuncData}{x:Str}{sp:Sp}{s₁:Shared}{vs:List Value}{ns:List Int}
  (KX:K.In s₁.heap) (hns:s₁.heap.Ns mainGlobals mg) (hb:s₁.heap.Ns builtinsNs mb) (hbb:∀ x:Str,x ≠ "__name__"->mb x=bootBuiltins x) (hlim:s₁.heap.NoLimit) (hg:s₁.gens = #[])
  (ha:s₁.heap.get? a=some { cls:=.type "list",data:=.seq vs.toArray }) (hi:IntsAre vs ns) (hl:ns.length<=sizeLine) (hr:bD k callerA)
  (F:∀ base:Heap,K.In base->base.Ns mainGlobals mg->bZ P w K mg base CX k fa fd [x] sp) (hbind:∀ (s:Shared) (u:Value),BindsTo s fd ⟨[u],[]⟩ [(x,u)])
  (hsp:∀ H:Hp,mC H->aH K H a (ns.map V.int)->sp [.ref a] H (fun v _=>v = .bl true) fun _ _ _=>False)
  (hCX:∀ H e s',CX [] H s₁ (fun _ _ _=>False) e s'->False) :
  codeAny (model P w) callerA (.call (.ref fa) ⟨[.ref a],[]⟩) (fun r s'=>r = .ok (.ret (.bool true))/\OldK s₁.heap s'.heap/\s'.os=s₁.os/\AllBare s'.gens) s₁:=by
 have rv:=vJ hi
 have lenV:=hi.length
 have core:∀ H:Hp,mC H->aH K H a (ns.map V.int)->b9 P w H s₁.heap->(∀ b,H b ≠ none->b=a)->(H a ≠ none->K.lookup a=none)->
   codeAny (model P w) callerA (.call (.ref fa) ⟨[.ref a],[]⟩) (fun r s'=>r = .ok (.ret (.bool true))/\OldK s₁.heap s'.heap/\s'.os=s₁.os/\AllBare s'.gens) s₁:=by
  intro H hO hS hok hA hK
  have base_of:∀ {b:Addr}{o:Obj},s₁.heap.get? b=some o->H b=none->(gH s₁.heap H).get? b=some o:=fun e n=>E3 e n
  have noA:∀ {b:Addr}{o:Obj}{es:Array DictEntry}{ep:Nat},s₁.heap.get? b=some o->o.data = .dict es ep->H b=none:=fun {b o es ep} e d=>by
   cases q:H b with
   | none=>rfl
   | some u=>
    have e':b=a:=hA b (by rw [q]; simp)
    subst e'
    rw [ha] at e; cases e
    have d':Data.seq vs.toArray _=Data.dict es ep:=d
    cases d'
  have nsK:∀ {b:Addr}{m:Str->Option Value},s₁.heap.Ns b m->(gH s₁.heap H).Ns b m:=fun {b m} ⟨o,es,ep,e,d,r⟩=>⟨o,es,ep,base_of e (noA e d),d,r⟩
  have hKb:K.In (gH s₁.heap H):=fun b o e=>base_of (KX b o e) (by
   cases q:H b with
   | none=>rfl
   | some u=>
    have e':b=a:=hA b (by rw [q]; simp)
    subst e'
    rw [hK (by rw [q]; simp)] at e; cases e)
  have hM:Mod K mg (gH s₁.heap H):=⟨hKb,nsK hns,⟨mb,nsK hb,hbb⟩,let ⟨mc,h1,h2⟩:=hlim; ⟨mc,nsK h1,h2⟩⟩
  have e0:m5 P w K mg (gH s₁.heap H) callerA [] s₁ H:=⟨rfl,hM,fun b o e=>E4 e,Nat.le_of_eq (E2 _ _),trivial,fun b hb=>absurd (show b ∈ ([]:List Addr) from hb) (by simp),hok,.of_eq hg⟩
  refine codeAny_mono ((F _ hKb (nsK hns)).run callerA [] s₁ H ⟨[.ref a],[]⟩ [.ref a] [.ref a] _ _ hr e0 (hbind s₁ (.ref a)) (.cons rfl .nil) (hsp H hO hS)) fun r s' h=>?_
  cases r with
  | error e=>exact (hCX H e s' h).elim
  | ok fl=>
   cases fl with
   | next=>exact False.elim h
   | brk=>exact False.elim h
   | cont=>exact False.elim h
   | ret u=>
    obtain ⟨v,H',os,bare,un,hok',r',q⟩:=h
    have q':v = .bl true:=q
    subst q'
    obtain rfl:u=Value.bool true:=r'
    refine⟨rfl,OldK.of_keep fun b o e=>?_,os,bare⟩
    cases q:H b with
    | none=>exact un.keep b o e q (by intro z; exact absurd (show b ∈ ([]:List Addr) from z) (by simp)) (by simp)
    | some u=>
     rcases hO b with z | ⟨ob,xs,z⟩
     ·rw [q] at z; cases z
     ·have z2:=un.frzs b ob _ z
      obtain ⟨e1,_⟩:=hok b _ z
      obtain ⟨e2,_⟩:=hok' b _ z2
      rw [e] at e1; cases e1
      exact e2
 cases hk:K.lookup a with
 | some o=>
  have e:=KX a o hk
  rw [ha] at e
  cases e
  refine core (fun _=>none) (fun _=>.inl rfl) (.inr ⟨_,vs.toArray,_,hk,rfl,rfl,rfl,by rw [aw4,lenV]; exact hl,by simpa using rv⟩) (fun b u z=>by have z':(none:Option HO)=some u:=z; cases z') (fun b z=>absurd rfl z) fun z=>absurd rfl z
 | none=>
  refine core (fun b=>if b=a then some (.frz { cls:=.type "list",data:=.seq vs.toArray } (.lst (ns.map V.int))) else none) (fun b=>?_) (.inl (.inr ⟨{ cls:=.type "list",data:=.seq vs.toArray },if_pos rfl⟩)) (fun b u z=>?_) (fun b z=>?_) fun _=>hk
  ·by_cases hb:b=a
   ·exact .inr ⟨_,_,if_pos hb⟩
   ·exact .inl (if_neg hb)
  ·by_cases hb:b=a
   ·have z':=(if_pos hb).symm.trans z
    cases z'
    subst hb
    exact⟨ha,by rw [aw9]; exact hl,vs,_,rv,ha⟩
   ·have z':=(if_neg hb).symm.trans z
    cases z'
  ·by_cases hb:b=a
   ·exact hb
   ·exact absurd (if_neg hb) z
theorem R7 {l:PySem.W.OpenLaw}{n k:Nat}{q:Program}{loose:List Str}{XP:(Str->Option Value)->Heap->Prop}{YP:World->Heap->Prop}{d:DefRec}{K:Params->PySem.W.Frag}{CX:World->eQ}{sp:World->Sp}{x:Str}
  (hn:l.most=some n) (hn2:n<=sizeLine) (hdf:d.params.defaults = []) (hr:bD k callerA)
  (hY:∀ (w:World) (h:Heap),YP w h->(K w.params).In h)
  (F:∀ (w:World) (mg:Str->Option Value) (fa:Addr) (h:Heap),(K w.params).In h->h.Ns mainGlobals mg->mg d.name=some (.ref fa)->
   ∃ fd:FuncData,(∀ (s:Shared) (u:Value),BindsTo s fd ⟨[u],[]⟩ [(x,u)])/\
    ∀ base:Heap,(K w.params).In base->base.Ns mainGlobals mg->bZ l.prog w (K w.params) mg base (CX w) k fa fd [x] (sp w))
  (hsp:∀ (w:World) (H:Hp) (a:Addr) (ns:List Int),ns.length<=n->mC H->aH (K w.params) H a (ns.map V.int)->sp w [.ref a] H (fun v _=>v = .bl true) fun _ _ _=>False)
  (hCX:∀ (w:World) (H:Hp) (s:Shared) (e:Value) (s':Shared),CX w [] H s (fun _ _ _=>False) e s'->False) :
  PySem.W.WalkO q loose XP YP l.row.toRowW d [] (fun f vs=>PySem.call f vs):=by
 refine Att.R5 hn hdf fun w s₀ s₁ mg mb fa o pm cd doc a vs ns G Y ho hd hcd hmg hobj hints hlen hg=>?_
 have KX:=hY w _ Y
 obtain ⟨fd,hb,hF⟩:=F w mg fa _ KX G.T.g hmg
 exact R6 KX G.T.g G.T.b G.T.builtins G.T.nolimit hg hobj hints (aA3 hlen hn2) hr hF hb (fun H hO hS=>hsp w H a ns hlen hO hS) fun H e s'=>hCX w H s₁ e s'
def gO (s:Stmt):Arguments:=match s with
 | .FunctionDef _ a _ _ _ _ _ _ _ _=>a
 | _=>{ posonlyargs:=[],args:=[],vararg:=none,kwonlyargs:=[],kw_defaults:=[],kwarg:=none,defaults:=[] }
def dA (s:Stmt):List Stmt:=match s with
 | .FunctionDef _ _ b _ _ _ _ _ _ _=>b
 | _=>[]
def aT (s:Stmt):Scope:=match s with
 | .FunctionDef _ _ _ _ _ _ sc _ _ _=>sc
 | _=>{ kind:=.function,names:=[],isGenerator:=false,isCoroutine:=false }
abbrev cP:eQ:=fun _ _ _ _ _ _=>False
abbrev E0:XK:=fun _ _ _=>False
theorem R8 {X:Cx}:kL cP X E0:=fun _ _ _ _ _ _ _ h=>h.elim
structure dH (K:PySem.W.Frag) (x qual:Str) (st:Stmt) (f:Addr) (fd:FuncData):Prop where
 ex:∃ (oc:Value) (od:Option Addr) (kV doc pm:Value) (an:Option Addr) (cdv ct:Value) (osl:Array (Option Value)),
  fd=PySem.W.fnOf x qual (gO st) (dA st) (aT st) .none kV doc pm an cdv ct/\K.lookup f=some ⟨oc,od,.func fd,osl⟩/\PySem.W.codeIn K cdv qual=true
 kp:PySem.W.keepIn K (.ref f)=true
section
variable {P : Program} {w : World} {K : PySem.W.Frag} {mg : Str → Option Value} {base : Heap}
theorem dH.ok {x qual:Str}{st:Stmt}{f:Addr}{fd:FuncData}{N ps:List Str}{k:Nat}{sp:Sp} (F:dH K x qual st f fd) (S:FnScope N ps (aT st)) (len:∀ vs H Q E,sp vs H Q E->vs.length=ps.length)
  (hbody:∀ (cdv:Value) (A:Around) (outer:List Env) (s:Shared) (H:Hp) (vs:List V) (Q:VK) (E:XK),bD k (A.deeper (envOfC qual (aT st) s.heap.objs.size f cdv))->sp vs H Q E->
   ∃ t,cO (cE cP P w K mg base N qual (aT st) f cdv A outer s H E).nox (dA st) t/\t { nx:=fun _ H'=>Q .non H',rt:=Q } (eR N vs) H):bZ P w K mg base cP (k+1) f fd ps sp:=by
 obtain ⟨oc,od,kV,doc,pm,an,cdv,ct,osl,rfl,lk,hcd⟩:=F.ex
 refine uN lk hcd S len fun A outer s H vs Q E hr hsp=>?_
 obtain ⟨t,h,q⟩:=hbody cdv A outer s H vs Q E hr hsp
 exact⟨t,h.nox,q⟩
theorem dH.binds {x qual:Str}{st:Stmt}{f:Addr}{fd:FuncData}{ps:List Str} (F:dH K x qual st f fd)
  (h:∀ (kV doc pm:Value) (an:Option Addr) (cdv ct:Value) (us:List Value),us.length=ps.length->bindArgs (PySem.W.fnOf x qual (gO st) (dA st) (aT st) .none kV doc pm an cdv ct) ⟨us,[]⟩=pure (ps.zip us)):fY K fd ps []:=by
 obtain ⟨oc,od,kV,doc,pm,an,cdv,ct,osl,rfl,lk,hcd⟩:=F.ex
 exact .all (h kV doc pm an cdv ct)
theorem R9 {x qual:Str}{st:Stmt}{f:Addr}{oc:Value}{od an:Option Addr}{osl:Array (Option Value)}{kV doc pm cdv ct:Value} (l:K.lookup f=some ⟨oc,od,.func (PySem.W.fnOf x qual (gO st) (dA st) (aT st) .none kV doc pm an cdv ct),osl⟩)
  (c:PySem.W.codeIn K cdv qual=true) (k:PySem.W.keepIn K (.ref f)=true):dH K x qual st f (PySem.W.fnOf x qual (gO st) (dA st) (aT st) .none kV doc pm an cdv ct):=⟨⟨oc,od,kV,doc,pm,an,cdv,ct,osl,rfl,l,c⟩,k⟩
end
theorem pR {A:Around}{k:Nat} (hr:bD k A):A.units+1 < cLine:=Nat.lt_of_le_of_lt (Nat.add_le_add_left (by decide:1<=64) _) hr.units
theorem vK {n:Nat} (h:n<=1000):n < sizeLine:=Nat.lt_of_le_of_lt h (by decide)
section
variable {X : Cx}
theorem pv (i:Nat) {x:Str}{pos:Pos} (hN:X.N[i]? = some x:=by rfl) (hv:i5 X.env.scope x:=by first | exact Or.inl rfl | exact Or.inr (Or.inl rfl) | exact Or.inr (Or.inr rfl)) (hd:(x == ("__debug__" : Str))=false:=by decide)
  (hcd:(x == ("__classdict__" : Str))=false:=by decide):PE X (.Name x pos) (i6 i):=kA hN hv hd hcd
theorem S0:cC X (.builtin "len") (fun xs H Q=>∃ a kvs,xs = [V.ref a]/\H a=some (.dK kvs)/\Q (.int kvs.length) H):=by
 intro pins s σ H xs us Q I r h
 obtain ⟨a,kvs,rfl,ha,q⟩:=h
 obtain ⟨u,rfl,ru⟩:=gL r
 cases ru
 exact Q2 I (.inl ha) fun t s' I'=>⟨.int kvs.length,H,I',⟨t,rfl⟩,q⟩
end
theorem aR {A B:Prop} (h:B):if false=true then A else B:=by
 rw [if_neg ay1]
 exact h
theorem b7 {A B:Prop} (h:A):if true=true then A else B:=by
 rw [if_pos rfl]
 exact h
def a9 (H H':Hp):Prop:=∀ b o,H b=some o->H' b=some o
theorem a9.refl (H:Hp):a9 H H:=fun _ _ h=>h
theorem a9.trans {H H1 H2:Hp} (a:a9 H H1) (b:a9 H1 H2):a9 H H2:=fun c o h=>b c o (a c o h)
theorem a9.free {H H':Hp} (e:a9 H H') {l:Addr} (h:H' l=Option.none):H l=Option.none:=by
 cases q:H l with
 | none=>rfl
 | some o=>
  rw [e l o q] at h
  cases h
theorem a9.seq {K:PySem.W.Frag}{H H':Hp}{a:Addr}{xs:List V} (e:a9 H H') (h:aH K H a xs):aH K H' a xs:=by
 rcases h with (h | ⟨o,h⟩) | h
 ·exact .inl (.inl (e _ _ h))
 ·exact .inl (.inr ⟨o,e _ _ h⟩)
 ·exact .inr h
def cX (cells:List (Str × Addr)):List (Str × NameKind)->List (Str × Addr)->List (Str × Addr)
 | [],cs=>cs
 | (n,k) :: r,cs=>cX cells r (if k == .free then (n,(cells.lookup n).getD 0) :: cs else cs)
theorem pS {env:Env}:∀ (ns:List (Str × NameKind)) (cs:List (Str × Addr)),(∀ x ∈ ns,x.2 = .free->∃ c,env.cells.lookup x.1=some c)->
  (forIn ns cs (fun (x:Str × NameKind) r=>(match x with
   | (name,kind)=>if (kind == .free)=true then (do let y <- cellOf env name; pure (ForInStep.yield ((name,y) :: r))) else pure (ForInStep.yield r)):_->_->Sem _))=(pure (cX env.cells ns cs):Sem (List (Str × Addr)))
 | [],cs,_=>by rw [List.forIn_nil]; rfl
 | (n,k) :: r,cs,h=>by
  rw [List.forIn_cons]
  have hr:∀ x ∈ r,x.2 = .free->∃ c,env.cells.lookup x.1=some c:=fun x hx=>h x (ax7 _ hx)
  cases hk:(k == NameKind.free) with
  | true=>
   have e:k = .free:=by simpa using hk
   obtain ⟨c,hc⟩:=h (n,k) ax6 e
   simp only [hk,if_true]
   have e1:cellOf env n=pure c:=by unfold cellOf; rw [hc]
   rw [e1]
   show ((pure c >>= fun y=>pure (ForInStep.yield ((n,y) :: cs))) >>= _:Sem _)=_
   rw [pure_bind,pure_bind]
   have:=pS (env:=env) r ((n,c) :: cs) hr
   refine this.trans ?_
   unfold cX
   simp only [hk,if_true,hc,Option.getD_some]
   cases r <;> rfl
  | false=>
   simp only [hk,ay3,aC4]
   rw [pure_bind]
   have:=pS (env:=env) r cs hr
   refine this.trans ?_
   conv=>rhs; unfold cX
   simp only [hk,ay3,aC4]
theorem mD {scope:Scope}{env:Env} (h:∀ x ∈ scope.names,x.2 = .free->∃ c,env.cells.lookup x.1=some c):closureFor scope env=pure (cX env.cells scope.names []):=by
 have e:=pS (env:=env) scope.names [] h
 unfold closureFor
 rw [show (pure (cX env.cells scope.names []):Sem (List (Str × Addr)))=(pure (cX env.cells scope.names []) >>= pure) by rw [pure_bind]]
 rw [<- e]
theorem mE {cells:List (Str × Addr)}:∀ (ns:List (Str × NameKind)) (cs:List (Str × Addr)) {x:Str}{c:Addr},(∀ y ∈ ns,y.2 = .free->∃ c,cells.lookup y.1=some c)->
  (∀ x c,cs.lookup x=some c->cells.lookup x=some c)->(cX cells ns cs).lookup x=some c->cells.lookup x=some c
 | [],cs,x,c,_,hc,h=>hc x c h
 | (n,k) :: r,cs,x,c,hn,hc,h=>by
  unfold cX at h
  have hr:∀ y ∈ r,y.2 = .free->∃ c,cells.lookup y.1=some c:=fun y hy=>hn y (ax7 _ hy)
  cases hk:(k == NameKind.free) with
  | false=>
   simp only [hk,ay3,aC4] at h
   exact mE r cs hr hc h
  | true=>
   simp only [hk,if_true] at h
   refine mE r _ hr (fun y d e=>?_) h
   obtain ⟨c0,h0⟩:=hn (n,k) ax6 (by simpa using hk)
   have h0:cells.lookup n=some c0:=h0
   rw [h0] at e
   rw [aB1] at e
   by_cases hyn:y=n
   ·subst hyn
    simp only [aC3,Option.getD_some] at e
    rw [h0]; exact e
   ·have:(y == n)=false:=beq_eq_false_iff_ne.mpr hyn
    simp only [this] at e
    exact hc y d e
theorem pT {cells:List (Str × Addr)}:∀ (ns:List (Str × NameKind)) (cs:List (Str × Addr)) {x:Str},((x,NameKind.free) ∈ ns ∨ ∃ c,cs.lookup x=some c)->∃ c,(cX cells ns cs).lookup x=some c
 | [],cs,x,h=>by
  rcases h with h | h
  ·simp at h
  ·exact h
 | (n,k) :: r,cs,x,h=>by
  unfold cX
  refine pT r _ ?_
  rcases h with h | ⟨c,h⟩
  ·rcases aw7.mp h with e | e
   ·cases e
    exact .inr ⟨_,by simp [aB1]; rfl⟩
   ·exact .inl e
  ·right
   cases hk:(k == NameKind.free) with
   | false=>exact⟨c,by simpa [hk] using h⟩
   | true=>
    simp only [if_true]
    rw [aB1]
    by_cases hxn:(x == n)=true
    ·simp only [hxn]; exact⟨_,rfl⟩
    ·simp only [aE2.mpr hxn]; exact⟨c,h⟩
theorem mF {env:Env}:∀ {names:List (Str × NameKind)}{x:Str}{k:NameKind},(names.map fun (n,k)=>if (k == NameKind.free && env.scope.kind == .function && env.kindOf n == some .cell) then (n,NameKind.cell) else (n,k)).lookup x=some k->
  names.lookup x=some k ∨ (names.lookup x=some .free/\k = .cell)
 | [],_,_,h=>by simp at h
 | (n,q) :: r,x,k,h=>by
  have ih:=@mF env r x k
  rw [aA0] at h
  by_cases hx:(x == n)=true
  ·have e:x=n:=by simpa using hx
   subst e
   by_cases hc:(q == NameKind.free && env.scope.kind == .function && env.kindOf x == some .cell)=true
   ·simp only [hc,if_true,aB1,aC3] at h
    have hq:q = .free:=by simp at hc; exact hc.1.1
    exact .inr ⟨by simp [aB1,hq],(ay6 h).symm⟩
   ·simp only [hc,ay3,aC4,aB1,aC3] at h
    exact .inl (by simp [aB1]; exact ay6 h)
  ·have hx':(x == n)=false:=aE2.mpr hx
   have h':(r.map fun (n,k)=>if (k == NameKind.free && env.scope.kind == .function && env.kindOf n == some .cell) then (n,NameKind.cell) else (n,k)).lookup x=some k:=by
    by_cases hc:(q == NameKind.free && env.scope.kind == .function && env.kindOf n == some .cell)=true
    ·simp only [hc,if_true,aB1,hx'] at h; exact h
    ·simp only [hc,ay3,aC4,aB1,hx'] at h; exact h
   simp only [aB1,hx']
   exact ih h'
def cQ (fr:List (Option Nat)) (σ:St):St:=fr.map fun o=>o.bind fun j=>(σ[j]?).join
def Wk (σ₁ σ₂:St):Prop:=σ₁.length=σ₂.length/\∀ (i:Nat) v,σ₁[i]? = some (some v)->σ₂[i]? = some (some v)
theorem Wk.refl (σ:St):Wk σ σ:=⟨rfl,fun _ _ h=>h⟩
theorem Wk.set {σ τ:St}{i:Nat}{v:V} (h:Wk σ τ) (hi:σ[i]? = some none):Wk σ (τ.set i (some v)):=by
 refine⟨by rw [aC0]; exact h.1,fun j w e=>?_⟩
 by_cases hj:j=i
 ·subst hj; rw [hi] at e; cases e
 ·rw [ay4 (Ne.symm hj)]; exact h.2 j w e
theorem gP:∀ (ns:List (Str × NameKind)) (n:Nat) (cs:List (Str × Addr)),cellsFrom n ns cs=cellsFrom n ns [] ++ cs
 | [],_,_=>rfl
 | (x,k) :: r,n,cs=>by
  unfold cellsFrom
  split
  ·rw [gP r (n+1) ((x,n) :: cs),gP r (n+1) [(x,n)]]; simp
  ·exact gP r n cs
theorem pU:∀ (ns:List (Str × NameKind)) (n:Nat) {x:Str}{c:Addr},(x,c) ∈ cellsFrom n ns []->(x,NameKind.cell) ∈ ns
 | [],_,_,_,h=>by simp [cellsFrom] at h
 | (y,k) :: r,n,x,c,h=>by
  unfold cellsFrom at h
  split at h
  ·rename_i hk
   rw [gP] at h
   rcases aA8.mp h with z | z
   ·exact ax7 _ (pU r _ z)
   ·rw [ay2] at z
    cases z
    have:k = .cell:=by simpa using hk
    rw [this]; exact ax6
  ·exact ax7 _ (pU r _ h)
theorem mG:∀ (ns:List (Str × NameKind)) (n:Nat) {x:Str},(x,NameKind.cell) ∈ ns->∃ c,(x,c) ∈ cellsFrom n ns []
 | (y,k) :: r,n,x,h=>by
  unfold cellsFrom
  rcases aw7.mp h with z | z
  ·cases z
   rw [if_pos (by rfl),gP]
   exact⟨n,az6 _ (by simp)⟩
  ·split
   ·obtain ⟨c,hc⟩:=mG r (n+1) z
    rw [gP]
    exact⟨c,List.mem_append_left _ hc⟩
   ·exact mG r n z
theorem pV {α:Type}:∀ {l:List (Str × α)}{x:Str}{c:α},(x,c) ∈ l->∃ d,l.lookup x=some d
 | (y,v) :: r,x,c,h=>by
  rw [aB1]
  cases hb:x == y with
  | true=>exact⟨v,rfl⟩
  | false=>
   rcases aw7.mp h with z | z
   ·cases z; simp at hb
   ·exact pV z
theorem mH {α:Type}{x:Str}:∀ (l r:List (Str × α)),(l ++ r).lookup x=(match l.lookup x with | some v=>some v | none=>r.lookup x)
 | [],_=>rfl
 | (y,v) :: l,r=>by
  rw [List.cons_append,aB1,aB1]
  cases hb:x == y with
  | true=>rfl
  | false=>exact mH l r
def eU (X:Cx) (scope:Scope) (C:Addr):List (Str × Addr):=cellsFrom (C+1) scope.names (cX X.env.cells scope.names [])
theorem iQ {X:Cx}{scope:Scope}{C:Addr}{x:Str}{c:Addr} (h:(eU X scope C).lookup x=some c) :
  (x,c) ∈ cellsFrom (C+1) scope.names [] ∨ ((∀ d,(x,d) ∉ cellsFrom (C+1) scope.names [])/\(cX X.env.cells scope.names []).lookup x=some c):=by
 unfold eU at h
 rw [gP,mH] at h
 cases e:(cellsFrom (C+1) scope.names []).lookup x with
 | some v=>rw [e] at h; cases h; exact .inl (az8 e)
 | none=>
  rw [e] at h
  refine .inr ⟨fun d hd=>?_,h⟩
  obtain ⟨d',z⟩:=pV hd
  rw [e] at z; cases z
theorem S2 {X:Cx}{scope:Scope}{C:Addr}{x:Str}{c:Addr} (hn:(x,NameKind.cell) ∉ scope.names) (h:(cX X.env.cells scope.names []).lookup x=some c):(eU X scope C).lookup x=some c:=by
 unfold eU
 rw [gP,mH]
 cases e:(cellsFrom (C+1) scope.names []).lookup x with
 | some v=>exact absurd (pU _ _ (az8 e)) hn
 | none=>exact h
theorem vL {X:Cx}{scope:Scope}{C:Addr}{x:Str} (h:(x,NameKind.cell) ∈ scope.names ∨ ∃ c,(cX X.env.cells scope.names []).lookup x=some c):∃ c,(eU X scope C).lookup x=some c:=by
 unfold eU
 rw [gP,mH]
 cases e:(cellsFrom (C+1) scope.names []).lookup x with
 | some v=>exact⟨v,rfl⟩
 | none=>
  rcases h with h | h
  ·obtain ⟨c,hc⟩:=mG scope.names (C+1) h
   obtain ⟨d,hd⟩:=pV hc
   rw [e] at hd; cases hd
  ·exact h
def bA (X:Cx) (scope:Scope) (N:List Str) (s:Shared) (H:Hp) (C:Addr) (fp:List Addr) (E:Value->Shared->Prop):Cx:=
 { X with N:=N,s₀:=s,H₀:=H,env:=compEnvC scope (eU X scope C) C X.env,outer:=X.stack,ex:=fp,fn:=fun x=>scope.names.lookup x == some .cell,pn:=[],xe:=E }
structure cF (X:Cx) (scope:Scope) (N:List Str) (fr:List (Option Nat)):Prop where
 kind:scope.kind = .function
 own:∀ y ∈ scope.names,y.2 = .cell->scope.names.lookup y.1=some .cell
 names:∀ y ∈ scope.names,y.2 = .local->scope.names.lookup y.1=some .local
 free:∀ y ∈ scope.names,y.2 = .free->X.env.scope.names.lookup y.1=some .cell ∨ X.env.scope.names.lookup y.1=some .free
 len:fr.length=N.length
 from_:∀ (i j:Nat),fr[i]? = some (some j)->∃ x,N[i]? = some x/\X.N[j]? = some x/\scope.names.lookup x=some .free
section
variable {X : Cx} {pins : List (Addr × Obj)} {σ : St} {H : Hp} {s : Shared} {scope : Scope} {N : List Str} {fr : List (Option Nat)}
theorem cF.cells (S:cF X scope N fr) (I:a5 X pins σ H s):∀ y ∈ scope.names,y.2 = .free->∃ c,X.env.cells.lookup y.1=some c:=fun y hy hk=>I.ok.has y.1 (S.free y hy hk)
theorem S3 {C D:Addr}{fp:List Addr}{E:Value->Shared->Prop}{h1:Heap}{tk:Nat}{m:Str->Option Value} (S:cF X scope N fr) (I:a5 X pins σ H s)
  (hf:∀ b ∈ fp,eO X pins H b) (hfl:∀ b ∈ fp,b < s.heap.objs.size) (hD:s.heap.objs.size<=D) (hC:s.heap.objs.size<=C) (hDC:D < C)
  (old:∀ b o,s.heap.get? b=some o->h1.get? b=some o) (hns:h1.Ns C m) (hacc:h1.get? D=some { cls:=.type "list",data:=.seq #[] 0 }) (hco:CellsOk h1 (C+1) (cellsFrom (C+1) scope.names [])) :
  a5 (bA X scope N s H C fp E) [] (cQ fr σ) (upd H D (.lst [])) { s with heap:=h1,toks:=tk }:=by
 have hHD:H D=none:=I.hok.fresh hD
 have cl:=S.cells I
 have cs:∀ {x:Str}{c:Addr},(cX X.env.cells scope.names []).lookup x=some c->X.env.cells.lookup x=some c:=fun {x c} h=>mE scope.names [] cl (fun _ _ z=>by simp at z) h
 have clt:∀ {x:Str}{c:Addr},X.env.cells.lookup x=some c->c < s.heap.objs.size:=fun {x c} h=>by obtain ⟨v,z⟩:=I.cell x c h; exact z.lt
 have nge:∀ {x:Str}{c:Addr},(x,c) ∈ cellsFrom (C+1) scope.names []->C < c:=fun {x c} h=>(hco.empty x c h).2
 refine⟨⟨I.ok.mod,?_,I.ok.glob,I.ok.blt,hC,?_,?_,?_,I.ok.hd,I.ok.frames,.inl rfl,?_,I.bs,aA3 I.ok.bsz I.sz,?_,?_,I.stack,I.stkFree⟩,rfl,I.bare,Un.laid old hD hHD,⟨m,hns,?_⟩,?_,?_,?_,fun p hp=>absurd (show p ∈ ([]:List (Addr × Obj)) from hp) (by simp),?_,?_⟩
 ·exact S.kind
 ·intro x y c h1 h2
  rcases iQ h1 with a | ⟨_,a⟩ <;> rcases iQ h2 with b | ⟨_,b⟩
  ·exact name_of_addr hco.apart a b
  ·exact absurd (ax0 (Nat.lt_trans (nge a) (clt (cs b))) hC) (az9 _)
  ·exact absurd (ax0 (Nat.lt_trans (nge b) (clt (cs a))) hC) (az9 _)
  ·exact I.ok.inj x y c (cs a) (cs b)
 ·intro x hx
  have hx:(relabel scope X.env).names.lookup x=some .cell ∨ (relabel scope X.env).names.lookup x=some .free:=hx
  have fin:(x,NameKind.free) ∈ scope.names->∃ c,(eU X scope C).lookup x=some c:=fun z=>vL (.inr (pT scope.names [] (.inl z)))
  rcases hx with hx | hx
  ·rcases mF hx with z | z
   ·exact vL (.inl (az8 z))
   ·exact fin (az8 z.1)
  ·rcases mF hx with z | z
   ·exact fin (az8 z)
   ·exact absurd z.2 (by decide)
 ·intro x c hx h
  have hx:(scope.names.lookup x == some NameKind.cell)=true:=hx
  have hx:scope.names.lookup x=some .cell:=by simpa using hx
  rcases iQ h with a | ⟨a,_⟩
  ·exact aA3 hC (aD8 (nge a))
  ·obtain ⟨d,hd⟩:=mG scope.names (C+1) (az8 hx)
   exact absurd hd (a d)
 ·intro b hb
  refine⟨ay8 (ax0 (hfl b hb) hC),fun x c e=>?_⟩
  rcases iQ e with a | ⟨_,a⟩
  ·exact aD5 (Nat.lt_trans (ax0 (hfl b hb) hC) (nge a))
  ·exact (hf b hb).2.2.2.2.1 x c (cs a)
 ·intro b o e hb
  rcases (hf b hb).2.2.2.1 with z | z
  ·exact I.ok.noex b o e z
  ·exact absurd (ax0 (ax2 e) (aA3 I.ok.bsz z)) (az9 _)
 ·intro b hb z
  rcases aw7.mp (I.stkSub b z) with e | e
  ·exact (hf b hb).2.1 e
  ·exact (hf b hb).2.2.1 e
 ·intro i x v e1 e2 e3
  have e2:(fr.map fun o=>o.bind fun j=>(σ[j]?).join)[i]? = some (some v):=e2
  rw [aw8] at e2
  cases ef:fr[i]? with
  | none=>rw [ef] at e2; cases e2
  | some o=>
   rw [ef] at e2
   cases o with
   | none=>cases e2
   | some j=>
    have e2:some ((σ[j]?).join)=some (some v):=e2
    have ej:σ[j]? = some (some v):=by
     cases q:σ[j]? with
     | none=>rw [q] at e2; cases e2
     | some w=>rw [q] at e2; cases w with
      | none=>cases e2
      | some w=>cases e2; rfl
    obtain ⟨y,a1,a2,a4⟩:=S.from_ i j ef
    have e1:N[i]? = some x:=e1
    rw [e1] at a1
    cases a1
    have a3:(x,NameKind.free) ∈ scope.names:=az8 a4
    have vis:i5 X.env.scope x:=(S.free _ a3 rfl).elim (fun z=>.inr (.inl z)) fun z=>.inr (.inr z)
    obtain ⟨m0,hn0,hl0⟩:=I.loc
    obtain ⟨u,r,l⟩:=hl0 j x v a2 ej vis
    refine⟨u,r,.inr ⟨?_,?_⟩⟩
    ·have e3:(relabel scope X.env).names.lookup x=some .local ∨ (relabel scope X.env).names.lookup x=some .cell ∨ (relabel scope X.env).names.lookup x=some .free:=e3
     rcases e3 with z | z | z
     ·rcases mF z with y | y
      ·rw [a4] at y; cases y
      ·exact absurd y.2 (by decide)
     ·exact .inl z
     ·exact .inr z
    ·obtain ⟨c,hc⟩:=pT (cells:=X.env.cells) scope.names [] (x:=x) (.inl a3)
     refine⟨c,S2 (fun z=>by have:=S.own _ z rfl; rw [a4] at this; cases this) hc,?_⟩
     have hc':=cs hc
     have S1:=S.free (x,.free) a3 rfl
     rcases l with ⟨k,_⟩ | ⟨_,c2,hc2,z⟩
     ·have k:X.env.scope.names.lookup x=some .local:=k
      rcases S1 with q | q <;> (have q:X.env.scope.names.lookup x=_:=q; rw [k] at q; cases q)
     ·rw [hc'] at hc2; cases hc2
      obtain ⟨oc,ho,hd⟩:=z
      exact⟨oc,old c oc ho,hd⟩
 ·intro x c e
  rcases iQ e with a | ⟨_,a⟩
  ·exact⟨_,(hco.empty x c a).1⟩
  ·obtain ⟨v,oc,ho,hd⟩:=I.cell x c (cs a)
   exact⟨v,oc,old c oc ho,hd⟩
 ·show upd H D (.lst []) C=none
  rw [aB (aD5 hDC)]; exact I.hok.fresh hC
 ·intro x c e
  show upd H D (.lst []) c=none
  rcases iQ e with a | ⟨_,a⟩
  ·rw [aB (aD5 (Nat.lt_trans hDC (nge a)))]; exact I.hok.fresh (aA3 hC (aD8 (nge a)))
  ·have q:=cs a
   rw [aB (ay8 (ax0 (clt q) hD))]
   exact I.freeC x c q
 ·exact I.hok.laid old hD ⟨az7 _,[],0,.nil,hacc⟩
 ·show (cQ fr σ).length=N.length
  unfold cQ; rw [aw9]; exact S.len
end
def iB (X:Cx) (ifs:List Expr) (t:TT):Prop:=
 ∀ (pins:List (Addr × Obj)) (s:Shared) (σ:St) (H:Hp) (Q:Bool->Hp->Prop),a5 X pins σ H s->t σ H Q->
  wpAny (model X.prog X.w) X.A (forIn ifs true fun c r=>if r=true then do let ok <- isTrue c X.env (eval c X.env); pure (ForInStep.yield ok) else pure (ForInStep.yield r)) (TP X pins σ Q) X.xe s
def pW:TT:=fun _ H Q=>Q true H
theorem mI {X:Cx}:iB X [] pW:=fun _ _ _ H _ I h=>wpAny_tests_nil ⟨H,I,h⟩
theorem vM {X:Cx}{c:Expr}{t:TT} (h:PT X c t):iB X [c] t:=fun pins s σ H Q I hq=>wpAny_tests_one (h pins s σ H Q I hq)
section
variable {prog : Program} {w : World} {A : Around}
def pX (prog:Program) (w:World) (A:Around) (elt tg:Expr) (ifs:List Expr) (it acc:Value) (env:Env) (lost:Value->Shared->Prop) (stop next:Shared->Prop) (s:Shared):Prop:=
 let M:=model prog w
 let tests:Sem Bool:=forIn ifs true fun c r=>if r=true then do let ok <- isTrue c env (eval c env); pure (ForInStep.yield ok) else pure (ForInStep.yield r)
 let put:Shared->Prop:=wpAny M A (eval elt env) (fun x=>wpAny M A (call (.builtin "list.append") [acc,x]) (fun _=>next) lost) lost
 let taken:Value->Shared->Prop:=fun v=>wpAny M A (letOwnedTupleGo tg it v) (fun _=>wpAny M A (assign tg env v) (fun _=>wpAny M A tests (fun ok s'=>if ok=true then put s' else next s') lost) lost) lost
 wpAny M A (pyNext it) (fun r s'=>match r with
  | none=>stop s'
  | some v=>taken v s') lost s
theorem S4 {R:Result->Shared->Prop}{s:Shared}{elt tg iter:Expr}{ifs:List Expr}{scope:Scope}{pos:Pos}{it acc:Value}{env:Env} (I:Nat->Shared->Prop)
  (turn:∀ n s,I n s->pX prog w A elt tg ifs it acc env (notedBy (model prog w) A env fun e=>R (.error e)) (R (.ok .next)) (fun s'=>∃ m,m < n/\I m s') s) (n:Nat) (h:I n s) :
  codeAny (model prog w) A (.compLoop (.ListComp elt [⟨tg,iter,ifs,0⟩] scope pos) 0 it acc env) R s:=by
 apply codeAny_loop rfl I _ n h
 intro k s1 h1
 change wpAny _ A ((compTurn _ 0 it acc env).onRaise (fun x=>do noteFrame x env; theTreesLotGoes x)) _ _ s1
 apply wpAny_noted
 rw [compTurn_list]
 have t:=turn k s1 h1
 unfold pX at t
 apply aw1
 apply wpAny_standAt
 apply aw1
 refine aB5 t (fun r s2 h2=>?_) fun _ _ z=>z
 cases r with
 | none=>exact aw5 h2
 | some v=>
  apply aw1
  refine aB5 h2 (fun _ s3 h3=>?_) fun _ _ z=>z
  apply aw1
  refine aB5 h3 (fun _ s4 h4=>?_) fun _ _ z=>z
  apply aw1
  refine aB5 h4 (fun ok s5 h5=>?_) fun _ _ z=>z
  cases ok with
  | false=>exact aw5 ⟨rfl,h5⟩
  | true=>
   apply aw1
   apply aw1
   refine aB5 h5 (fun x s6 h6=>?_) fun _ _ z=>z
   apply aw1
   exact aB5 h6 (fun _ s7 h7=>aw5 (aw5 ⟨rfl,h7⟩)) fun _ _ z=>z
end
def kW (g:TG) (tc:TT) (te:TE) (σ0:St) (J:It) (D:Addr) (Q:VK) (W:Nat->Nat->List V->Hp->Prop):Prop:=
 ∀ i m acc H',W i m acc H'->H' D=some (.lst acc)/\((J.stop i H'/\Q (.ref D) H') ∨ (J.go i H'/\∀ x H2,J.yld i H' x H2->g x σ0 H2 fun σ2 H3=>Wk σ0 σ2/\tc σ2 H3 fun b H4=>
  if b=true then te σ2 H4 fun v H5=>H5 D=some (.lst acc)/\acc.length < sizeLine/\∃ m',m' < m/\W (i+1) m' (acc ++ [v]) (upd H5 D (.lst (acc ++ [v]))) else ∃ m',m' < m/\W (i+1) m' acc H4))
def vN (wi:TI) (fr:List (Option Nat)) (g:TG) (tc:TT) (te:TE):TE:=fun σ H Q=>wi σ H fun J H1=>∀ D,H1 D=none->
 ∃ W:Nat->Nat->List V->Hp->Prop,(∃ m,W 0 m [] (upd H1 D (.lst [])))/\kW g tc te (cQ fr σ) J D Q W
section
variable {M : Model} {A : Around} {E : Value → Shared → Prop} {s : Shared}
theorem S5 {scope:Scope}{globals:Addr}{cl:List (Str × Addr)}{qual:Str}{func:Option Addr}{code:Value}{builtins:Addr}{outer:Env}{Q:Env->Shared->Prop}
  (hQ:∀ h',h'.Ns s.heap.objs.size (fun _=>none)->(∀ b o,s.heap.get? b=some o->h'.get? b=some o)->CellsOk h' (s.heap.objs.size+1) (cellsFrom (s.heap.objs.size+1) scope.names [])->
   Q (newEnv scope s.heap.objs.size globals (cellsFrom (s.heap.objs.size+1) scope.names cl) qual func code (some outer) builtins) { s with heap:=h' }) :
  wpAny M A (newFunctionEnv scope globals cl [] qual func code (some outer) builtins) Q E s:=by
 simp only [newFunctionEnv,Option.isSome_some,if_true]
 refine aw1 (wpAny_alloc ?_)
 refine aw1 (wpAny_layCells _ (fun name kind cells=>by cases hkc:kind == NameKind.cell <;> simp [hkc]) _ _ _ _ ?_)
 have ok:=cellsFrom_ok scope.names (s.heap.push { cls:=.type "dict",data:=.dict #[] }) (s.heap.objs.size+1) [] ⟨fun _ _ hm=>(nomatch hm),List.Pairwise.nil⟩ (by rw [aE3]; exact aw6 _)
 rw [aE3] at ok
 rw [show ({ s with heap:=s.heap.push { cls:=.type "dict",data:=.dict #[] } }:Shared).heap.objs.size=s.heap.objs.size+1 from aE3 ..]
 rw [List.forIn_nil]
 refine aw1 (aw5 (aw5 (hQ _ ((Heap.Ns.new s.heap (.type "dict")).keeps (pushCells_keeps _ _)) (fun b o e=>pushCells_keeps _ _ b o (aw2 _ e)) ok)))
end
section
variable {X : Cx} {pins : List (Addr × Obj)} {σ : St} {H : Hp} {s : Shared} {scope : Scope} {N : List Str} {fr : List (Option Nat)} {tg iter elt : Expr} {ifs : List Expr} {pos : Pos} {wi : TI} {g : TG} {tc : TT} {te : TE}
structure jE (X:Cx) (scope:Scope) (N:List Str) (tg:Expr) (ifs:List Expr) (elt:Expr) (s:Shared) (H:Hp) (g:TG) (tc:TT) (te:TE):Prop where
 tg:∀ (C:Addr) (fp:List Addr),PG (bA X scope N s H C fp fun _ _=>False) tg g
 ifs:∀ (C:Addr) (fp:List Addr),iB (bA X scope N s H C fp fun _ _=>False) ifs tc
 elt:∀ (C:Addr) (fp:List Addr),PE (bA X scope N s H C fp fun _ _=>False) elt te
structure mJ (X:Cx) (scope:Scope) (N:List Str) (tg:Expr) (ifs:List Expr) (elt:Expr) (g:TG) (tc:TT) (te:TE):Prop where
 tg:∀ (s:Shared) (H:Hp) (C:Addr) (fp:List Addr),PG (bA X scope N s H C fp fun _ _=>False) tg g
 ifs:∀ (s:Shared) (H:Hp) (C:Addr) (fp:List Addr),iB (bA X scope N s H C fp fun _ _=>False) ifs tc
 elt:∀ (s:Shared) (H:Hp) (C:Addr) (fp:List Addr),PE (bA X scope N s H C fp fun _ _=>False) elt te
theorem mJ.at (B:mJ X scope N tg ifs elt g tc te) (s:Shared) (H:Hp):jE X scope N tg ifs elt s H g tc te:=⟨B.tg s H,B.ifs s H,B.elt s H⟩
theorem S6 {C:Addr}{fp:List Addr}{E:Value->Shared->Prop}{pins':List (Addr × Obj)}{σ':St}{H':Hp}{s':Shared} (I:a5 X pins σ H s) (hf:∀ b ∈ fp,eO X pins H b) (I':a5 (bA X scope N s H C fp E) pins' σ' H' s'):a5 X pins σ H' s':=
 I.call' (ch:=fp) I'.os I'.base I'.hok I'.bare fun b hb=>⟨(hf b hb).2.2.2.1,(hf b hb).2.1,(hf b hb).2.2.2.2.1,(hf b hb).2.2.2.2.2⟩
theorem mK {Rr:Value->Addr->Result->Shared->Prop}{J:It}{fp:List Addr}{it:Addr}{tn:Nat->Heap->Prop}{Q:VK}
  (hc:X.calm=true) (S:cF X scope N fr) (B:jE X scope N tg ifs elt s H g tc te) (I:a5 X pins σ H s) (T:fE X.prog X.w X.K tg J fp it tn) (hst:tn 0 s.heap) (hf:∀ b ∈ fp,eO X pins H b)
  (h:∀ D,H D=none->∃ W:Nat->Nat->List V->Hp->Prop,(∃ m,W 0 m [] (upd H D (.lst [])))/\kW g tc te (cQ fr σ) J D Q W)
  (hend:∀ (D C:Addr) (s':Shared) (H':Hp) (m:Str->Option Value),s.heap.objs.size<=C->s.heap.objs.size<=D->a5 X pins σ H' s'->s'.heap.Ns C m->H' C=none->Q (.ref D) H'->Rr (.ref D) C (.ok .next) s') :
  wpAny (model X.prog X.w) X.A (newList []) (fun acc s₃=>wpAny (model X.prog X.w) X.A (newFunctionEnv scope X.env.globals (cX X.env.cells scope.names []) [] X.env.qual none .none (some X.env)) (fun cenv s₄=>
   codeAny (model X.prog X.w) X.A (.compStart (.ListComp elt [⟨tg,iter,ifs,0⟩] scope pos) 0 (.ref it) acc { cenv with scope:=relabel scope X.env }) (Rr acc cenv.locals) s₄) X.xe s₃) X.xe s:=by
 refine aB4 (S5 (fun h₁ hns₁ keep₁ hco₁=>?_))
 dsimp only at hns₁ keep₁ hco₁ ⊢
 generalize hH2:s.heap.push { cls:=.type "list",dict:=none,data:=.seq ([]:List Value).toArray }=H2 at hns₁ keep₁ hco₁ ⊢
 have hC:H2.objs.size=s.heap.objs.size+1:=by rw [<- hH2,aE3]
 have hDC:s.heap.objs.size < H2.objs.size:=by rw [hC]; exact Nat.lt_succ_self _
 have hCle:s.heap.objs.size<=H2.objs.size:=by rw [hC]; exact Nat.le_succ _
 have old:∀ b o,s.heap.get? b=some o->h₁.get? b=some o:=fun b o e=>keep₁ b o (hH2 ▸ aw2 _ e)
 have hacc:h₁.get? s.heap.objs.size=some { cls:=.type "list",data:=.seq #[] 0 }:=keep₁ _ _ (hH2 ▸ ax5 _ rfl)
 have hfl:∀ b ∈ fp,b < s.heap.objs.size:=fun b hb=>by obtain ⟨o,e,_⟩:=T.obj _ _ hst b hb; exact ax2 e
 obtain ⟨W,⟨m0,w0⟩,turn⟩:=h s.heap.objs.size (I.hok.fresh (aw6 _))
 have st1:tn 0 h₁:=T.keep _ _ _ hst fun b _ o e=>old b o e
 have fr0:∀ b ∈ fp,upd H s.heap.objs.size (.lst []) b=none:=fun b hb=>by rw [aB (ay8 (hfl b hb))]; exact (hf b hb).1
 have stat:∀ {H':Hp},(∀ b ∈ fp,H' b=none)->∀ b ∈ fp,eO (bA X scope N s H H2.objs.size fp fun _ _=>False) [] H' b:=fun {H'} hn b hb=>by
  have f:=hf b hb
  refine⟨hn b hb,ay8 (ax0 (hfl b hb) hCle),fun z=>?_,.inl hb,fun x c e=>(iQ e).elim (fun z=>aD5 (Nat.lt_trans (ax0 (hfl b hb) hCle) (hco₁.empty x c z).2)) fun z=>f.2.2.2.2.1 x c (mE scope.names [] (S.cells I) (fun _ _ z=>by simp at z) z.2),fun p hp=>absurd (show p ∈ ([]:List (Addr × Obj)) from hp) (by simp)⟩
  rcases aw7.mp (I.stkSub b z) with e | e
  ·exact f.2.1 e
  ·exact f.2.2.1 e
 generalize hX:bA X scope N s H H2.objs.size fp (fun _ _=>False)=Y at stat
 have I0:a5 Y [] (cQ fr σ) (upd H s.heap.objs.size (.lst [])) { s with heap:=h₁ }:=hX ▸ S3 S I hf hfl (aw6 _) hCle hDC old hns₁ hacc hco₁
 have bt:PG Y tg g:=hX ▸ B.tg H2.objs.size fp
 have bi:iB Y ifs tc:=hX ▸ B.ifs H2.objs.size fp
 have be:PE Y elt te:=hX ▸ B.elt H2.objs.size fp
 have eP:Y.prog=X.prog:=by rw [<- hX]; rfl
 have ew:Y.w=X.w:=by rw [<- hX]; rfl
 have eK:Y.K=X.K:=by rw [<- hX]; rfl
 have eA:Y.A=X.A:=by rw [<- hX]; rfl
 have eE:Y.env=compEnvC scope (eU X scope H2.objs.size) H2.objs.size X.env:=by rw [<- hX]; rfl
 have eX:Y.xe=fun _ _=>False:=by rw [<- hX]; rfl
 have ec:Y.calm=true:=by rw [<- hX]; exact hc
 have never:∀ {E:Value->Shared->Prop} (e:Value) (s':Shared),Y.xe e s'->E e s':=fun {E} e s' z=>by rw [eX] at z; exact z.elim
 have out:∀ {pins' σ' H' s'},a5 Y pins' σ' H' s'->a5 X pins σ H' s':=fun {_ _ _ _} I'=>S6 (C:=H2.objs.size) (E:=fun _ _=>False) (scope:=scope) (N:=N) I hf (hX ▸ I')
 have loop:codeAny (model X.prog X.w) X.A (.compLoop (.ListComp elt [⟨tg,iter,ifs,0⟩] scope pos) 0 (.ref it) (.ref s.heap.objs.size) (compEnvC scope (eU X scope H2.objs.size) H2.objs.size X.env))
   (Rr (.ref s.heap.objs.size) H2.objs.size) { s with heap:=h₁ }:=by
  refine S4 (fun n s'=>∃ i acc H',a5 Y [] (cQ fr σ) H' s'/\tn i s'.heap/\(∀ b ∈ fp,H' b=none)/\W i n acc H') ?_ m0 ⟨0,[],_,I0,st1,fr0,w0⟩
  rintro n s3 ⟨i,acc,H3,I3,st3,fr3,w3⟩
  unfold pX
  dsimp only
  obtain ⟨hD3,step⟩:=turn i n acc H3 w3
  rcases step with ⟨stop,qn⟩ | ⟨go,step⟩
  ·have z:=T.done Y eP ew eK ec i [] s3 _ H3 (notedBy (model X.prog X.w) X.A (compEnvC scope (eU X scope H2.objs.size) H2.objs.size X.env) fun e s'=>Rr (.ref s.heap.objs.size) H2.objs.size (.error e) s') I3 (stat fr3) st3 stop
   rw [eA] at z
   refine aJ z fun r s4 ⟨hr,I4⟩=>?_
   subst hr
   obtain ⟨m4,hn4,_⟩:=I4.loc
   rw [eE] at hn4
   have f4:=I4.free
   rw [eE] at f4
   exact hend _ _ s4 H3 m4 hCle (aw6 _) (out I4) hn4 f4 qn
  ·have z:=T.item Y eP ew eK ec i [] s3 _ H3 (notedBy (model X.prog X.w) X.A (compEnvC scope (eU X scope H2.objs.size) H2.objs.size X.env) fun e s'=>Rr (.ref s.heap.objs.size) H2.objs.size (.error e) s') I3 (stat fr3) st3 go
   rw [eA] at z
   refine aJ z fun r s4 ⟨u,hr,h4⟩=>?_
   subst hr
   refine aJ h4 fun _ s5 ⟨x,H5,I5,r5,y5,st5,fr5⟩=>?_
   have I5':=I5.pinned (stat fr5) (T.obj _ _ st5)
   have q1:=bt _ s5 _ H5 x u _ I5' r5 (step x H5 y5)
   rw [eP,ew,eA,eE] at q1
   refine aB5 q1 (fun _ s6 ⟨σ6,H6,I6,wk,q6⟩=>?_) never
   have q2:=bi _ s6 σ6 H6 _ I6 q6
   rw [eP,ew,eA,eE] at q2
   refine aB5 q2 (fun b s7 ⟨H7,I7,q7⟩=>?_) never
   have again:∀ {H8:Hp}{s8:Shared}{acc':List V},a5 Y ([] ++ kH fp s5.heap) σ6 H8 s8->(∃ m',m' < n/\W (i+1) m' acc' H8)->∃ m,m < n/\∃ i acc H',a5 Y [] (cQ fr σ) H' s8/\tn i s8.heap/\(∀ b ∈ fp,H' b=none)/\W i m acc H':=fun {H8 s8 acc'} I8 n8=>by
    obtain ⟨m',hm,w8⟩:=n8
    refine⟨m',hm,i+1,acc',H8,(I8.unpinned).weak wk.1 wk.2,T.keep _ _ _ st5 fun b hb o e=>(I8.pin (b,o) (az6 _ (az6 _ (lX hb e)))).1,fun b hb=>?_,w8⟩
    obtain ⟨o,e,d⟩:=T.obj _ _ st5 b hb
    exact (I8.pin (b,o) (az6 _ (az6 _ (lX hb e)))).2.1
   cases b with
   | false=>
    rw [if_neg ay1] at q7 ⊢
    exact again I7 q7
   | true=>
    rw [if_pos rfl] at q7 ⊢
    have q3:=be _ s7 σ6 H7 _ I7 q7
    rw [eP,ew,eA,eE] at q3
    refine aB5 q3 (fun v s8 ⟨y,H8,I8,r8,hD8,hz8,q8⟩=>?_) never
    have q4:=m7 _ s8 σ6 H8 (.ref s.heap.objs.size) [y] (.ref s.heap.objs.size) [v] (fun _ H9=>∃ m',m' < n/\W (i+1) m' (acc ++ [y]) H9) I8 rfl (.cons r8 .nil) ⟨_,_,_,rfl,rfl,hD8,hz8,q8⟩
    rw [eP,ew,eA] at q4
    exact aB5 q4 (fun _ s9 ⟨_,H9,I9,_,q9⟩=>again I9 q9) never
 exact codeAny_compStart_list loop (T.self _ 0 _ _ _ st1 loop)
end
section
variable {X : Cx} {scope : Scope} {N : List Str} {fr : List (Option Nat)} {tg iter elt : Expr} {ifs : List Expr} {pos : Pos} {wi : TI} {g : TG} {tc : TT} {te : TE}
theorem a5.drop {pins:List (Addr × Obj)}{σ:St}{H H':Hp}{s s':Shared}{C:Addr}{h':Heap} (I0:a5 X pins σ H s) (hC:s.heap.objs.size<=C) {σ':St} (I:a5 X pins σ' H' s') (hn:H' C=none) (sb:Heap.SameBut C s'.heap h'):a5 X pins σ' H' { s' with heap:=h' }:=by
 refine I.turned (t':=s'.toks) (it:=C) (fun b o hb e=>(sb.2 b hb).trans e) hn (aD5 (ax0 I0.lt hC)) (.inr (aA3 I0.sz hC)) (fun x c e z=>?_) fun p hp z=>?_
 ·obtain ⟨v,q⟩:=I0.cell x c e
  exact absurd (ax0 q.lt (by rw [z]; exact hC)) (az9 _)
 ·exact absurd (ax0 (ax2 (I0.pin p hp).1) (by rw [z]; exact hC)) (az9 _)
theorem vO (hc:X.calm=true) (S:cF X scope N fr) (hi:PI X tg iter wi) (B:mJ X scope N tg ifs elt g tc te)
  (hs:∀ x,foldedSetIterable iter X.env x=pure x:=by intro _; rfl):PE X (.ListComp elt [⟨tg,iter,ifs,0⟩] scope pos) (vN wi fr g tc te):=by
 intro pins s σ H Q I h
 rw [eval_ListComp]
 refine wpAny_comprehension_free (use:=none) rfl hs (mD (S.cells I)) S.kind S.names (aJ (hi pins s σ H _ I h) fun v s1 h1=>aJ h1 fun itv s2 h2=>?_)
 obtain ⟨it,fp,tn,J,H2,e,I2,T,st2,f2,hW⟩:=h2
 subst e
 refine mK (Rr:=fun acc C=>compPost (model X.prog X.w) X.A X.xe none (EP X pins σ Q) acc C) hc S (B.at _ _) I2 T st2 f2 hW ?_
 intro D C s' H' m hC hD I' hns hHC q
 exact⟨m,hns,fun h' sb=>⟨.ref D,H',I2.drop hC I' hHC sb,rfl,q⟩⟩
theorem S7 {i:Nat}{x:Str}{px spos:Pos} (hc:X.calm=true) (S:cF X scope N fr) (hi:PI X tg iter wi) (B:mJ X scope N tg ifs elt g tc te) (hN:X.N.Nodup) (hix:X.N[i]? = some x) (hx:X.env.scope.names.lookup x=some .local)
  (hsw:swapsWith (.ListComp elt [⟨tg,iter,ifs,0⟩] scope pos) (some (.Name x px)) spos.line X.env=pure true) (hs:∀ x,foldedSetIterable iter X.env x=pure x:=by intro _; rfl) :
  PS X (.Assign [.Name x px] (.ListComp elt [⟨tg,iter,ifs,0⟩] scope pos) spos) (iN (vN wi fr g tc te) (bY i)):=by
 intro pins s σ H D I h
 rw [exec_Assign_Name_used _ _ _ _ hsw]
 refine aw1 (wpAny_standAt (aw1 ?_))
 show wpAny _ _ (do let _ <- comprehension (.ListComp elt [⟨tg,iter,ifs,0⟩] scope pos) scope X.env _ (newList []) false (eval iter X.env) (some (assign (.Name x px) X.env))) _ _ s
 refine aw1 (aB5 (wpAny_comprehension_free (Q:=fun _ s'=>SP X pins D .next s') (use:=some (assign (.Name x px) X.env)) rfl hs (mD (S.cells I)) S.kind S.names (aJ (hi pins s σ H _ I h) fun v s1 h1=>aJ h1 fun itv s2 h2=>?_))
  (fun _ s' hq=>aw5 (aw5 hq)) fun _ _ e=>e)
 obtain ⟨it,fp,tn,J,H2,e,I2,T,st2,f2,hW⟩:=h2
 subst e
 refine mK (Rr:=fun acc C=>compPost (model X.prog X.w) X.A X.xe (some (assign (.Name x px) X.env)) (fun _ s'=>SP X pins D .next s') acc C) hc S (B.at _ _) I2 T st2 f2 hW ?_
 intro D' C s' H' m hC hD I' hns hHC q
 refine wpAny_assign_Name (oS I' hN hix (.inl hx) (v:=.ref D') rfl (fun s'' I'' sb=>?_) (.inr hx))
 obtain ⟨a,sb,ha⟩:=sb
 have hCa:C ≠ a:=by
  rcases ha with z | z
  ·rw [z]; exact aD5 (ax0 I2.lt hC)
  ·intro e; subst e
   obtain ⟨v,q⟩:=I2.cell x _ z
   exact absurd (ax0 q.lt hC) (az9 _)
 exact⟨m,hns.sameBut sb hCa,fun h' sb'=>⟨_,H',I2.drop hC I'' hHC sb',q⟩⟩
variable {gh : Hp → TG} {tch : Hp → TT} {teh : Hp → TE}
def mL (wi:TI) (fr:List (Option Nat)) (gh:Hp->TG) (tch:Hp->TT) (teh:Hp->TE):TE:=fun σ H Q=>wi σ H fun J H1=>∀ D,H1 D=none->
 ∃ W:Nat->Nat->List V->Hp->Prop,(∃ m,W 0 m [] (upd H1 D (.lst [])))/\kW (gh H1) (tch H1) (teh H1) (cQ fr σ) J D Q W
theorem vP (hc:X.calm=true) (S:cF X scope N fr) (hi:PI X tg iter wi) (B:∀ (s:Shared) (H:Hp),jE X scope N tg ifs elt s H (gh H) (tch H) (teh H))
  (hs:∀ x,foldedSetIterable iter X.env x=pure x:=by intro _; rfl):PE X (.ListComp elt [⟨tg,iter,ifs,0⟩] scope pos) (mL wi fr gh tch teh):=by
 intro pins s σ H Q I h
 rw [eval_ListComp]
 refine wpAny_comprehension_free (use:=none) rfl hs (mD (S.cells I)) S.kind S.names (aJ (hi pins s σ H _ I h) fun v s1 h1=>aJ h1 fun itv s2 h2=>?_)
 obtain ⟨it,fp,tn,J,H2,e,I2,T,st2,f2,hW⟩:=h2
 subst e
 refine mK (Rr:=fun acc C=>compPost (model X.prog X.w) X.A X.xe none (EP X pins σ Q) acc C) hc S (B _ _) I2 T st2 f2 hW ?_
 intro D C s' H' m hC hD I' hns hHC q
 exact⟨m,hns,fun h' sb=>⟨.ref D,H',I2.drop hC I' hHC sb,rfl,q⟩⟩
theorem vQ {i:Nat}{x:Str}{px spos:Pos} (hc:X.calm=true) (S:cF X scope N fr) (hi:PI X tg iter wi) (B:∀ (s:Shared) (H:Hp),jE X scope N tg ifs elt s H (gh H) (tch H) (teh H)) (hN:X.N.Nodup) (hix:X.N[i]? = some x) (hx:X.env.scope.names.lookup x=some .local)
  (hsw:swapsWith (.ListComp elt [⟨tg,iter,ifs,0⟩] scope pos) (some (.Name x px)) spos.line X.env=pure true) (hs:∀ x,foldedSetIterable iter X.env x=pure x:=by intro _; rfl) :
  PS X (.Assign [.Name x px] (.ListComp elt [⟨tg,iter,ifs,0⟩] scope pos) spos) (iN (mL wi fr gh tch teh) (bY i)):=by
 intro pins s σ H D I h
 rw [exec_Assign_Name_used _ _ _ _ hsw]
 refine aw1 (wpAny_standAt (aw1 ?_))
 show wpAny _ _ (do let _ <- comprehension (.ListComp elt [⟨tg,iter,ifs,0⟩] scope pos) scope X.env _ (newList []) false (eval iter X.env) (some (assign (.Name x px) X.env))) _ _ s
 refine aw1 (aB5 (wpAny_comprehension_free (Q:=fun _ s'=>SP X pins D .next s') (use:=some (assign (.Name x px) X.env)) rfl hs (mD (S.cells I)) S.kind S.names (aJ (hi pins s σ H _ I h) fun v s1 h1=>aJ h1 fun itv s2 h2=>?_))
  (fun _ s' hq=>aw5 (aw5 hq)) fun _ _ e=>e)
 obtain ⟨it,fp,tn,J,H2,e,I2,T,st2,f2,hW⟩:=h2
 subst e
 refine mK (Rr:=fun acc C=>compPost (model X.prog X.w) X.A X.xe (some (assign (.Name x px) X.env)) (fun _ s'=>SP X pins D .next s') acc C) hc S (B _ _) I2 T st2 f2 hW ?_
 intro D' C s' H' m hC hD I' hns hHC q
 refine wpAny_assign_Name (oS I' hN hix (.inl hx) (v:=.ref D') rfl (fun s'' I'' sb=>?_) (.inr hx))
 obtain ⟨a,sb,ha⟩:=sb
 have hCa:C ≠ a:=by
  rcases ha with z | z
  ·rw [z]; exact aD5 (ax0 I2.lt hC)
  ·intro e; subst e
   obtain ⟨v,q⟩:=I2.cell x _ z
   exact absurd (ax0 q.lt hC) (az9 _)
 exact⟨m,hns.sameBut sb hCa,fun h' sb'=>⟨_,H',I2.drop hC I'' hHC sb',q⟩⟩
end
theorem b4 {H:Hp}{p:Addr} (h:H p=none) (o:HO):a9 H (upd H p o):=fun b u q=>by rw [aB (bI q h)]; exact q
theorem a9.tup {K:PySem.W.Frag}{H H':Hp}{a:Addr}{xs:List V} (e:a9 H H') (h:aI K H a xs):aI K H' a xs:=by
 rcases h with (h | ⟨o,h⟩) | h
 ·exact .inl (.inl (e _ _ h))
 ·exact .inl (.inr ⟨o,e _ _ h⟩)
 ·exact .inr h
structure vR (H:Hp) (J:It) (xs:List V):Prop where
 go:∀ i H',a9 H H'->i < xs.length->J.go i H'
 yld:∀ i H' x H2,a9 H H'->J.yld i H' x H2->i < xs.length->xs[i]? = some x/\H2=H'
 stop:∀ H',a9 H H'->J.stop xs.length H'
theorem S8 {K:PySem.W.Frag}{H:Hp}{a:Addr}{xs:List V} (h:aI K H a xs):vR H (i7 K a) xs:=
 ⟨fun i H' e hi=>⟨xs,xs[i],e.tup h,by simp [hi]⟩,fun i H' x H2 e y hi=>⟨y.2 xs (e.tup h),y.1⟩,fun H' e=>⟨xs,e.tup h,aw6 _⟩⟩
def gQ (lo:Int) (n:Nat):List V:=(List.range n).map fun (i:Nat)=>V.int (lo+(i:Int))
theorem pY (lo:Int) (n:Nat):(gQ lo n).length=n:=by unfold gQ; rw [aw9,List.length_range]
def CW (H1:Hp) (D:Addr) (n:Nat) (Pv:Nat->List V->Hp->Prop):Nat->Nat->List V->Hp->Prop:=fun i m acc H'=>m=n - i/\i<=n/\acc.length<=i/\a9 H1 H'/\H' D=some (.lst acc)/\Pv i acc H'
def pZ (H1:Hp) (D:Addr) (n:Nat) (Pv:Nat->List V->Hp->Prop) (i:Nat) (acc:List V) (v:V) (H5:Hp):Prop:=H5 D=some (.lst acc)/\acc.length < sizeLine/\∃ m',m' < n - i/\CW H1 D n Pv (i+1) m' (acc ++ [v]) (upd H5 D (.lst (acc ++ [v])))
def vS (H1:Hp) (D:Addr) (n:Nat) (Pv:Nat->List V->Hp->Prop) (i:Nat) (acc:List V) (H4:Hp):Prop:=∃ m',m' < n - i/\CW H1 D n Pv (i+1) m' acc H4
structure mM (H1:Hp) (D:Addr) (n i:Nat) (acc:List V) (H':Hp):Prop where
 lt:i < n
 few:acc.length<=i
 sz:n<=sizeLine
 same:a9 H1 H'
 new:H1 D=none
 acc:H' D=some (.lst acc)
theorem mM.yes {H1:Hp}{D:Addr}{n i:Nat}{acc:List V}{H' H5:Hp}{Pv:Nat->List V->Hp->Prop}{v:V} (c:mM H1 D n i acc H') (s:a9 H' H5) (p:Pv (i+1) (acc ++ [v]) (upd H5 D (.lst (acc ++ [v])))):pZ H1 D n Pv i acc v H5:=by
 refine⟨s _ _ c.acc,Nat.lt_of_le_of_lt c.few (ax0 c.lt c.sz),_,?_,rfl,c.lt,?_,fun b o e=>?_,aU,p⟩
 ·have:=c.lt; omega
 ·rw [ax9,az1]; exact Nat.succ_le_succ c.few
 ·rw [aB (bI e c.new)]; exact s _ _ (c.same _ _ e)
theorem S9 {H1:Hp}{J:It}{xs:List V}{g:TG}{tc:TT}{te:TE}{σ0:St}{Q:VK} (O:vR H1 J xs) (Pv:Nat->List V->Hp->Prop) (hn:xs.length<=sizeLine)
  (h0:∀ D,H1 D=none->Pv 0 [] (upd H1 D (.lst [])))
  (hs:∀ i x acc D H',xs[i]? = some x->mM H1 D xs.length i acc H'->Pv i acc H'->g x σ0 H' fun σ2 H3=>Wk σ0 σ2/\tc σ2 H3 fun b H4=>
   if b=true then te σ2 H4 fun v H5=>pZ H1 D xs.length Pv i acc v H5 else vS H1 D xs.length Pv i acc H4)
  (hd:∀ D acc H',H1 D=none->a9 H1 H'->H' D=some (.lst acc)->acc.length<=xs.length->Pv xs.length acc H'->Q (.ref D) H') :
  ∀ D,H1 D=none->∃ W:Nat->Nat->List V->Hp->Prop,(∃ m,W 0 m [] (upd H1 D (.lst [])))/\kW g tc te σ0 J D Q W:=by
 intro D hD
 refine⟨CW H1 D xs.length Pv,⟨xs.length,rfl,az7 _,aw6 _,b4 hD _,aU,h0 D hD⟩,?_⟩
 rintro i m acc H' ⟨rfl,hi,ha,sm,hDa,p⟩
 refine⟨hDa,?_⟩
 by_cases hlt:i < xs.length
 ·refine .inr ⟨O.go i H' sm hlt,fun x H2 y=>?_⟩
  obtain ⟨hx,e⟩:=O.yld i H' x H2 sm y hlt
  subst e
  exact hs i x acc D H2 hx ⟨hlt,ha,hn,sm,hD,hDa⟩ p
 ·have e:i=xs.length:=by omega
  subst e
  exact .inl ⟨O.stop H' sm,hd D acc H' hD sm hDa ha p⟩
end L2
namespace Srt
open PySem PySem.W PyProof.Rows
abbrev G (p:Array Nat) (i:Nat):Nat:=p.getD i 0
theorem kX {p q:Array Nat}{i j:Nat} (h:p[i]? = q[j]?):G p i=G q j:=by
 unfold G; rw [aE1,aE1,h]
theorem q0 {p:Array Nat}{i j:Nat} (hj:j<=p.size) (k:Nat):G (kas_rev p i j) k=if i<=k/\k < j then G p (i+j - 1 - k) else G p k:=by
 have e:=getElem?_mirror_all (i:=i) hj k
 unfold kas_rev
 by_cases h1:i<=k/\k < j
 ·rw [if_pos h1] at e ⊢; exact kX e
 ·rw [if_neg h1] at e ⊢; exact kX e
theorem T0 {p:Array Nat}{src d:Nat} (hs:src < p.size) (hd:d<=src) (k:Nat):G (bubble p src d) k=if k=src - d then G p src else if src - d < k/\k<=src then G p (k - 1) else G p k:=by
 have e:=getElem?_bubble hs d hd k
 by_cases h1:k=src - d
 ·rw [if_pos h1] at e ⊢; exact kX e
 ·rw [if_neg h1] at e ⊢
  by_cases h2:src - d < k/\k<=src
  ·rw [if_pos h2] at e ⊢; exact kX e
  ·rw [if_neg h2] at e ⊢; exact kX e
def PP (n:Nat) (p:Array Nat):Prop:=p.toList.Perm (List.range n)
theorem PP.size {n:Nat}{p:Array Nat} (h:PP n p):p.size=n:=by
 have:=h.length_eq
 rw [List.length_range] at this
 simpa using this
theorem PP.lt {n:Nat}{p:Array Nat} (h:PP n p) {k:Nat} (hk:k < n):G p k < n:=by
 have hs:=h.size
 have hk':k < p.toList.length:=by simpa [hs] using hk
 have e:G p k=p.toList[k]:=by
  unfold G; rw [aE1]; simp [hs,hk]
 have m:p.toList[k] ∈ p.toList:=aG0 hk'
 rw [e]
 exact aG1.mp (h.mem_iff.mp m)
theorem PP.of {n:Nat}{p q:Array Nat} (h:PP n p) (e:q.Perm p):PP n q:=(Array.perm_iff_toList_perm.mp e).trans h
theorem PP.rev {n:Nat}{p:Array Nat} (h:PP n p) (i j:Nat):PP n (kas_rev p i j):=h.of (mirror_perm _ _ _ _)
theorem PP.bub {n:Nat}{p:Array Nat} (h:PP n p) (i j:Nat):PP n (bubble p i j):=h.of (bubble_perm _ _ _)
structure qA (c:Nat->Nat->Bool):Prop where
 asym:∀ {i j},c i j=true->c j i=false
 ntr:∀ {i j k},c i j=false->c j k=false->c i k=false
section
variable {c : Nat → Nat → Bool} (O : qA c)
def Le (c:Nat->Nat->Bool) (i j:Nat):Prop:=c j i=false
include O
theorem le_refl (i:Nat):Le c i i:=by
 unfold Le
 cases h:c i i with
 | false=>rfl
 | true=>have:=O.asym h; rw [h] at this; exact this
theorem le_trans {i j k:Nat} (h1:Le c i j) (h2:Le c j k):Le c i k:=O.ntr h2 h1
theorem mO {i j:Nat} (h:c i j=true):Le c i j:=O.asym h
omit O
def dS (c:Nat->Nat->Bool) (p:Array Nat) (n:Nat):Prop:=∀ a b,a<=b->b < n->Le c (G p a) (G p b)
def iC (c:Nat->Nat->Bool) (p:Array Nat) (n:Nat):Prop:=∀ a b,a<=b->b < n->Le c (G p b) (G p a)
include O
theorem T1 {p:Array Nat}{n:Nat} (h:dS c p n) (h1:1<=n) (hl:Le c (G p (n - 1)) (G p n)):dS c p (n+1):=fun a b hab hb=>by
 by_cases hbn:b < n
 ·exact h a b hab hbn
 ·have e:b=n:=by omega
  subst e
  by_cases han:a=b
  ·subst han; exact le_refl O _
  ·exact le_trans O (h a (b - 1) (by omega) (by omega)) hl
theorem mP {p:Array Nat}{n:Nat} (h:iC c p n) (h1:1<=n) (hl:Le c (G p n) (G p (n - 1))):iC c p (n+1):=fun a b hab hb=>by
 by_cases hbn:b < n
 ·exact h a b hab hbn
 ·have e:b=n:=by omega
  subst e
  by_cases han:a=b
  ·subst han; exact le_refl O _
  ·exact le_trans O hl (h a (b - 1) (by omega) (by omega))
omit O
def bE {α:Type} (n:Nat) (c:Nat->Nat->Bool) (R:α->Prop):KasT α->Prop
 | .ret a=>R a
 | .ask i j k=>i < n/\j < n/\bE n c R (k (c i j))
theorem bE.mono {α:Type}{n:Nat}{R R':α->Prop} (h:∀ a,R a->R' a):∀ (t:KasT α),bE n c R t->bE n c R' t
 | .ret a,q=>h a q
 | .ask i j k,q=>⟨q.1,q.2.1,bE.mono h (k (c i j)) q.2.2⟩
theorem bE.bind {α β:Type}{n:Nat}{R:α->Prop}{R':β->Prop}{f:α->KasT β} (h:∀ a,R a->bE n c R' (f a)):∀ (t:KasT α),bE n c R t->bE n c R' (t.bind f)
 | .ret a,q=>h a q
 | .ask i j k,q=>⟨q.1,q.2.1,bE.bind h (k (c i j)) q.2.2⟩
theorem bE.run {α:Type}{n:Nat}{R:α->Prop}{I:Shared->Prop}{cmp:Nat->Nat->(Bool->Shared->Prop)->Shared->Prop}{Q:α->Shared->Prop}
  (hc:∀ i j C s,i < n->j < n->I s->(∀ s',I s'->C (c i j) s')->cmp i j C s) (hQ:∀ a s,R a->I s->Q a s):∀ (t:KasT α) (s:Shared),I s->bE n c R t->t.kasWp cmp Q s
 | .ret a,s,hI,q=>hQ a s q hI
 | .ask i j k,s,hI,q=>hc i j _ s q.1 q.2.1 hI fun s' hI'=>bE.run hc hQ (k (c i j)) s' hI' q.2.2
include O
theorem qB {n:Nat}{p:Array Nat} (hp:PP n p):∀ (f m:Nat),1<=m->m+f<=n->dS c p m->bE n c (fun r=>m<=r/\r<=m+f/\dS c p r/\(r < m+f->c (G p r) (G p (r - 1))=true)) (kas_asc p f m)
 | 0,m,_,_,h=>⟨aw6 _,aw6 _,h,fun z=>absurd z (az9 _)⟩
 | f+1,m,h1,h2,h=>by
  refine⟨hp.lt (by omega),hp.lt (by omega),?_⟩
  by_cases hc:c (p.getD m 0) (p.getD (m - 1) 0)=true
  ·simp only [hc,if_true]
   exact⟨aw6 _,by omega,h,fun _=>hc⟩
  ·have hc':c (p.getD m 0) (p.getD (m - 1) 0)=false:=aE2.mpr hc
   simp only [hc',ay3,aC4]
   refine bE.mono (fun r q=>⟨by omega,by omega,q.2.2.1,fun z=>q.2.2.2 (by omega)⟩) _ (qB hp f (m+1) (by omega) (by omega) (T1 O h h1 hc'))
omit O
def iR (c:Nat->Nat->Bool) (i j:Nat):Prop:=Le c i j/\Le c j i
include O
theorem qD {p q:Array Nat}{n:Nat} (h:iC c p n) (e:∀ k,k < n->iR c (G q k) (G p k)):iC c q n:=fun a b hab hb=>
 le_trans O (e b hb).1 (le_trans O (h a b hab hb) (e a (by omega)).2)
theorem vT {n m i:Nat}{p:Array Nat} (hp:PP n p) (hm:m<=n) (h:∀ a,i<=a->a < m->iR c (G p a) (G p (m - 1))):∀ k,iR c (G (kas_rev p i m) k) (G p k):=fun k=>by
 rw [q0 (by rw [hp.size]; exact hm)]
 by_cases hk:i<=k/\k < m
 ·rw [if_pos hk]
  have h1:=h (i+m - 1 - k) (by omega) (by omega)
  have h2:=h k hk.1 hk.2
  exact⟨le_trans O h1.1 h2.2,le_trans O h2.1 h1.2⟩
 ·rw [if_neg hk]; exact⟨le_refl O _,le_refl O _⟩
omit O
def DI (c:Nat->Nat->Bool) (n:Nat) (p:Array Nat) (m q:Nat):Prop:=PP n p/\1<=m/\m<=n/\iC c p m/\q+1<=m/\∀ a,m - (q+1)<=a->a < m->iR c (G p a) (G p (m - 1))
include O
theorem vU {n m q:Nat}{p:Array Nat} (h:DI c n p m q):PP n (kas_rev p (m - (q+1)) m)/\∀ k,iR c (G (kas_rev p (m - (q+1)) m) k) (G p k):=
 ⟨h.1.rev _ _,vT O h.1 h.2.2.1 h.2.2.2.2.2⟩
theorem mQ {n:Nat}:∀ (f:Nat) (p:Array Nat) (m q:Nat),m+f<=n->DI c n p m q->bE n c (fun r=>DI c n r.1 r.2.1 r.2.2) (kas_desc f p m q)
 | 0,p,m,q,_,h=>h
 | f+1,p,m,q,hf,h=>by
  have hp:=h.1
  have h1:=h.2.1
  refine⟨hp.lt (by omega),hp.lt (by omega),?_⟩
  by_cases hc:c (p.getD m 0) (p.getD (m - 1) 0)=true
  ·simp only [hc,if_true]
   have dn:iC c p (m+1):=mP O h.2.2.2.1 h1 (mO O hc)
   by_cases hq:q > 0
   ·simp only [hq,if_true]
    obtain ⟨pr,er⟩:=vU O h
    refine mQ f _ (m+1) 0 (by omega) ⟨pr,by omega,by omega,qD O dn fun k _=>er k,by omega,fun a h1 h2=>?_⟩
    have e:a=m+1 - 1:=by omega
    rw [e]; exact⟨le_refl O _,le_refl O _⟩
   ·simp only [hq,aC4]
    refine mQ f p (m+1) 0 (by omega) ⟨hp,by omega,by omega,dn,by omega,fun a h1 h2=>?_⟩
    have e:a=m+1 - 1:=by omega
    rw [e]; exact⟨le_refl O _,le_refl O _⟩
  ·have hc':c (p.getD m 0) (p.getD (m - 1) 0)=false:=aE2.mpr hc
   simp only [hc',ay3,aC4]
   refine⟨hp.lt (by omega),hp.lt (by omega),?_⟩
   by_cases hd:c (p.getD (m - 1) 0) (p.getD m 0)=true
   ·simp only [hd,if_true]
    exact h
   ·have hd':c (p.getD (m - 1) 0) (p.getD m 0)=false:=aE2.mpr hd
    simp only [hd',ay3,aC4]
    have ee:iR c (G p (m - 1)) (G p m):=⟨hc',hd'⟩
    refine mQ f p (m+1) (q+1) (by omega) ⟨hp,by omega,by omega,mP O h.2.2.2.1 h1 ee.2,by have:=h.2.2.2.2.1; omega,fun a h1 h2=>?_⟩
    rw [Nat.add_sub_cancel]
    by_cases ha:a=m
    ·rw [ha]; exact⟨le_refl O _,le_refl O _⟩
    ·have z:=h.2.2.2.2.2 a (by omega) (by omega)
     exact⟨le_trans O z.1 ee.1,le_trans O ee.2 z.2⟩
omit O
def CI (c:Nat->Nat->Bool) (n:Nat) (r:Nat × Array Nat):Prop:=PP n r.2/\1<=r.1/\r.1<=n/\dS c r.2 r.1
include O
theorem vV {n m:Nat}{p:Array Nat} (hp:PP n p) (h1:1<=m) (hm:m<=n) (h:iC c p m):bE n c (CI c n) (kas_tail3 m n p):=by
 have ha:dS c (kas_rev p 0 m) m:=fun a b hab hb=>by
  rw [q0 (by rw [hp.size]; exact hm),q0 (by rw [hp.size]; exact hm),if_pos ⟨az7 _,by omega⟩,if_pos ⟨az7 _,hb⟩]
  exact h _ _ (by omega) (by omega)
 refine bE.bind (R:=fun r=>m<=r/\r<=m+(n - m)/\dS c (kas_rev p 0 m) r/\_) (fun r q=>?_) _ (qB O (hp.rev 0 m) (n - m) m h1 (by omega) ha)
 exact⟨hp.rev _ _,by have:=q.1; omega,by have:=q.2.1; omega,q.2.2.1⟩
theorem vW {n m:Nat}{p:Array Nat} (hp:PP n p) (h1:1<=m) (hm:m+1<=n) (h:iC c p (m+1)):bE n c (CI c n) (kas_descPart m n p):=by
 refine bE.bind (R:=fun r=>DI c n r.1 r.2.1 r.2.2) (fun r q=>?_) _ (mQ O (n - (m+1)) p (m+1) 0 (by omega) ⟨hp,by omega,hm,h,by omega,fun a h1 h2=>?_⟩)
 ·by_cases hq:r.2.2 > 0
  ·rw [if_pos hq]
   obtain ⟨pr,er⟩:=vU O q
   exact vV O pr q.2.1 q.2.2.1 (qD O q.2.2.2.1 fun k _=>er k)
  ·rw [if_neg hq]
   exact vV O q.1 q.2.1 q.2.2.1 q.2.2.2.1
 ·have e:a=m+1 - 1:=by omega
  rw [e]; exact⟨le_refl O _,le_refl O _⟩
theorem T2 {n:Nat}{p:Array Nat} (hp:PP n p) (hn:1<=n):bE n c (CI c n) (kas_count n p):=by
 have a1:dS c p 1:=fun a b hab hb=>by
  have e1:a=0:=by omega
  have e2:b=0:=by omega
  rw [e1,e2]; exact le_refl O _
 refine bE.bind (R:=fun r=>1<=r/\r<=1+(n - 1)/\dS c p r/\(r < 1+(n - 1)->c (G p r) (G p (r - 1))=true)) (fun m q=>?_) _ (qB O hp (n - 1) 1 (aw6 _) (by omega) a1)
 obtain ⟨q1,q2,q3,q4⟩:=q
 by_cases hm:(m == n)=true
 ·rw [if_pos hm]
  exact⟨hp,q1,by omega,q3⟩
 ·rw [if_neg hm]
  have hne:m ≠ n:=by simpa using hm
  have hc:=q4 (by omega)
  by_cases h1:m > 1
  ·rw [if_pos h1]
   refine⟨hp.lt (by omega),hp.lt (by omega),?_⟩
   by_cases hd:c (p.getD 0 0) (p.getD (m - 1) 0)=true
   ·simp only [hd,if_true]
    exact⟨hp,q1,by omega,q3⟩
   ·have hd':c (p.getD 0 0) (p.getD (m - 1) 0)=false:=aE2.mpr hd
    simp only [hd',ay3,aC4]
    have eq:∀ a,0<=a->a < m->iR c (G p a) (G p (m - 1)):=fun a _ ha=>⟨q3 a (m - 1) (by omega) (by omega),le_trans O hd' (q3 0 a (az7 _) ha)⟩
    have er:=vT O hp (by omega:m<=n) eq
    refine vW O (hp.rev 0 m) q1 (by omega) (qD O (p:=p) ?_ fun k _=>er k)
    refine mP O (fun a b hab hb=>?_) q1 (mO O hc)
    exact le_trans O (eq b (az7 _) hb).1 (eq a (az7 _) (by omega)).2
  ·rw [if_neg h1]
   have e:m=1:=by omega
   subst e
   refine vW O hp (aw6 _) (by omega) (mP O (fun a b hab hb=>?_) (aw6 _) (mO O hc))
   have e1:a=0:=by omega
   have e2:b=0:=by omega
   rw [e1,e2]; exact le_refl O _
theorem qE {n k:Nat}{p:Array Nat} (hp:PP n p) (hk:k < n) (ha:dS c p k):∀ (f l r:Nat),l<=r->r<=k->r - l<=f->(∀ a,a < l->Le c (G p a) (G p k))->(∀ a,r<=a->a < k->Le c (G p k) (G p a))->
  bE n c (fun l=>l<=k/\(∀ a,a < l->Le c (G p a) (G p k))/\∀ a,l<=a->a < k->Le c (G p k) (G p a)) (kas_place p k f l r)
 | 0,l,r,h1,h2,h3,hl,hr=>⟨by omega,hl,fun a h4 h5=>hr a (by omega) h5⟩
 | f+1,l,r,h1,h2,h3,hl,hr=>by
  unfold kas_place
  by_cases hlr:l >= r
  ·rw [if_pos hlr]
   exact⟨by omega,hl,fun a h4 h5=>hr a (by omega) h5⟩
  ·rw [if_neg hlr]
   refine⟨hp.lt hk,hp.lt (by omega),?_⟩
   by_cases hc:c (p.getD k 0) (p.getD ((l+r) / 2) 0)=true
   ·simp only [hc,if_true]
    exact qE hp hk ha f l ((l+r) / 2) (by omega) (by omega) (by omega) hl fun a h4 h5=>le_trans O (mO O hc) (ha _ _ h4 h5)
   ·have hc':c (p.getD k 0) (p.getD ((l+r) / 2) 0)=false:=aE2.mpr hc
    simp only [hc',ay3,aC4]
    exact qE hp hk ha f ((l+r) / 2+1) r (by omega) h2 (by omega) (fun a h4=>le_trans O (ha a ((l+r) / 2) (by omega) (by omega)) hc') hr
theorem vX {n:Nat}:∀ (f:Nat) (p:Array Nat) (k:Nat),PP n p->k+f<=n->dS c p k->bE n c (fun q=>PP n q/\dS c q (k+f)) (kas_bin f p k)
 | 0,p,k,hp,_,h=>⟨hp,h⟩
 | f+1,p,k,hp,hk,h=>by
  refine bE.bind (R:=fun l=>l<=k/\(∀ a,a < l->Le c (G p a) (G p k))/\∀ a,l<=a->a < k->Le c (G p k) (G p a)) (fun l q=>?_) _ (qE O hp (by omega) h k 0 k (az7 _) (aw6 _) (by omega) (fun a z=>absurd z (Nat.not_lt_zero _)) fun a h1 h2=>absurd h2 (by omega))
  obtain ⟨q1,q2,q3⟩:=q
  have e:∀ a,G (bubble p k (k - l)) a=if a=l then G p k else if l < a/\a<=k then G p (a - 1) else G p a:=fun a=>by
   rw [T0 (by rw [hp.size]; omega) (by omega),show k - (k - l)=l by omega]
  refine bE.mono (fun r z=>⟨z.1,by rw [show k+(f+1)=k+1+f by omega]; exact z.2⟩) _ (vX f _ (k+1) (hp.bub _ _) (by omega) fun a b hab hb=>?_)
  rw [e,e]
  by_cases ha:a=l
  ·rw [if_pos ha]
   by_cases hb':b=l
   ·rw [if_pos hb']; exact le_refl O _
   ·rw [if_neg hb',if_pos (by omega)]; exact q3 _ (by omega) (by omega)
  ·rw [if_neg ha]
   by_cases ha2:l < a/\a<=k
   ·rw [if_pos ha2,if_neg (by omega),if_pos (by omega)]
    exact h _ _ (by omega) (by omega)
   ·rw [if_neg ha2]
    by_cases hb':b=l
    ·rw [if_pos hb']; exact q2 a (by omega)
    ·rw [if_neg hb']
     by_cases hb2:l < b/\b<=k
     ·rw [if_pos hb2]; exact h _ _ (by omega) (by omega)
     ·rw [if_neg hb2]; exact h _ _ hab (by omega)
theorem T3 {n:Nat} (hn:1<=n):bE n c (fun q=>PP n q/\dS c q n) (kas_sort n):=by
 have hp:PP n (List.toArray (List.range n)):=by unfold PP; simp
 refine bE.bind (R:=CI c n) (fun r q=>?_) _ (T2 O hp hn)
 obtain ⟨q1,q2,q3,q4⟩:=q
 by_cases h:r.1 < n
 ·rw [if_pos h]
  have e:max r.1 1=r.1:=by omega
  rw [e]
  exact bE.mono (fun p z=>⟨z.1,by rw [show r.1+(n - r.1)=n by omega] at z; exact z.2⟩) _ (vX O (n - r.1) r.2 r.1 q1 (by omega) q4)
 ·rw [if_neg h]
  have e:r.1=n:=by omega
  exact⟨q1,by rw [e] at q4; exact q4⟩
end
end Srt
namespace L2
open PySem PySem.Spec PyProof.Rows
theorem aZ.there {P:Program}{w:World}{H:Hp}{h:Heap}{a:Addr}{o:HO} (x:aZ P w H h a o):∃ u,h.get? a=some u:=by
 cases o with
 | lst xs=>obtain ⟨_,_,_,_,e⟩:=x; exact⟨_,e⟩
 | tup xs=>obtain ⟨_,_,_,⟨o,e,_⟩,_⟩:=x; exact⟨_,e⟩
 | dK kvs=>obtain ⟨_,_,_,_,o,_,_,e,_⟩:=x; exact⟨_,e⟩
 | dT kvs=>obtain ⟨_,_,_,_,o,_,_,e,_⟩:=x; exact⟨_,e⟩
 | set S n=>obtain ⟨o,_,_,_,e,_⟩:=x; exact⟨_,e⟩
 | ins C dx fs=>obtain ⟨_,_,_,e,_⟩:=x; exact⟨_,e⟩
 | own y=>exact x
 | xd fs=>obtain ⟨_,⟨_,_,_,e,_⟩,_⟩:=x; exact⟨_,e⟩
 | rng lo hi=>obtain ⟨_,_,_,e⟩:=x; exact⟨_,e⟩
 | frz ob u=>obtain ⟨e,_⟩:=x; exact⟨_,e⟩
 | tbl ps=>exact⟨_,(show h.get? a=some _ from x)⟩
 | met f y=>exact⟨_,(show h.get? a=some _ from x)⟩
 | ext φ=>obtain ⟨_,z,_⟩:=x; exact z
section
variable {X : Cx} {pins : List (Addr × Obj)} {σ : St} {H : Hp} {s : Shared} {h' : Heap} {a : Addr} {o : HO} {t' : Nat}
theorem a5.laidF (I:a5 X pins σ H s) (hn:s.heap.get? a=none) (k:∀ b u,b ≠ X.env.locals->s.heap.get? b=some u->h'.get? b=some u) (ns:∀ m,s.heap.Ns X.env.locals m->h'.Ns X.env.locals m)
  (new:aZ X.prog X.w (upd H a o) h' a o):H a=none/\a5 X pins σ (upd H a o) { s with heap:=h',toks:=t' }:=by
 have hHn:H a=none:=by
  cases q:H a with
  | none=>rfl
  | some u=>obtain ⟨z,e⟩:=(I.hok a u q).there; rw [hn] at e; cases e
 have ne:∀ b u,s.heap.get? b=some u->b ≠ a:=fun b u e z=>by rw [z,hn] at e; cases e
 have hL:=I.free
 refine⟨hHn,I.step (g':=s.gens) (d':=s.drawn) (ch:=[]) (fun _ z=>nomatch z) (fun b o' h1 _ _ e _=>k b o' h1 e) (fun b o' h1 _ _ e _=>⟨o'.slots,k b o' h1 e⟩) (fun b o' _ e n=>by rw [aB (ne b o' e)]; exact n) (fun b o' _ e=>?_)
  (fun b xs q=>by rw [aB (bI q hHn)]; exact q) (fun b u xs q=>by rw [aB (bI q hHn)]; exact q) (fun b ps q=>⟨#[],by rw [aB (bI q hHn),q]; simp⟩) ns (fun b u q=>?_) I.bare⟩
 ·by_cases hb:b=X.env.locals
  ·obtain ⟨m,hm,_⟩:=I.loc
   obtain ⟨o2,_,_,e2,_⟩:=ns m hm
   exact⟨o2,by rw [hb]; exact e2⟩
  ·exact⟨o',k b o' hb e⟩
 ·by_cases hb:b=a
  ·subst hb; rw [aU] at q; cases q; exact new
  ·rw [aB hb] at q
   refine (I.hok b u q).stay (fun c v hc e=>k c v ?_ e) (fun c e=>by rw [aB (bI e hHn)]; exact e) fun c xs e=>by rw [aB (bI e hHn)]; exact e
   rcases hc with z | z
   ·rw [z]; intro y; rw [y,hL] at q; cases q
   ·intro y; rw [y,hL] at z; cases z
theorem a5.newsAll (I:a5 X pins σ H s) {news:List (Addr × Obj)}{m:Str->Option Value} (hs:∀ p ∈ k9 X.base s.heap X.env.locals,p ∈ news) (F:Fr X.base X.env.locals h' m) (N:News X.base X.env.locals h' news) :
  ∀ b o,b ≠ X.env.locals->s.heap.get? b=some o->h'.get? b=some o:=fun b o h1 e=>by
 cases q:X.base.get? b with
 | some u=>
  have:=I.bk b u q
  rw [e] at this; cases this
  exact F.keep b _ q
 | none=>exact (N (b,o) (hs _ (tI h1 q e))).1
end
theorem T4 {α:Type}{d:α} (l:List α) {p:List Nat} (h:p.Perm (List.range l.length)):(p.map fun i=>l.getD i d).Perm l:=by
 have e:(List.range l.length).map (fun i=>l.getD i d)=l:=by
  apply List.ext_getElem
  ·simp
  ·intro i h1 h2
   simp at h1
   simp [h1]
 have:=h.map fun i=>l.getD i d
 rw [e] at this
 exact this
theorem qF:∀ {xs:List V}{us:List Value} (i:Nat),i < xs.length->aL xs us->aN (xs.getD i .non) (us.getD i Value.none)
 | _,_,_,h,.nil=>by simp at h
 | _,_,0,_,.cons r _=>by simpa using r
 | _,_,i+1,h,.cons _ t=>by
  have:=qF i (by simpa using h) t
  simpa using this
theorem vY {xs:List V}{us:List Value} (r:aL xs us):∀ {p:List Nat},(∀ i ∈ p,i < xs.length)->aL (p.map fun i=>xs.getD i .non) (p.map fun i=>us.getD i Value.none)
 | [],_=>.nil
 | i :: p,h=>.cons (qF i (h i ax6) r) (vY r fun j hj=>h j (ax7 _ hj))
theorem qG {α:Type}:∀ l:List α,(l.zip l).map (·.2)=l
 | []=>rfl
 | a :: l=>by
  show a :: ((l.zip l).map (·.2))=a :: l
  rw [qG l]
theorem T5 {prog:Program}{w:World}{A:Around}{E:Value->Shared->Prop}{s:Shared}{a:Addr}{vs:List Value}{n:Nat}{P:PySem.Fin->Shared->Prop} (e:s.heap.get? a=some (seqObj "list" vs.toArray n)) (few:vs.length < 2)
  (q:P (.done (.ret .none)) { s with heap:=sortedHeap s.heap a vs vs.toArray }):wpAny (model prog w) A (Builtin.«list.sort» ⟨[.ref a],[]⟩) P E s:=by
 have big:vs.length<=sizeLine:=aA3 (aD8 few) (by decide)
 have la:=ax2 e
 have c:vs.toArray.size < 2:=by simpa using few
 have same:(arrOf (SortSt.mk' general' (vs.toArray.zip vs.toArray) #[] 7 none)).map (·.2)=vs.toArray:=by
  change (vs.toArray.zip vs.toArray).map (·.2)=vs.toArray
  apply Array.ext'
  simpa using qG vs
 obtain ⟨k,ek⟩:∃ k,(s.heap.update a (Obj.mapSeq fun _=>#[])).get? a=some (seqObj "list" #[] k):=⟨_,get?_update_seq e fun _=>#[]⟩
 have there:(((s.heap.update a (Obj.mapSeq fun _=>#[])).push (seqObj "tuple" vs.toArray 0)).push (seqObj "list" #[] 0)).get? a=some (seqObj "list" #[] k):=
  aw2 _ (aw2 _ ek)
 rw [list_sort_plain]
 apply aw1
 apply listItems_at e rfl
 apply aw1
 refine listUpdate_at e rfl ?_ (by simpa using big) (az7 _)
 apply aw1
 apply seqEpoch_at ek rfl
 apply aw1
 refine wpAny_newTuple ?_ big
 apply aw1
 refine wpAny_newList ?_ (az7 _)
 apply aH5
 simp only [c,if_true,StateT.run_pure]
 apply aw1
 apply aw5
 apply aw1
 apply aw5
 apply aw1
 apply seqEpoch_at there rfl
 apply aw1
 refine listUpdate_at there rfl ?_ (az7 _) (by rw [same,aw4]; exact Nat.le_succ_of_le big)
 rw [same]
 simp only [bne_self_eq_false,ay3,aC4]
 exact aw5 q
theorem T6 {prog:Program}{w:World}{A:Around}{E:Value->Shared->Prop}{s:Shared}{l:Addr}{vs:List Value}{Q:Value->Shared->Prop} (hl:s.heap.IsList l vs.toArray) (few:vs.length < 2)
  (q:Q (.ref (s.heap.objs.size+1)) { s with heap:=sortedAll s.heap vs vs.toArray }):wpAny (model prog w) A (call (.builtin "sorted") [.ref l]) Q E s:=by
 have big:vs.length<=sizeLine:=aA3 (aD8 few) (by decide)
 apply Calls.call_function_entry kind_sorted plain_sorted entry_sorted (args_sorted1 _)
 simp only [Builtin.«sorted»]
 apply aw1 (m:=checkCount "sorted" 1 1 _)
 apply aw5
 apply aw1
 refine collect_list hl ?_ big
 apply aw1
 refine wpAny_newList ?_ big
 have one:((s.heap.push (seqObj "list" #[] 0)).update s.heap.objs.size (Obj.mapSeq (· ++ vs.toArray))).objs.size=s.heap.objs.size+1:=(Heap.size_update _ _ _).trans (size_push' _ _)
 have at1:(((s.heap.push (seqObj "list" #[] 0)).update s.heap.objs.size (Obj.mapSeq (· ++ vs.toArray))).push (seqObj "list" vs.toArray 0)).get? (s.heap.objs.size+1)=some (seqObj "list" vs.toArray 0):=one ▸ ax5 _ rfl
 change wpAny _ _ _ _ _ { s with heap:=((s.heap.push (seqObj "list" #[] 0)).update s.heap.objs.size (Obj.mapSeq (· ++ vs.toArray))).push (seqObj "list" vs.toArray 0) }
 rw [one]
 apply aw1
 apply aH5
 refine aC8 slot_list_sort ⟨_,at1,rfl⟩ entry_list_sort ?_ (args_list_sort _)
 refine T5 at1 few ⟨_,rfl,?_⟩
 exact aw5 ⟨_,rfl,q⟩
theorem vZ:∀ {a b:List Int},HT.dR a b=true->HT.dR b a=false
 | [],[],h=>by cases h
 | [],_ :: _,_=>rfl
 | _ :: _,[],h=>by cases h
 | x :: xs,y :: ys,h=>by
  rw [HT.kN] at h ⊢
  by_cases e:x=y
  ·rw [if_pos e] at h; rw [if_pos e.symm]; exact vZ h
  ·rw [if_neg e] at h; rw [if_neg (Ne.symm e)]
   have:=of_decide_eq_true h
   exact ax4 (by omega)
theorem w4:∀ {a b c:List Int},HT.dR a b=false->HT.dR b c=false->HT.dR a c=false
 | [],[],c,_,h=>h
 | [],_ :: _,_,h,_=>by cases h
 | _ :: _,[],[],_,_=>rfl
 | _ :: _,[],_ :: _,_,h=>by cases h
 | _ :: _,_ :: _,[],_,_=>rfl
 | x :: xs,y :: ys,z :: zs,h1,h2=>by
  rw [HT.kN] at h1 h2 ⊢
  by_cases e1:x=y
  ·rw [if_pos e1] at h1
   by_cases e2:y=z
   ·rw [if_pos e2] at h2; rw [if_pos (e1.trans e2)]; exact w4 h1 h2
   ·rw [if_neg e2] at h2; rw [if_neg (by rw [e1]; exact e2)]; rw [e1]; exact h2
  ·rw [if_neg e1] at h1
   have k1:=of_decide_eq_false h1
   by_cases e2:y=z
   ·rw [<- e2,if_neg e1]; exact h1
   ·rw [if_neg e2] at h2
    have k2:=of_decide_eq_false h2
    rw [if_neg (by omega)]
    exact ax4 (by omega)
def w5 (H:Hp):V->List Int
 | .ref b=>match H b with
  | some (.tup xs)=>xs.map fun x=>match x with
   | .int i=>i
   | _=>0
  | _=>[]
 | _=>[]
section
variable {prog : Program} {w : World} {A : Around} {s : Shared} {Q : Bool → Shared → Prop}
theorem w6:∀ {us ws:List Value}{xs ys:List Int} (i:Nat),IntsAre us xs->IntsAre ws ys->Q (HT.dR xs ys) s->PySem.W.KatLex prog w A true (decide (us.length < ws.length)) Q (us.zip ws) i s
 | _,_,_,_,_,.nil,.nil,h=>h
 | _,_,_,_,_,.nil,.cons _ _ _,h=>h
 | _,_,_,_,_,.cons _ _ _,.nil,h=>h
 | _,_,_,_,i,.cons (vs:=us) x t hx,.cons (vs:=ws) y u hy,h=>by
  refine PySem.W.kat_cons (wpAny_eqBool_int ?_)
  rw [HT.kN] at h
  by_cases e:x=y
  ·rw [if_pos e] at h
   have eb:(x == y)=true:=by simpa using e
   rw [eb]
   refine PySem.W.kat_yes ?_
   have e2:decide ((Value.int x t :: us).length < (Value.int y u :: ws).length)=decide (us.length < ws.length):=by simp
   rw [e2]
   exact w6 (i+1) hx hy h
  ·rw [if_neg e] at h
   have eb:(x == y)=false:=by simpa using e
   rw [eb]
   refine PySem.W.kat_no ?_
   cases hi:(true && i == 0) with
   | true=>exact PySem.W.kat_lt_int h
   | false=>exact PySem.W.kat_one _ _ (lt_int h)
end
def w9 (K:PySem.W.Frag):List V->Hp->VK->Prop:=fun xs H Q=>∃ (a:Addr) (ys:List V) (key:V->List Int),xs = [.ref a]/\aH K H a ys/\ys.length < 64/\(∀ y ∈ ys,∃ b,y = .ref b/\aI K H b ((key y).map V.int)/\key y ≠ [])/\
 ∀ l (zs:List V),H l=none->zs.Perm ys->zs.Pairwise (fun u v=>HT.dR (key v) (key u)=false)->Q (.ref l) (upd H l (.lst zs))
theorem T7 {c:Nat->Nat->Bool}{R:V->V->Prop}{ys:List V}{p:Array Nat}{n:Nat} (hp:Srt.PP n p) (ha:Srt.dS c p n) (hR:∀ i j,Srt.Le c i j->R (ys.getD i .non) (ys.getD j .non)) :
  (p.toList.map fun i=>ys.getD i .non).Pairwise R:=by
 rw [aH2,List.pairwise_iff_getElem]
 intro i j hi hj hij
 have hs:=hp.size
 have h1:i < n:=by rw [<- hs]; simpa using hi
 have h2:j < n:=by rw [<- hs]; simpa using hj
 have q:=ha i j (aD8 hij) h2
 have e:∀ k (hk:k < p.toList.length),Srt.G p k=p.toList[k]:=fun k hk=>by
  have hk':k < p.size:=by simpa using hk
  unfold Srt.G; rw [aE1]; simp [hk']
 rw [e i hi,e j hj] at q
 exact hR _ _ q
theorem T8 {X:Cx}:cC X (.builtin "sorted") (w9 X.K):=by
 intro pins s σ H xs us Q I r h
 obtain ⟨a,ys,key,rfl,hs,h64,hk,q⟩:=h
 obtain ⟨u,rfl,ru⟩:=gL r
 cases ru
 obtain ⟨its,rv,p,hz⟩:=I.list hs
 have hl:=rv.length
 by_cases h2:its.length < 2
 ·
  refine T6 p.isList h2 ?_
  obtain ⟨e,he⟩:=sortedAll_at s.heap its its.toArray
  have hn:s.heap.objs.size<=s.heap.objs.size+1:=Nat.le_succ _
  refine⟨.ref (s.heap.objs.size+1),upd H (s.heap.objs.size+1) (.lst ys),I.laid (t':=s.toks) (fun _ _=>sortedAll_old) hn ⟨hz,its,e,rv,he⟩,rfl,q _ ys (I.hok.fresh hn) (List.Perm.refl _) ?_⟩
  match ys,hl with
  | [],_=>exact List.Pairwise.nil
  | [_],_=>exact aD1 _ _
  | _ :: _ :: _,hl=>simp at hl; omega
 ·obtain ⟨m,F⟩:=I.fr
  have hL:∀ {b:Addr}{k:List Int},aI X.K H b (k.map V.int)->b ≠ X.env.locals:=fun {b k} z e=>by
   obtain ⟨its',_,⟨ob,e1,c1,_⟩,_⟩:=I.tuple z
   obtain ⟨m',⟨o',es',ep',e2,d2,_⟩,_⟩:=I.loc
   rcases z with (z | ⟨_,z⟩) | ⟨o3,its3,n3,z3,zc,zd,_⟩
   ·rw [e,I.free] at z; cases z
   ·rw [e,I.free] at z; cases z
   ·have:=I.kIn b o3 z3
    rw [e,e2] at this
    cases this
    rw [d2] at zd; cases zd
  refine PySem.W.kat_sorted F (E6 (g:=X.base) (h:=s.heap) (L:=X.env.locals)) p.isList (by omega) (by omega) fun D e1 h' F' N' hD=>?_
  have keep:=I.newsAll (fun p hp=>ax7 _ hp) F' N'
  have look:∀ i,i < ys.length->∃ (b:Addr) (ob:Obj) (us:List Value) (n:Nat),its.getD i Value.none = .ref b/\h'.get? b=some ob/\ob.cls = .type "tuple"/\ob.data = .seq us.toArray n/\IntsAre us (key (ys.getD i .non))/\key (ys.getD i .non) ≠ []:=fun i hi=>by
   have hy:ys.getD i .non ∈ ys:=by
    rw [ax8,aw3 hi]; exact aG0 hi
   obtain ⟨b,eb,sq,ne⟩:=hk _ hy
   have rr:=qF i hi rv
   rw [eb] at rr
   have rr:its.getD i Value.none = .ref b:=rr
   obtain ⟨us,ru,⟨ob,e1,c1,n1,d1⟩,_⟩:=I.tuple sq
   exact⟨b,ob,us,n1,rr,keep b ob (hL sq) e1,c1,d1,pD ru,ne⟩
  have firsts:∀ {xs:List V}{vs:List Value},aL xs vs->(∀ y ∈ xs,∃ b,y = .ref b/\aI X.K H b ((key y).map V.int)/\key y ≠ [])->∃ fs:List Value,PySem.W.KatTups h' vs fs/\fs.length=vs.length/\∀ v ∈ fs,∃ i t,v=Value.int i t:=by
   intro xs vs r
   induction r with
   | nil=>intro _; exact⟨[],PySem.W.KatTups.nil,rfl,fun _ z=>nomatch z⟩
   | @cons x v xs vs rx rt ih=>
    intro hh
    obtain ⟨fs,t1,t2,t3⟩:=ih fun y hy=>hh y (ax7 _ hy)
    obtain ⟨b,eb,sq,ne⟩:=hh x ax6
    subst eb
    cases rx
    obtain ⟨us,ru,⟨ob,e1,c1,n1,d1⟩,_⟩:=I.tuple sq
    have ia:=pD ru
    generalize key (V.ref b)=kk at ia ne
    cases ia with
    | nil=>exact absurd rfl ne
    | @cons n t vs0 ns0 ht=>
     exact⟨Value.int n t :: fs,PySem.W.KatTups.cons (keep b ob (hL sq) e1) c1 d1 (by simp) t1,by simp [t2],fun v hv=>(aw7.mp hv).elim (fun z=>⟨n,t,z⟩) (t3 v)⟩
  obtain ⟨fs,t1,t2,t3⟩:=firsts rv hk
  refine PySem.W.kat_kind (T:=.type "int") t1 (by omega) (fun v hv=>?_) (by decide) ?_
  ·obtain ⟨i,t,rfl⟩:=t3 v hv
   exact PySem.W.Looks.now
  let c:Nat->Nat->Bool:=fun i j=>HT.dR (key (ys.getD i .non)) (key (ys.getD j .non))
  have O:Srt.qA c:=⟨fun h=>vZ h,fun h1 h2=>w4 h1 h2⟩
  have ok:=Srt.T3 (n:=its.length) O (by omega)
  refine Srt.bE.run (I:=fun s'=>s'={ s with heap:=h' }) (fun i j C s' hi hj hI hC=>?_) (fun pa s' hR hI=>?_) _ _ rfl ok
  ·subst hI
   obtain ⟨b1,o1,u1,n1,g1,g2,_,g4,g5,_⟩:=look i (by omega)
   obtain ⟨b2,o2,u2,n2,k1,k2,_,k4,k5,_⟩:=look j (by omega)
   show wpAny _ _ (keyLt' (tuples' (Value.type "int" != Value.type "tuple")) (its.getD i Value.none) (its.getD j Value.none)) _ _ _
   rw [g1,k1]
   have eT:(Value.type "int" != Value.type "tuple")=true:=by decide
   rw [eT]
   refine PySem.W.kat_lt g2 g4 k2 k4 ?_
   have:=w6 (prog:=X.prog) (w:=X.w) (A:=X.A.in1.in1) (s:={ s with heap:=h' }) (Q:=C) 0 g5 k5 (hC _ rfl)
   simpa using this
  ·subst hI
   obtain ⟨hp,hasc⟩:=hR
   refine PySem.W.KasFin.intro F' N' (PySem.W.UpdF.head fun p hp=>ay8 (hD p hp)) fun h2 cc F2 N2=>?_
   have keep2:=I.newsAll (fun p hp=>ax7 _ hp) F2 N2
   have hDn:s.heap.get? D=none:=by
    cases z:s.heap.get? D with
    | none=>rfl
    | some o=>
     obtain ⟨_,n1,n2⟩:=N2 (D,_) ax6
     exact absurd (hD _ (tI n1 n2 z)) (az9 _)
   have hpl:∀ i ∈ pa.toList,i < ys.length:=fun i hi=>by
    have:=aG1.mp (hp.mem_iff.mp hi); omega
   have hp':pa.toList.Perm (List.range ys.length):=by rw [hl]; exact hp
   have pm:=T4 (d:=V.non) ys hp'
   obtain ⟨hDo,hDL,hDb⟩:=N2 (D,_) ax6
   obtain ⟨hHD,I2⟩:=I.laidF (t':=s.toks) (a:=D) (o:=.lst (pa.toList.map fun i=>ys.getD i .non)) hDn keep2 (fun m' hm'=>by
     have e:m'=m:=funext fun nm=>Heap.Ns.agree hm' F.ns nm
     rw [e]; exact F2.ns) ⟨by rw [pm.length_eq]; exact hz,_,cc,vY rv hpl,hDo⟩
   exact⟨.ref D,_,I2,rfl,q D _ hHD pm (T7 hp hasc fun i j hle=>hle)⟩
end L2
namespace Raw
open PySem PySem.W PySem.Calls PyProof.Rows
def dU (h:Heap) (d:Addr) (es:Array DictEntry) (ep:Nat):Prop:=∃ o,h.get? d=some o/\o.ExactDict/\o.data = .dict es ep
theorem dU.ty {s:Shared}{d:Addr}{es:Array DictEntry}{ep:Nat} (x:dU s.heap d es ep):s.TypeIs (.ref d) "dict":=x.elim fun o y=>⟨o,y.1,y.2.1.1⟩
theorem dU.lt {h:Heap}{d:Addr}{es:Array DictEntry}{ep:Nat} (x:dU h d es ep):d < h.objs.size:=x.elim fun _ y=>ax2 y.1
theorem dU.keep {h h':Heap}{d:Addr}{es:Array DictEntry}{ep:Nat} (x:dU h d es ep) (k:∀ o,h.get? d=some o->h'.get? d=some o):dU h' d es ep:=x.elim fun o y=>⟨o,k o y.1,y.2⟩
section
variable {prog : Program} {w : World} {A : Around} {E : Value → Shared → Prop} {s : Shared} {d it : Addr} {es : Array DictEntry} {ep i : Nat}
theorem made (far:(d == sysModules)=false) (x:dU s.heap d es ep) {Q:Value->Shared->Prop}
  (q:Q (.ref s.heap.objs.size) { s with heap:=s.heap.push { cls:=.type "dict_keyiterator",data:=.fields #[.ref d,.int 0 0,.int es.size 0,.int ep 0] } }):wpAny (model prog w) A (pyIter (.ref d)) Q E s:=by
 have T:=x.ty
 obtain ⟨o,e1,e2,e3⟩:=x
 apply wpAny_pyIter_slot T PySem.F.slot_dict_iter
 apply aC8 PySem.F.slot_dict_iter T PySem.F.entry_dict_iter _ (PySem.F.args_dict_iter_1 _)
 simp only [Builtin.«dict.__iter__»,Builtin.Dict.dictSlotNone]
 apply aw1
 apply aw1
 apply wpAny_notOrdered_dict T
 apply aw5
 change wpAny _ _ (Builtin.Dict.showsAll d >>= _) _ _ s
 have far':Builtin.Dict.showsAll d=pure ():=by
  unfold Builtin.Dict.showsAll
  simp only [far,ay3,aC4]
 rw [far',pure_bind]
 apply aw1
 apply wpAny_dictEntries e1 e3
 apply aw1
 apply wpAny_dictEpoch e1 e3
 apply aw1
 refine aB4 (aw5 ?_)
 refine⟨.ref s.heap.objs.size,rfl,"dict_keyiterator",_,⟨_,ax5 _ rfl,rfl⟩,PySem.F.slot_dict_keyiterator_next.lookup,?_⟩
 simpa only [rawInt] using q
theorem turn (hh:A.handled=none) (hi:s.heap.IsKeyIter it d i es.size ep) (x:dU s.heap d es ep) {Q:Option Value->Shared->Prop}
  (yes:∀ (lt:i < es.size) h',h'.IsKeyIter it d (i+1) es.size ep->Heap.SameBut it s.heap h'->Q (some es[i].key) { s with heap:=h' })
  (no:es.size<=i->∀ h',Heap.ExtBut it s.heap h'->Q none { s with heap:=h' }):wpAny (model prog w) A (pyNext (.ref it)) Q E s:=by
 have T:=hi.typeIs
 obtain ⟨oi,f1,f2,f3⟩:=hi
 obtain ⟨o,e1,e2,e3⟩:=x
 have slot:=PySem.F.slot_dict_keyiterator_next
 have plain:Builtin.Dict_items.ownsTuple "dict_keyiterator" = false:=by decide
 have isref:(Value.ref d == Value.none)=false:=rfl
 have nn : ¬ (i:Int) < 0:=by omega
 unfold pyNext
 apply aw1
 apply wpAny_attempt
 apply aA5 (name:=Str.ofString "__next__") T slot
 apply aC8 slot T PySem.F.entry_dict_keyiterator_next _ (PySem.F.args_dict_keyiterator_next_1 _)
 apply aw1
 apply aw5
 apply aw1
 apply aw1
 apply aw1
 first
  | apply wpAny_typeNameOfWhole_keyiter T
  | apply wpAny_typeNameOf_keyiter T
 apply aw5
 apply aw1
 apply wpAny_fieldsOf f1 f3
 simp only [plain,ay3,aC4]
 change wpAny _ _ (if (Value.ref d == Value.none)=true then _ else _) _ _ s
 have adr:Builtin.Dict_items.addrOf (Value.ref d)=pure d:=rfl
 simp only [isref,ay3,aC4,adr,pure_bind]
 apply aw1
 apply wpAny_dictEntries e1 e3
 simp only [bne_self_eq_false,ay3,aC4]
 apply aw1
 apply wpAny_dictEpoch e1 e3
 simp only [bne_self_eq_false,ay3,aC4]
 apply aw5
 simp only [nn,aC4,aF3]
 by_cases lt:i < es.size
 ·simp only [Array.getElem?_eq_getElem lt]
  apply aw1
  apply aw1
  first
   | apply wpAny_typeNameOfWhole_keyiter T
   | apply wpAny_typeNameOf_keyiter T
  apply aw5
  apply aw1
  apply wpAny_isOneOf_keyiter T
  change wpAny _ _ (setField (.ref it) 1 (rawInt ((i:Int)+1)) >>= _) _ _ s
  apply aw1
  refine wpAny_setField f1 f3 (by simp) ?_
  have again:(s.heap.update it (Obj.mapFields (·.setIfInBounds 1 (rawInt ((i:Int)+1))))).IsKeyIter it d (i+1) es.size ep:=by
   refine⟨_,Heap.get?_update_self _ f1 (Obj.isFreed_of_fields (Obj.data_mapFields f3 _)),?_,?_⟩
   ·rw [Obj.cls_mapFields]; exact f2
   ·rw [Obj.data_mapFields f3]; simp [rawInt]
  apply aw1
  apply aH5
  apply aw1
  refine wpAny_isOneOf_keyiter (s:={ s with heap:=s.heap.update it (Obj.mapFields (·.setIfInBounds 1 (rawInt ((i:Int)+1)))) }) again.typeIs ?_
  change wpAny _ _ (pure es[i].key) _ _ _
  apply aw5
  apply aw5
  exact⟨es[i].key,rfl,aw5 (yes lt _ again (aF6 ..))⟩
 ·have ge:es.size<=i:=aF9 lt
  simp only [Array.getElem?_eq_none ge]
  apply aw1
  apply aw1
  first
   | apply wpAny_typeNameOfWhole_keyiter T
   | apply wpAny_typeNameOf_keyiter T
  apply aw5
  change wpAny _ _ (setField (.ref it) 0 .none >>= _) _ _ s
  apply aw1
  refine wpAny_setField f1 f3 (by simp) ?_
  apply aw1
  simp only [newExc,newTuple]
  apply aw1
  refine aB4 ?_ (by size_fits)
  apply aw1
  refine wpAny_of_eq (a:=Value.none) (by first | rfl | (simp only [firstArgMember]; rfl)) ?_
  refine aB4 ?_ (by size_fits)
  unfold raiseNew
  apply aw1
  apply wpAny_handled
  have quiet:A.in1.handled=none:=hh
  rw [quiet]
  refine wpAny_throw ?_
  apply aw1
  refine wpAny_isInstance (T:="StopIteration") (b:=true) ⟨_,ax5 _ rfl,rfl⟩ isSubtype_stop ?_
  exact aw5 (no ge _ (((aF6 ..).extBut.push _).push _))
theorem T9 (hh:A.handled=none) (ne:d ≠ it):Walks prog w A it [it,d] [it] es.size (fun i v=>∃ lt:i < es.size,es[i].key=v) (fun i h=>h.IsKeyIter it d i es.size ep/\dU h d es ep) where
 sub:=by intro b hb; rw [ay2.mp hb]; exact ax6
 frame:=by
  intro i h h' st hk
  exact⟨st.1.at (hk it ax6),st.2.keep (hk d (ax7 _ ax6))⟩
 item:=by
  intro i s Q E lt st hQ
  refine turn hh st.1 st.2 (fun lt' h' again sb=>?_) fun ge=>absurd lt (Nat.not_lt.mpr ge)
  exact hQ _ h' s.toks ⟨lt',rfl⟩ ⟨again,st.2.keep fun o e=>sb.extBut d o ne e⟩ fun b o hb e=>sb.extBut b o (fun z=>hb (ay2.mpr z)) e
 done:=by
  intro s Q E st hQ
  refine turn hh st.1 st.2 (fun lt=>absurd lt (az9 _)) fun _ h' eb=>?_
  exact hQ h' s.toks fun b o hb e=>eb b o (fun z=>hb (ay2.mpr z)) e
 self:=by intro i s Q E st hQ; exact wpAny_pyIter_keyiter st.1 hQ
theorem U0 (far:(d == sysModules)=false):KdlSrc prog w "dict" d d es.size (fun i v=>∃ lt:i < es.size,es[i].key=v) (fun h=>dU h d es ep) where
 type:=fun _ x=>x.ty
 there:=fun _ x=>⟨x.lt,x.lt⟩
 keep:=fun _ _ x k=>x.keep (k d (.inl rfl))
 notList:=by decide
 notTuple:=by decide
 hint:=fun _ _ _ _ x q=>kdl_hint_dict x.ty q
 iter:=fun _ _ hh x=>⟨_,_,fun _ _ q=>made far x q,T9 hh (ay8 x.lt),⟨_,ax5 _ rfl,rfl,rfl⟩,x.keep fun o e=>aw2 _ e⟩
end
end Raw
namespace L2
open PySem PySem.Spec PyProof.Rows
section
variable {X : Cx} {pins : List (Addr × Obj)} {σ : St} {H : Hp} {s : Shared} {a : Addr}
def jF (H:Hp) (y:V) (k:List aD):Prop:=∃ q,y = .ref q/\H q=some (.tup (k.map kV))
theorem U1 {kvs:List (aD × V)} (I:a5 X pins σ H s) (h:H a=some (.dK kvs)):∃ es ep,Raw.dU s.heap a es ep/\(a == sysModules)=false/\aL (kvs.map fun p=>kV p.1) (es.toList.map (·.key))/\kvs.length<=sizeLine:=by
 obtain ⟨z,far,vs,rel,o,es,ep,e1,e2,e3,kk,pr,nd⟩:=(show aZ X.prog X.w H s.heap a (.dK kvs) from I.hok a _ h)
 refine⟨es,ep,⟨o,e1,e2,e3⟩,far,?_,z⟩
 clear z far e1 e2 e3 kk nd h
 generalize es.toList=l at pr
 induction pr generalizing kvs with
 | nil=>cases rel; exact .nil
 | @cons e k es' kvs' h1 h2 _ ih=>
  cases rel with
  | @cons p q ps qs r rs=>
   refine .cons ?_ (ih rs)
   obtain ⟨r1,_⟩:=r
   show aN (kV p.1) e.key
   rw [r1]
   rcases fU h1 with ⟨n,t,e4,e5⟩ | ⟨x,t,e4,e5⟩
   ·rw [e4,e5]; exact⟨t,rfl⟩
   ·rw [e4,e5]; exact⟨t,rfl⟩
theorem wA {kvs:List (List aD × V)} (I:a5 X pins σ H s) (h:H a=some (.dT kvs)):∃ es ep ys,Raw.dU s.heap a es ep/\(a == sysModules)=false/\Paired (jF H) ys (kvs.map (·.1))/\aL ys (es.toList.map (·.key))/\kvs.length<=sizeLine:=by
 obtain ⟨z,far,xs,rel,o,es,ep,e1,e2,e3,e4,nd⟩:=(show aZ X.prog X.w H s.heap a (.dT kvs) from I.hok a _ h)
 refine⟨es,ep,xs.map fun q=>V.ref q.2.1,⟨o,e1,e2,e3⟩,far,?_,?_,z⟩
 ·clear e4 nd h z
  induction rel with
  | nil=>exact .nil
  | cons r rs ih=>exact .cons ⟨_,rfl,r.2.1⟩ ih
 ·rw [e4]
  clear rel e4 nd
  induction xs with
  | nil=>exact .nil
  | cons q qs ih=>exact .cons rfl ih
theorem U2 {es:Array DictEntry}{acc:Array Value} (h:ItemsOf (fun i v=>∃ lt:i < es.size,es[i].key=v) acc es.size):acc.toList=es.toList.map (·.key):=by
 apply List.ext_getElem?
 intro j
 have h1:=h.1
 by_cases hj:j < es.size
 ·have hj':j < acc.size:=by rw [h1]; exact hj
  obtain ⟨_,e⟩:=h.2 j acc[j] (by simp [hj'])
  rw [aw8]
  simp [hj,hj',e]
 ·have hj' : ¬ j < acc.size:=by rw [h1]; exact hj
  rw [aw8]
  simp [aF9 hj,aF9 hj']
theorem U3 (hc:X.calm=true):cC X (.type "list") (fun xs H Q=>∃ a kvs,xs = [.ref a]/\H a=some (.dT kvs)/\∀ l ys,H l=none->Paired (jF H) ys (kvs.map (·.1))->Q (.ref l) (upd H l (.lst ys))):=by
 intro pins s σ H xs us Q I r h
 obtain ⟨a,kvs,rfl,ha,q⟩:=h
 obtain ⟨u,rfl,ru⟩:=gL r
 cases ru
 obtain ⟨es,ep,ys,rd,far,pk,vk,z⟩:=wA I ha
 have hl:=vk.length
 have hl2:=pk.length
 rw [aw9] at hl hl2
 have hsz:es.toList.length=es.size:=az4
 refine PySem.W.kdl_call (Raw.U0 far) (I.ok.hd hc) rd (by omega) fun h' tk acc c kp e it=>?_
 refine⟨.ref s.heap.objs.size,_,I.laid (t':=tk) kp (aw6 _) (show aZ X.prog X.w _ h' _ (.lst ys) from ⟨by omega,acc.toList,c,by rw [U2 it]; exact vk,by simpa using e⟩),rfl,q _ ys (I.hok.fresh (aw6 _)) pk⟩
end
section
variable {X : Cx}
theorem U4:cC X (.builtin "isinstance") (fun xs H Q=>∃ x t n b,xs = [x,.ty n]/\dQ X.K H x t/\PySem.W.kitOne X.K t (.type n)=some b/\Q (.bl b) H):=by
 intro pins s σ H xs us Q I r h
 obtain ⟨x,t,n,b,rfl,ty,e,q⟩:=h
 obtain ⟨u,u',rfl,ru,ru'⟩:=kK r
 cases ru'
 exact M0 I ru ty e fun tk=>⟨.bl b,H,I.tok tk,rfl,q⟩
end
def wB (outer:List (Str × NameKind)) (XN:List Str) (names:List (Str × NameKind)) (N:List Str) (fr:List (Option Nat)):Bool:=
 names.all (fun y=>!(y.2 == .cell) || names.lookup y.1 == some .cell) && names.all (fun y=>!(y.2 == .local) || names.lookup y.1 == some .local) &&
 names.all (fun y=>!(y.2 == .free) || (outer.lookup y.1 == some .cell || outer.lookup y.1 == some .free)) && fr.length == N.length &&
 (fr.zip N).all (fun p=>match p.1 with
  | none=>true
  | some j=>XN[j]? == some p.2 && names.lookup p.2 == some .free)
theorem cF.of {X:Cx}{scope:Scope}{N:List Str}{fr:List (Option Nat)} (hk:scope.kind = .function) (h:wB X.env.scope.names X.N scope.names N fr=true):cF X scope N fr:=by
 unfold wB at h
 simp only [az2] at h
 obtain ⟨⟨⟨⟨h1,h2⟩,h3⟩,h4⟩,h5⟩:=h
 refine⟨hk,fun y hy e=>?_,fun y hy e=>?_,fun y hy e=>?_,by simpa using h4,fun i j e=>?_⟩
 ·have:=aD6.mp h1 y hy
  rw [e] at this; simpa using this
 ·have:=aD6.mp h2 y hy
  rw [e] at this; simpa using this
 ·have:=aD6.mp h3 y hy
  rw [e] at this; simpa using this
 ·have hl:fr.length=N.length:=by simpa using h4
  have hi:i < fr.length:=(ax3.mp e).1
  have m:(some j,N[i]'(by omega)) ∈ fr.zip N:=by
   have:(fr.zip N)[i]? = some (some j,N[i]'(by omega)):=by
    rw [List.getElem?_zip_eq_some]
    exact⟨e,by simp⟩
   exact aB3 this
  have:=aD6.mp h5 _ m
  simp only [az2,beq_iff_eq] at this
  exact⟨N[i]'(by omega),by simp,this.1,this.2⟩
theorem U5 {n:Option V}{r:St}{v:V}:Wk (none :: r) (some v :: r):=(Wk.refl (none :: r)).set (i:=0) rfl
def jG (H:Hp) (ys:List V) (ls:List (Int × Int)):Prop:=Paired (fun y l=>∃ b,y = .ref b/\H b=some (.tup [.int l.1,.int l.2])) ys ls
structure wC (H:Hp) (v:V) (ws:List Int) (ls:List (Int × Int)):Prop where
 at_:∃ a p q ys,v = .ref a/\H a=some (.tup [.ref p,.ref q])/\H p=some (.tup (ws.map V.int))/\H q=some (.tup ys)/\jG H ys ls
theorem jG.get {H:Hp}:∀ {ys:List V}{ls:List (Int × Int)}{i:Nat}{y:V},jG H ys ls->ys[i]? = some y->∃ l b,ls[i]? = some l/\y = .ref b/\H b=some (.tup [.int l.1,.int l.2])
 | _,_,_,_,.nil,e=>by simp at e
 | _,_,0,_,.cons (b:=l) ⟨b,h1,h2⟩ _,e=>by simp at e; subst e; exact⟨l,b,rfl,h1,h2⟩
 | _,_,i+1,_,.cons _ t,e=>by
  obtain ⟨l,b,h1,h2⟩:=jG.get (i:=i) t (by simpa using e)
  exact⟨l,b,by simpa using h1,h2⟩
def b8 (ls:List (Int × Int)) (k:Int):List Int:=ls.flatMap fun l=>(if l.1=k then [l.2] else []) ++ (if l.2=k then [l.1] else [])
theorem U6 (ls:List (Int × Int)) (l:Int × Int) (k:Int):b8 (ls ++ [l]) k=b8 ls k ++ ((if l.1=k then [l.2] else []) ++ (if l.2=k then [l.1] else [])):=by
 unfold b8; rw [List.flatMap_append]; simp
theorem wD {ls:List (Int × Int)}{i:Nat}{l:Int × Int} (h:ls[i]? = some l) (k:Int):b8 (ls.take (i+1)) k=b8 (ls.take i) k ++ ((if l.1=k then [l.2] else []) ++ (if l.2=k then [l.1] else [])):=by
 rw [aE4,h]; exact U6 _ _ _
structure gR (H H':Hp) (r:Addr) (bs:List Addr) (f:Nat->List Int):Prop where
 new:H r=none
 news:∀ b ∈ bs,H b=none/\b ≠ r
 nd:bs.Nodup
 row:H' r=some (.lst (bs.map V.ref))
 rows:∀ (k:Nat) (b:Addr),bs[k]? = some b->H' b=some (.lst ((f k).map V.int))
 same:a9 H H'
theorem gR.congr {H H':Hp}{r:Addr}{bs:List Addr}{f g:Nat->List Int} (h:gR H H' r bs f) (e:∀ k,k < bs.length->f k=g k):gR H H' r bs g:=
 ⟨h.new,h.news,h.nd,h.row,fun k b hb=>by rw [<- e k (ax3.mp hb).1]; exact h.rows k b hb,h.same⟩
theorem gR.app {H H':Hp}{r:Addr}{bs:List Addr}{f:Nat->List Int} (h:gR H H' r bs f) {k:Nat}{b:Addr} (hb:bs[k]? = some b) (x:Int) :
  gR H (upd H' b (.lst ((f k).map V.int ++ [V.int x]))) r bs (fun j=>if j=k then f j ++ [x] else f j):=by
 have hm:b ∈ bs:=aB3 hb
 refine⟨h.new,h.news,h.nd,by rw [aB (Ne.symm (h.news b hm).2)]; exact h.row,fun j c hc=>?_,fun c o e=>by rw [aB (bI e (h.news b hm).1)]; exact h.same c o e⟩
 by_cases hj:j=k
 ·subst hj
  rw [hb] at hc; cases hc
  rw [aU,if_pos rfl]; simp
 ·rw [if_neg hj]
  have ne:c ≠ b:=fun z=>by
   subst z
   obtain ⟨i1,e1⟩:=ax3.mp hb
   obtain ⟨i2,e2⟩:=ax3.mp hc
   refine hj (Nat.le_antisymm (aF9 fun z=>?_) (aF9 fun z=>?_))
   ·exact List.pairwise_iff_getElem.mp h.nd _ _ i1 i2 z (e1.trans e2.symm)
   ·exact List.pairwise_iff_getElem.mp h.nd _ _ i2 i1 z (e2.trans e1.symm)
  rw [aB ne]; exact h.rows j c hc
theorem qH (ls:List (Int × Int)) (k:Int):(b8 ls k).length<=2 * ls.length:=by
 induction ls with
 | nil=>exact aw6 _
 | cons l r ih=>
  have e:b8 (l :: r) k=((if l.1=k then [l.2] else []) ++ (if l.2=k then [l.1] else [])) ++ b8 r k:=rfl
  rw [e,ax9,ax9,aC9]
  have h1:(if l.1=k then [l.2] else []).length<=1:=by split <;> simp
  have h2:(if l.2=k then [l.1] else []).length<=1:=by split <;> simp
  omega
theorem mR {α:Type}{xs:List α}{i:Int}{v:α} (h0:0<=i) (h:xs[i.toNat]? = some v):atI xs i=some v:=by
 have:=kO h
 rwa [show ((i.toNat:Nat):Int)=i by omega] at this
theorem fZ {n:Nat} (h:n<=16000000):n < sizeLine:=by rw [sizeLine_eq]; omega
theorem mS {σ:St}{H:Hp}{A B:Hp->Prop} (h:A H):pW σ H fun b H4=>if b=true then A H4 else B H4:=by
 show if true=true then A H else B H
 rw [if_pos rfl]; exact h
theorem mT {K:PySem.W.Frag}{H:Hp}{p:Addr}{xs:List V} (h:aH K H p xs):fG K "list" (.ref p) H:=.inl ⟨rfl,xs,h⟩
def kY (H:Hp) (y:V):Int × Int:=match w5 H y with
 | [a,b]=>(a,b)
 | _=>(0,0)
theorem mU {H:Hp}:∀ {zs:List V},(∀ y ∈ zs,∃ b,y = .ref b/\H b=some (.tup [.int (kY H y).1,.int (kY H y).2])/\w5 H y = [(kY H y).1,(kY H y).2])->jG H zs (zs.map (kY H))
 | [],_=>.nil
 | y :: zs,h=>by
  obtain ⟨b,e,hb,_⟩:=h y ax6
  exact .cons ⟨b,e,hb⟩ (mU fun z hz=>h z (ax7 _ hz))
end L2
namespace Zp
open PySem PyProof.Rows
section
variable {prog : Program} {w : World} {A : Around} {E : Value → Shared → Prop} {s : Shared}
theorem wE {it t:Addr}{i:Nat}{items:Array Value}{x:Value}{Q:Value->Shared->Prop} (hi:s.heap.IsTupleIter it t i) (ht:s.heap.IsTuple t items) (hx:items[i]? = some x)
  (q:∀ h',h'.IsTupleIter it t (i+1)->Heap.SameBut it s.heap h'->Q x { s with heap:=h' }):wpAny (model prog w) A (Builtin.SmallTypes.nextOf (.ref it)) Q E s:=by
 have T:=hi.typeIs
 obtain ⟨o,e1,e2,e3⟩:=hi
 obtain ⟨u,f1,_,k,f3⟩:=ht
 have slot:=PySem.F.slot_tuple_iterator_next
 have isref:(Value.ref t == Value.none)=false:=rfl
 unfold Builtin.SmallTypes.nextOf
 apply aw1
 apply aA5 (name:=Str.ofString "__next__") T slot
 apply aC8 slot T PySem.F.entry_tuple_iterator_next _ (PySem.F.args_tuple_iterator_next_1 _)
 change wpAny _ _ (field (.ref it) 0 >>= _) _ _ s
 apply aw1
 refine aA4 e1 e3 (x:=.ref t) rfl ?_
 change wpAny _ _ (if (Value.ref t == Value.none)=true then _ else _) _ _ s
 simp only [isref,ay3,aC4]
 change wpAny _ _ (field (.ref it) 1 >>= _) _ _ s
 apply aw1
 refine aA4 e1 e3 (x:=.int i 0) rfl ?_
 change wpAny _ _ (seqItems? (.ref t) >>= _) _ _ s
 apply aw1
 apply aG7 f1 f3
 simp only [aF3,hx]
 apply aw1
 refine wpAny_setField e1 e3 (by simp) ?_
 apply aw5
 refine⟨x,rfl,aw5 (q _ ⟨_,Heap.get?_update_self _ e1 (Obj.isFreed_of_fields (Obj.data_mapFields e3 _)),?_,?_⟩ (aF6 ..))⟩
 ·rw [Obj.cls_mapFields]; exact e2
 ·rw [Obj.data_mapFields e3]; simp [rawInt]
theorem wF {it t:Addr}{i:Nat}{items:Array Value}{Q:Value->Shared->Prop} (hh:A.handled=none) (hi:s.heap.IsTupleIter it t i) (ht:s.heap.IsTuple t items) (hx:items[i]? = none)
  (q:∀ h' e,Heap.ExtBut it s.heap h'->(∃ o,h'.get? e=some o/\o.cls = .type "StopIteration")->E (.ref e) { s with heap:=h' }):wpAny (model prog w) A (Builtin.SmallTypes.nextOf (.ref it)) Q E s:=by
 have T:=hi.typeIs
 obtain ⟨o,e1,e2,e3⟩:=hi
 obtain ⟨u,f1,_,k,f3⟩:=ht
 have slot:=PySem.F.slot_tuple_iterator_next
 have isref:(Value.ref t == Value.none)=false:=rfl
 unfold Builtin.SmallTypes.nextOf
 apply aw1
 apply aA5 (name:=Str.ofString "__next__") T slot
 apply aC8 slot T PySem.F.entry_tuple_iterator_next _ (PySem.F.args_tuple_iterator_next_1 _)
 change wpAny _ _ (field (.ref it) 0 >>= _) _ _ s
 apply aw1
 refine aA4 e1 e3 (x:=.ref t) rfl ?_
 change wpAny _ _ (if (Value.ref t == Value.none)=true then _ else _) _ _ s
 simp only [isref,ay3,aC4]
 change wpAny _ _ (field (.ref it) 1 >>= _) _ _ s
 apply aw1
 refine aA4 e1 e3 (x:=.int i 0) rfl ?_
 change wpAny _ _ (seqItems? (.ref t) >>= _) _ _ s
 apply aw1
 apply aG7 f1 f3
 simp only [aF3,hx]
 apply aw1
 apply wpAny_rule
 apply aw1
 refine wpAny_setField e1 e3 (by simp) ?_
 apply aw1
 simp only [newExc,newTuple]
 apply aw1
 refine aB4 ?_ (by size_fits)
 apply aw1
 refine wpAny_of_eq (a:=Value.none) (by first | rfl | (simp only [firstArgMember]; rfl)) ?_
 refine aB4 ?_ (by size_fits)
 unfold raiseNew
 apply aw1
 apply wpAny_handled
 have quiet:A.in1.handled=none:=hh
 rw [quiet]
 refine wpAny_throw ?_
 exact q _ _ (((aF6 ..).extBut.push _).push _) ⟨_,ax5 _ rfl,rfl⟩
theorem U7 (hh:A.handled=none) (it t:Addr) (ne:t ≠ it) (items:Array Value):Draws prog w A it [it,t] items.size (fun i v=>items[i]? = some v) (fun i h=>h.IsTupleIter it t i/\h.IsTuple t items) where
 live:=fun _ _ st=>st.1.elim fun o y=>⟨o,y.1⟩
 frame:=fun _ _ _ st k=>⟨st.1.at fun o e=>k it ax6 o e,st.2.elim fun o y=>⟨o,k t (ax7 _ ax6) o y.1,y.2⟩⟩
 item:=fun i s Q E lt st q=>wE st.1 st.2 (Array.getElem?_eq_getElem lt) fun h' again sb=>q _ h' s.toks (Array.getElem?_eq_getElem lt) ⟨again,st.2.elim fun o y=>⟨o,sb.extBut t o ne y.1,y.2⟩⟩ sb
 done:=fun s Q E st q=>wF hh st.1 st.2 (Array.getElem?_eq_none (aw6 _)) q
end
structure Ap (z TI TO i1 i2:Addr) (fp1 fp2:List Addr):Prop where
 TIz:TI ≠ z
 TOz:TO ≠ z
 TITO:TI ≠ TO
 z1:z ∉ fp1
 z2:z ∉ fp2
 o1:TO ∉ fp1
 o2:TO ∉ fp2
 t1:TI ∉ fp1
 t2:TI ∉ fp2
 m1:i1 ∈ fp1
 m2:i2 ∈ fp2
 n1:i1 ∉ fp2
 n2:i2 ∉ fp1
structure qI (z TI TO i1 i2:Addr) (St1 St2:Nat->Heap->Prop) (f0:Value) (i j:Nat) (h:Heap):Prop where
 zz:IsZip h z TI TO f0
 ti:IsPair h TI (.ref i1) (.ref i2)
 to_:∃ a b,IsPair h TO a b
 s1:St1 i h
 s2:St2 j h
section
variable {prog : Program} {w : World} {A : Around} {E : Value → Shared → Prop} {s : Shared} {z TI TO i1 i2 : Addr} {fp1 fp2 : List Addr} {n1 n2 : Nat} {P1 P2 : Nat → Value → Prop} {St1 St2 : Nat → Heap → Prop}
theorem jH (ap:Ap z TI TO i1 i2 fp1 fp2) {b:Addr} (h:b ∉ fp1):b ≠ i1:=fun e=>h (e ▸ ap.m1)
theorem mV (ap:Ap z TI TO i1 i2 fp1 fp2) {b:Addr} (h:b ∉ fp2):b ≠ i2:=fun e=>h (e ▸ ap.m2)
theorem item (D1:Draws prog w A.in1 i1 fp1 n1 P1 St1) (D2:Draws prog w A.in1 i2 fp2 n2 P2 St2) (ap:Ap z TI TO i1 i2 fp1 fp2) {i:Nat} (l1:i < n1) (l2:i < n2) (st:qI z TI TO i1 i2 St1 St2 .none i i s.heap) {Q:Option Value->Shared->Prop}
  (q:∀ x y h' tk,P1 i x->P2 i y->qI z TI TO i1 i2 St1 St2 (rawInt s.heap.objs.size) (i+1) (i+1) h'->IsPair h' s.heap.objs.size x y->(∀ c o,c ≠ z->c ≠ TO->c ≠ i1->c ≠ i2->s.heap.get? c=some o->h'.get? c=some o)->
   h'.objs.size=s.heap.objs.size+1->Q (some (.ref s.heap.objs.size)) { s with heap:=h',toks:=tk }):wpAny (model prog w) A (pyNext (.ref z)) Q E s:=by
 obtain ⟨hz,hti,⟨a,b,hto⟩,h1,h2⟩:=st
 have T:s.TypeIs (.ref z) "zip":=⟨_,hz,rfl⟩
 have slot:=PySem.F.slot_zip_next
 unfold pyNext
 apply aw1
 apply wpAny_attempt
 apply aA5 (name:=Str.ofString "__next__") T slot
 apply aC8 slot T PySem.F.entry_zip_next _ (PySem.F.args_zip_next_1 _)
 change wpAny _ _ (field (.ref z) 2 >>= _) _ _ _
 apply aw1
 refine aA4 hz rfl (x:=.bool false) rfl ?_
 change wpAny _ _ (field (.ref z) 3 >>= _) _ _ _
 apply aw1
 refine aA4 hz rfl (x:=.ref TI) rfl ?_
 apply aw1
 apply aG7 hti rfl
 change wpAny _ _ (Builtin.SmallTypes.ownedTupleIsFree (.ref z) >>= _) _ _ _
 apply aw1
 unfold Builtin.SmallTypes.ownedTupleIsFree
 apply aw1
 refine aA4 hz rfl (x:=.none) rfl (aw5 ?_)
 simp only [if_true]
 apply aw1
 apply wpAny_rule
 apply aw1
 refine aA4 hz rfl (x:=.ref TO) rfl ?_
 apply aw1
 refine aB6 hz (by simp) fun g1 hz1 sb1=>?_
 have k1:∀ c o,c ≠ z->s.heap.get? c=some o->g1.get? c=some o:=fun c o c1 e=>sb1.extBut c o c1 e
 apply aw1
 simp only [List.zipIdx_cons,List.zipIdx_nil,List.forIn_cons,List.forIn_nil]
 apply aw1
 apply aw1
 apply wpAny_onRaise
 change wpAny _ _ (Builtin.SmallTypes.nextOf (.ref i1) >>= _) _ _ _
 apply aw1
 refine D1.item i { s with heap:=g1 } _ _ l1 (D1.frame _ _ _ h1 fun c hc o e=>k1 c o (fun y=>ap.z1 (y ▸ hc)) e) fun x g2 tk2 px st1 sb2=>aw5 ?_
 have k2:∀ c o,c ≠ z->c ≠ i1->s.heap.get? c=some o->g2.get? c=some o:=fun c o c1 c2 e=>sb2.extBut c o c2 (k1 c o c1 e)
 have to2:IsPair g2 TO a b:=k2 _ _ ap.TOz (jH ap ap.o1) hto
 apply aw1
 apply aG7 to2 rfl
 apply aw1
 refine wpAny_updateSeq_pair to2 fun g3 to3 sb3=>?_
 have to3:IsPair g3 TO x b:=to3
 apply aw1
 apply wpAny_letGo
 apply aw5
 apply aw1
 apply aw1
 apply wpAny_onRaise
 change wpAny _ _ (Builtin.SmallTypes.nextOf (.ref i2) >>= _) _ _ _
 apply aw1
 have k3:∀ c o,c ≠ z->c ≠ i1->c ≠ TO->s.heap.get? c=some o->g3.get? c=some o:=fun c o c1 c2 c3 e=>sb3.extBut c o c3 (k2 c o c1 c2 e)
 refine D2.item i { s with heap:=g3,toks:=tk2 } _ _ l2 (D2.frame _ _ _ h2 fun c hc o e=>k3 c o (fun y=>ap.z2 (y ▸ hc)) (fun y=>ap.n1 (y ▸ hc)) (fun y=>ap.o2 (y ▸ hc)) e) fun y g4 tk4 py st2 sb4=>aw5 ?_
 have to4:IsPair g4 TO x b:=sb4.extBut _ _ (mV ap ap.o2) to3
 apply aw1
 apply aG7 to4 rfl
 apply aw1
 refine wpAny_updateSeq_pair to4 fun g5 to5 sb5=>?_
 have to5:IsPair g5 TO x y:=to5
 apply aw1
 apply wpAny_letGo
 apply aw5
 apply aw5
 apply aw1
 apply aG7 to5 rfl
 apply aw1
 refine wpAny_newTuple ?_ (by show 2<=sizeLine; decide)
 have size:g5.objs.size=s.heap.objs.size:=by rw [sb5.1,sb4.1,sb3.1,sb2.1,sb1.1]
 have k5:∀ c o,c ≠ z->c ≠ TO->c ≠ i1->c ≠ i2->s.heap.get? c=some o->g5.get? c=some o:=fun c o c1 c2 c3 c4 e=>sb5.extBut c o c2 (sb4.extBut c o c4 (k3 c o c1 c3 c2 e))
 have z5:IsZip g5 z TI TO .ellipsis:=sb5.extBut _ _ (Ne.symm ap.TOz) (sb4.extBut _ _ (mV ap ap.z2) (sb3.extBut _ _ (Ne.symm ap.TOz) (sb2.extBut _ _ (jH ap ap.z1) hz1)))
 change wpAny _ _ (Builtin.SmallTypes.ownedTupleHandOut (.ref z) (.ref g5.objs.size) >>= _) _ _ _
 apply aw1
 unfold Builtin.SmallTypes.ownedTupleHandOut
 apply aw1
 have z6:IsZip (g5.push { cls:=.type "tuple",data:=.seq #[x,y] }) z TI TO .ellipsis:=aw2 _ z5
 refine aB6 z6 (by simp) fun g7 z7 sb7=>?_
 have z7:IsZip g7 z TI TO (rawInt g5.objs.size):=z7
 refine aB6 z7 (by simp) fun g8 z8 sb8=>?_
 have z8:IsZip g8 z TI TO (rawInt g5.objs.size):=z8
 have zlt:z < g5.objs.size:=ax2 z5
 have up:∀ c o,c ≠ z->g5.get? c=some o->g8.get? c=some o:=fun c o c1 e=>sb8.extBut c o c1 (sb7.extBut c o c1 (aw2 _ e))
 have p8:IsPair g8 g5.objs.size x y:=sb8.extBut _ _ (aD5 zlt) (sb7.extBut _ _ (aD5 zlt) (ax5 _ rfl))
 have s8:g8.objs.size=g5.objs.size+1:=by rw [sb8.1,sb7.1,aE3]
 have f1:St1 (i+1) g8:=D1.frame _ _ _ st1 fun c hc o e=>up c o (fun y=>ap.z1 (y ▸ hc)) (sb5.extBut c o (fun y=>ap.o1 (y ▸ hc)) (sb4.extBut c o (fun y=>ap.n2 (y ▸ hc)) (sb3.extBut c o (fun y=>ap.o1 (y ▸ hc)) e)))
 have f2:St2 (i+1) g8:=D2.frame _ _ _ st2 fun c hc o e=>up c o (fun y=>ap.z2 (y ▸ hc)) (sb5.extBut c o (fun y=>ap.o2 (y ▸ hc)) e)
 have ti8:IsPair g8 TI (.ref i1) (.ref i2):=up _ _ ap.TIz (k5 _ _ ap.TIz ap.TITO (jH ap ap.t1) (mV ap ap.t2) hti)
 rw [size] at z8 p8 s8
 apply aw5
 refine⟨_,rfl,aw5 ?_⟩
 change Q (some (.ref g5.objs.size)) _
 rw [size]
 exact q x y g8 tk4 px py ⟨z8,ti8,⟨x,y,up _ _ ap.TOz to5⟩,f1,f2⟩ p8 (fun c o c1 c2 c3 c4 e=>up c o c1 (k5 c o c1 c2 c3 c4 e)) s8
theorem fin (D1:Draws prog w A.in1 i1 fp1 n1 P1 St1) (D2:Draws prog w A.in1 i2 fp2 n2 P2 St2) (ap:Ap z TI TO i1 i2 fp1 fp2) {i:Nat} (le:i=n1 ∨ (i < n1/\i=n2)) (st:qI z TI TO i1 i2 St1 St2 .none i i s.heap) {Q:Option Value->Shared->Prop}
  (q:∀ h' tk,(∀ c o,c ≠ z->c ≠ TO->c ≠ i1->c ≠ i2->s.heap.get? c=some o->h'.get? c=some o)->Q none { s with heap:=h',toks:=tk }):wpAny (model prog w) A (pyNext (.ref z)) Q E s:=by
 obtain ⟨hz,hti,⟨a,b,hto⟩,h1,h2⟩:=st
 have T:s.TypeIs (.ref z) "zip":=⟨_,hz,rfl⟩
 have slot:=PySem.F.slot_zip_next
 unfold pyNext
 apply aw1
 apply wpAny_attempt
 apply aA5 (name:=Str.ofString "__next__") T slot
 apply aC8 slot T PySem.F.entry_zip_next _ (PySem.F.args_zip_next_1 _)
 change wpAny _ _ (field (.ref z) 2 >>= _) _ _ _
 apply aw1
 refine aA4 hz rfl (x:=.bool false) rfl ?_
 change wpAny _ _ (field (.ref z) 3 >>= _) _ _ _
 apply aw1
 refine aA4 hz rfl (x:=.ref TI) rfl ?_
 apply aw1
 apply aG7 hti rfl
 change wpAny _ _ (Builtin.SmallTypes.ownedTupleIsFree (.ref z) >>= _) _ _ _
 apply aw1
 unfold Builtin.SmallTypes.ownedTupleIsFree
 apply aw1
 refine aA4 hz rfl (x:=.none) rfl (aw5 ?_)
 simp only [if_true]
 apply aw1
 apply wpAny_rule
 apply aw1
 refine aA4 hz rfl (x:=.ref TO) rfl ?_
 apply aw1
 refine aB6 hz (by simp) fun g1 hz1 sb1=>?_
 have k1:∀ c o,c ≠ z->s.heap.get? c=some o->g1.get? c=some o:=fun c o c1 e=>sb1.extBut c o c1 e
 apply aw1
 simp only [List.zipIdx_cons,List.zipIdx_nil,List.forIn_cons,List.forIn_nil]
 apply aw1
 apply aw1
 apply wpAny_onRaise
 change wpAny _ _ (Builtin.SmallTypes.nextOf (.ref i1) >>= _) _ _ _
 apply aw1
 have z1:IsZip g1 z TI TO .ellipsis:=hz1
 rcases le with rfl | ⟨lt,rfl⟩
 ·refine D1.done { s with heap:=g1 } _ _ (D1.frame _ _ _ h1 fun c hc o e=>k1 c o (fun y=>ap.z1 (y ▸ hc)) e) fun g2 e eb ex=>?_
  have z2:IsZip g2 z TI TO .ellipsis:=eb _ _ (jH ap ap.z1) z1
  refine aB6 z2 (by simp) fun g3 z3 sb3=>?_
  obtain ⟨oe,eo,co⟩:=ex
  have ne:e ≠ z:=fun y=>by
   rw [y,z2] at eo
   have:=ay6 eo
   rw [<- this] at co; exact absurd (show Value.type "zip" = Value.type "StopIteration" from co) (by decide)
  apply aw1
  refine wpAny_isInstance (T:="StopIteration") (b:=true) ⟨oe,sb3.extBut _ _ ne eo,co⟩ isSubtype_stop ?_
  exact aw5 (q g3 s.toks fun c o c1 _ c3 _ e=>sb3.extBut c o c1 (eb c o c3 (k1 c o c1 e)))
 ·refine D1.item i { s with heap:=g1 } _ _ lt (D1.frame _ _ _ h1 fun c hc o e=>k1 c o (fun y=>ap.z1 (y ▸ hc)) e) fun x g2 tk2 px st1 sb2=>aw5 ?_
  have k2:∀ c o,c ≠ z->c ≠ i1->s.heap.get? c=some o->g2.get? c=some o:=fun c o c1 c2 e=>sb2.extBut c o c2 (k1 c o c1 e)
  have to2:IsPair g2 TO a b:=k2 _ _ ap.TOz (jH ap ap.o1) hto
  apply aw1
  apply aG7 to2 rfl
  apply aw1
  refine wpAny_updateSeq_pair to2 fun g3 to3 sb3=>?_
  apply aw1
  apply wpAny_letGo
  apply aw5
  apply aw1
  apply aw1
  apply wpAny_onRaise
  change wpAny _ _ (Builtin.SmallTypes.nextOf (.ref i2) >>= _) _ _ _
  apply aw1
  have k3:∀ c o,c ≠ z->c ≠ i1->c ≠ TO->s.heap.get? c=some o->g3.get? c=some o:=fun c o c1 c2 c3 e=>sb3.extBut c o c3 (k2 c o c1 c2 e)
  refine D2.done { s with heap:=g3,toks:=tk2 } _ _ (D2.frame _ _ _ h2 fun c hc o e=>k3 c o (fun y=>ap.z2 (y ▸ hc)) (fun y=>ap.n1 (y ▸ hc)) (fun y=>ap.o2 (y ▸ hc)) e) fun g4 e eb ex=>?_
  have z4:IsZip g4 z TI TO .ellipsis:=eb _ _ (mV ap ap.z2) (sb3.extBut _ _ (Ne.symm ap.TOz) (sb2.extBut _ _ (jH ap ap.z1) z1))
  refine aB6 z4 (by simp) fun g5 z5 sb5=>?_
  obtain ⟨oe,eo,co⟩:=ex
  have ne:e ≠ z:=fun y=>by
   rw [y,z4] at eo
   have:=ay6 eo
   rw [<- this] at co; exact absurd (show Value.type "zip" = Value.type "StopIteration" from co) (by decide)
  apply aw1
  refine wpAny_isInstance (T:="StopIteration") (b:=true) ⟨oe,sb5.extBut _ _ ne eo,co⟩ isSubtype_stop ?_
  exact aw5 (q g5 tk2 fun c o c1 c2 c3 c4 e=>sb5.extBut c o c1 (eb c o c4 (k3 c o c1 c3 c2 e)))
end
def eB (h:Heap) (t u:Addr):Heap:=
 ((((h.push { cls:=.type "tuple_iterator",data:=.fields #[.ref t,.int 0 0] }).push { cls:=.type "tuple_iterator",data:=.fields #[.ref u,.int 0 0] }).push { cls:=.type "tuple",data:=.seq #[.ref h.objs.size,.ref (h.objs.size+1)] }).push
  { cls:=.type "tuple",data:=.seq #[.none,.none] }).push { cls:=.type "zip",data:=.fields #[.none,.bool false,.bool false,.ref (h.objs.size+2),.ref (h.objs.size+3)] }
theorem U8 (t u:Addr) (xs ys:Array Value):Meets (Builtin.«zip.__new__» ⟨[.type "zip",.ref t,.ref u],[]⟩) (fun _ R s=>s.heap.IsTuple t xs/\s.heap.IsTuple u ys/\R (.ok (.ret (.ref (s.heap.objs.size+4)))) { s with heap:=eB s.heap t u }):=
 .of_wp fun prog w A R s h=>by
  obtain ⟨hp,g,d,tk,os⟩:=s
  obtain ⟨ht,hu,h⟩:=h
  have sub:=sub_zip
  have a1:Heap.IsTuple (Shared.heap ⟨hp,g,d,tk,os⟩) t xs:=ht
  have a2:Heap.IsTuple (Shared.heap ⟨hp.push { cls:=.type "tuple_iterator",data:=.fields #[.ref t,.int 0 0] },g,d,tk,os⟩) u ys:=hu.elim fun o y=>⟨o,aw2 _ y.1,y.2⟩
  wp_walk using aG2 a1,aG2 a2
  have e:∀ (o:Obj) (k:Heap),(k.push o).objs.size=k.objs.size+1:=fun o k=>aE3 ..
  refine⟨_,rfl,?_⟩
  simp only [eB,e] at h ⊢
  exact h
section
variable {prog : Program} {w : World} {A : Around} {E : Value → Shared → Prop} {s : Shared}
theorem U9 {t u:Addr}{xs ys:Array Value}{Q:Value->Shared->Prop} (ht:s.heap.IsTuple t xs) (hu:s.heap.IsTuple u ys)
  (q:∀ h',IsZip h' (s.heap.objs.size+4) (s.heap.objs.size+2) (s.heap.objs.size+3) .none->IsPair h' (s.heap.objs.size+2) (.ref s.heap.objs.size) (.ref (s.heap.objs.size+1))->
   IsPair h' (s.heap.objs.size+3) .none .none->h'.IsTupleIter s.heap.objs.size t 0->h'.IsTupleIter (s.heap.objs.size+1) u 0->(∀ c o,s.heap.get? c=some o->h'.get? c=some o)->Q (.ref (s.heap.objs.size+4)) { s with heap:=h' }) :
  wpAny (model prog w) A (call (.type "zip") [.ref t,.ref u]) Q E s:=by
 refine callType_new PySem.F.called_zip (by decide) (PySem.F.typeCall_zip_2 _ _) (PySem.F.newCall_zip_2 _ _) (fun obj=>PySem.F.args_object_init_3 obj _ _) PySem.F.entry_zip_new (U8 t u xs ys) ⟨ht,hu,?_⟩
 have e:∀ (o:Obj) (k:Heap),(k.push o).objs.size=k.objs.size+1:=fun o k=>aE3 ..
 have p0:∀ (k:Heap) (o:Obj) (m:Nat),o.isFreed=false->m=k.objs.size->(k.push o).get? m=some o:=fun k o m f z=>by rw [z]; exact ax5 _ f
 have g0:(eB s.heap t u).get? s.heap.objs.size=some { cls:=.type "tuple_iterator",data:=.fields #[.ref t,.int 0 0] }:=by
  unfold eB
  exact aw2 _ (aw2 _ (aw2 _ (aw2 _ (p0 _ _ _ rfl rfl))))
 have g1:(eB s.heap t u).get? (s.heap.objs.size+1)=some { cls:=.type "tuple_iterator",data:=.fields #[.ref u,.int 0 0] }:=by
  unfold eB
  exact aw2 _ (aw2 _ (aw2 _ (p0 _ _ _ rfl (by simp only [e]))))
 have g2:(eB s.heap t u).get? (s.heap.objs.size+2)=some { cls:=.type "tuple",data:=.seq #[.ref s.heap.objs.size,.ref (s.heap.objs.size+1)] }:=by
  unfold eB
  exact aw2 _ (aw2 _ (p0 _ _ _ rfl (by simp only [e])))
 have g3:(eB s.heap t u).get? (s.heap.objs.size+3)=some { cls:=.type "tuple",data:=.seq #[.none,.none] }:=by
  unfold eB
  exact aw2 _ (p0 _ _ _ rfl (by simp only [e]))
 have g4:(eB s.heap t u).get? (s.heap.objs.size+4)=some { cls:=.type "zip",data:=.fields #[.none,.bool false,.bool false,.ref (s.heap.objs.size+2),.ref (s.heap.objs.size+3)] }:=by
  unfold eB
  exact p0 _ _ _ rfl (by simp only [e])
 refine⟨⟨_,g4,rfl⟩,q _ g4 g2 g3 ⟨_,g0,rfl,rfl⟩ ⟨_,g1,rfl,rfl⟩ fun c o z=>?_⟩
 unfold eB
 exact aw2 _ (aw2 _ (aw2 _ (aw2 _ (aw2 _ z))))
end
end Zp
namespace L2
open PySem PySem.Spec PyProof.Rows
def qJ (K:PySem.W.Frag) (a b:Addr):It:=
  ⟨fun i H=>∃ xs ys x y,aI K H a xs/\aI K H b ys/\xs[i]? = some x/\ys[i]? = some y,
   fun i H v H'=>∃ T x y,H T=none/\v = .ref T/\H'=upd H T (.tup [x,y])/\∀ xs ys,aI K H a xs->aI K H b ys->xs[i]? = some x/\ys[i]? = some y,
   fun i H=>∃ xs ys,aI K H a xs/\aI K H b ys/\(i=xs.length ∨ (i < xs.length/\i=ys.length))⟩
def Sq (t:Bool) (K:PySem.W.Frag) (H:Hp) (a:Addr) (xs:List V):Prop:=match t with
 | true=>aI K H a xs
 | false=>aH K H a xs
def eC (t:Bool) (h:Heap) (i a:Addr) (n:Nat):Prop:=match t with
 | true=>h.IsTupleIter i a n
 | false=>h.IsListIter i a n
def wG (t:Bool) (h:Heap) (a:Addr) (xs:Array Value):Prop:=match t with
 | true=>h.IsTuple a xs
 | false=>h.IsList a xs
theorem eC.at {h h':Heap}{i a:Addr}{n:Nat}:∀ {t:Bool},eC t h i a n->(∀ o,h.get? i=some o->h'.get? i=some o)->eC t h' i a n
 | true,x,k=>Heap.IsTupleIter.at x k
 | false,x,k=>Heap.IsListIter.at x k
theorem eC.ob {h:Heap}{i a:Addr}{n:Nat}:∀ {t:Bool},eC t h i a n->∃ o,h.get? i=some o/\∀ v,o.data ≠ .cell v
 | true,⟨o,f,_,d⟩=>⟨o,f,fun v q=>by rw [d] at q; cases q⟩
 | false,⟨o,f,_,d⟩=>⟨o,f,fun v q=>by rw [d] at q; cases q⟩
theorem eC.draws {prog:Program}{w:World}{A:Around}:∀ (t:Bool) (hh:A.handled=none) (it a:Addr) (ne:a ≠ it) (items:Array Value),Draws prog w A it [it,a] items.size (fun i v=>items[i]? = some v) (fun i h=>eC t h it a i/\wG t h a items)
 | true,hh,it,a,ne,items=>Zp.U7 hh it a ne items
 | false,hh,it,a,ne,items=>Draws.list hh it a ne items
section
variable {X : Cx} {pins : List (Addr × Obj)} {σ : St} {H : Hp} {s : Shared} {a : Addr} {xs ys : List V}
theorem Sq.get (I:a5 X pins σ H s):∀ {t:Bool},Sq t X.K H a xs->∃ us,aL xs us/\wG t s.heap a us.toArray
 | true,h=>by obtain ⟨us,r,p,_⟩:=I.tuple h; exact⟨us,r,p⟩
 | false,h=>by obtain ⟨us,r,p,_⟩:=I.list h; exact⟨us,r,p.isList⟩
theorem Sq.inj (I:a5 X pins σ H s):∀ {t:Bool},Sq t X.K H a xs->Sq t X.K H a ys->xs=ys
 | true,h,g=>I.tuple_inj h g
 | false,h,g=>I.list_inj h g
theorem Sq.off (I:a5 X pins σ H s) (he:H a=none) (hb:X.base.get? a=none):∀ {t:Bool},Sq t X.K H a xs->False
 | true,h=>by
  rcases h with (h | ⟨_,h⟩) | ⟨o,_,_,h,_⟩
  ·rw [he] at h; cases h
  ·rw [he] at h; cases h
  ·have:=I.ok.mod.kin a o h
   rw [hb] at this; cases this
 | false,h=>by
  rcases h with (h | ⟨_,h⟩) | ⟨o,_,_,h,_⟩
  ·rw [he] at h; cases h
  ·rw [he] at h; cases h
  ·have:=I.ok.mod.kin a o h
   rw [hb] at this; cases this
end
def V0 (t1 t2:Bool) (K:PySem.W.Frag) (a b:Addr):It:=
  ⟨fun i H=>∃ xs ys x y,Sq t1 K H a xs/\Sq t2 K H b ys/\xs[i]? = some x/\ys[i]? = some y,
   fun i H v H'=>∃ T x y,H T=none/\v = .ref T/\H'=upd H T (.tup [x,y])/\∀ xs ys,Sq t1 K H a xs->Sq t2 K H b ys->xs[i]? = some x/\ys[i]? = some y,
   fun i H=>∃ xs ys,Sq t1 K H a xs/\Sq t2 K H b ys/\(i=xs.length ∨ (i < xs.length/\i=ys.length))⟩
structure qK (t1 t2:Bool) (z TI TO i1 i2 a b:Addr) (i:Nat) (h:Heap):Prop where
 zz:IsZip h z TI TO .none
 ti:IsPair h TI (.ref i1) (.ref i2)
 to_:∃ x y,IsPair h TO x y
 s1:eC t1 h i1 a i
 s2:eC t2 h i2 b i
theorem wH (t1 t2:Bool) {P:Program}{w:World}{K:PySem.W.Frag}{elts:List Expr}{k:Nat}{pos:Pos} (a b z TI TO i1 i2:Addr) (d : [z,TI,TO,i1,i2].Nodup) :
  fE P w K (.Tuple elts k pos) (V0 t1 t2 K a b) [z,TI,TO,i1,i2] z (qK t1 t2 z TI TO i1 i2 a b):=by
 have nd:z ≠ TI/\z ≠ TO/\z ≠ i1/\z ≠ i2/\TI ≠ TO/\TI ≠ i1/\TI ≠ i2/\TO ≠ i1/\TO ≠ i2/\i1 ≠ i2:=by
  simp only [List.nodup_cons,aw7,ax1,az3,not_or] at d
  obtain ⟨⟨a1,a2,a3,a4⟩,⟨b1,b2,b3⟩,⟨c1,c2⟩,e1,_⟩:=d
  exact⟨a1,a2,a3,a4,b1,b2,b3,c1,c2,e1⟩
 obtain ⟨n1,n2,n3,n4,n5,n6,n7,n8,n9,n10⟩:=nd
 have offBase:∀ {X:Cx}{pins:List (Addr × Obj)}{σ:St}{H:Hp}{s:Shared},a5 X pins σ H s->(∀ c ∈ [z,TI,TO,i1,i2],eO X pins H c)->∀ c ∈ [z,TI,TO,i1,i2],X.base.get? c=none:=by
  intro X pins σ H s I hf c hc
  cases q:X.base.get? c with
  | none=>rfl
  | some o=>
   rcases (hf c hc).2.2.2.1 with h | h
   ·exact absurd h (I.ok.noex c o q)
   ·exact absurd (ax0 (ax2 q) (aA3 I.ok.bsz h)) (az9 _)
 have off:∀ {t:Bool}{X:Cx}{pins:List (Addr × Obj)}{σ:St}{H:Hp}{s:Shared}{c:Addr}{zs:List V},a5 X pins σ H s->(∀ c ∈ [z,TI,TO,i1,i2],eO X pins H c)->Sq t X.K H c zs->c ∉ [z,TI,TO,i1,i2]:=by
  intro t X pins σ H s c zs I hf hc hm
  exact Sq.off I (hf c hm).1 (offBase I hf c hm) hc
 have ap:∀ {c e:Addr},c ∉ [z,TI,TO,i1,i2]->e ∉ [z,TI,TO,i1,i2]->Zp.Ap z TI TO i1 i2 [i1,c] [i2,e]:=fun {c e} hc he=>by
  simp only [aw7,ax1,az3,not_or] at hc he
  obtain ⟨c1,c2,c3,c4,c5⟩:=hc
  obtain ⟨e1,e2,e3,e4,e5⟩:=he
  have two:∀ {q u v:Addr},q ≠ u->q ≠ v->q ∉ [u,v]:=fun {q u v} h1 h2 hm=>by
   simp only [aw7,ax1,az3] at hm
   exact hm.elim h1 h2
  exact⟨n1.symm,n2.symm,n5,two n3 (Ne.symm c1),two n4 (Ne.symm e1),two n8 (Ne.symm c3),two n9 (Ne.symm e3),two n6 (Ne.symm c2),two n7 (Ne.symm e2),ax6,ax6,two n10 (Ne.symm e4),two n10.symm (Ne.symm c5)⟩
 refine⟨by simp,fun i h st c hc=>?_,fun i h h' st kp=>?_,?_,?_,fun A i s Q E st q=>wpAny_pyIter_zip st.zz q⟩
 ·simp only [aw7,ax1,az3] at hc
  obtain ⟨x,y,to⟩:=st.to_
  rcases hc with rfl | rfl | rfl | rfl | rfl
  ·exact⟨_,st.zz,fun v q=>by cases q⟩
  ·exact⟨_,st.ti,fun v q=>by cases q⟩
  ·exact⟨_,to,fun v q=>by cases q⟩
  ·exact st.s1.ob
  ·exact st.s2.ob
 ·obtain ⟨x,y,to⟩:=st.to_
  exact⟨kp z (by simp) _ st.zz,kp TI (by simp) _ st.ti,⟨x,y,kp TO (by simp) _ to⟩,st.s1.at fun o e=>kp i1 (by simp) o e,st.s2.at fun o e=>kp i2 (by simp) o e⟩
 ·
  intro X hP hw hK hc i pins s σ H E I hf st hg
  subst hP hw hK
  obtain ⟨xs,ys,x,y,ha,hb,hx,hy⟩:=hg
  obtain ⟨us,ru,pu⟩:=Sq.get I ha
  obtain ⟨vs,rv,pv'⟩:=Sq.get I hb
  obtain ⟨ux,eux,rux⟩:=ru.get hx
  obtain ⟨vy,evy,rvy⟩:=rv.get hy
  have fa:=off I hf ha
  have fb:=off I hf hb
  have hh:X.A.in1.handled=none:=I.ok.hd hc
  have l1:i < us.toArray.size:=by simpa using (ax3.mp eux).1
  have l2:i < vs.toArray.size:=by simpa using (ax3.mp evy).1
  have fa':a ≠ i1:=fun q=>fa (by rw [q]; simp)
  have fb':b ≠ i2:=fun q=>fb (by rw [q]; simp)
  have D1:=eC.draws t1 (prog:=X.prog) (w:=X.w) hh i1 a fa' us.toArray
  have D2:=eC.draws t2 (prog:=X.prog) (w:=X.w) hh i2 b fb' vs.toArray
  refine Zp.item D1 D2 (ap fa fb) l1 l2 ⟨st.zz,st.ti,st.to_,⟨st.s1,pu⟩,⟨st.s2,pv'⟩⟩ fun p q h' tk hp hq st' pr kp sz=>⟨_,rfl,?_⟩
  obtain rfl:p=ux:=by
   have:us.toArray[i]? = some ux:=by simpa using eux
   rw [this] at hp; exact (ay6 hp).symm
  obtain rfl:q=vy:=by
   have:vs.toArray[i]? = some vy:=by simpa using evy
   rw [this] at hq; exact (ay6 hq).symm
  refine wpAny_letOwnedTupleGo_zip (s:={ s with heap:=h',toks:=tk }) st'.zz fun g zz sb=>?_
  have hzl:z < s.heap.objs.size:=ax2 st.zz
  have up:∀ c o,c ≠ z->c ≠ TO->c ≠ i1->c ≠ i2->s.heap.get? c=some o->g.get? c=some o:=fun c o c1 c2 c3 c4 e=>sb.extBut c o c1 (kp c o c1 c2 c3 c4 e)
  have hT:H s.heap.objs.size=none:=I.hok.fresh (aw6 _)
  have prG:IsPair g s.heap.objs.size p q:=sb.extBut _ _ (aD5 hzl) pr
  have fpn:∀ c u,H c=some u->c ∉ [z,TI,TO,i1,i2]:=fun c u e hm=>by rw [(hf c hm).1] at e; cases e
  have upH:∀ c o u,H c=some u->s.heap.get? c=some o->g.get? c=some o:=fun c o u e z=>by
   have:=fpn c u e
   simp only [aw7,ax1,az3,not_or] at this
   exact up c o this.1 this.2.2.1 this.2.2.2.1 this.2.2.2.2 z
  have ns:∀ m,s.heap.Ns X.env.locals m->g.Ns X.env.locals m:=fun m hm=>by
   obtain ⟨o,es,ep,e1,e2⟩:=hm
   exact⟨o,es,ep,up _ o (Ne.symm (hf z (by simp)).2.1) (Ne.symm (hf TO (by simp)).2.1) (Ne.symm (hf i1 (by simp)).2.1) (Ne.symm (hf i2 (by simp)).2.1) e1,e2⟩
  have I2:a5 X pins σ (upd H s.heap.objs.size (.tup [x,y])) { s with heap:=g,toks:=tk }:=by
   refine I.step (g':=s.gens) (d':=s.drawn) (ch:=[z,TO,i1,i2]) (fun c hc'=>?_) (fun c o _ _ hc' e _=>?_) (fun c o _ _ hc' e _=>⟨o.slots,?_⟩) (fun c o _ e n=>?_) (fun c o hc' e=>⟨o,?_⟩)
    (fun c zs e=>by rw [aB (bI e hT)]; exact e) (fun c u zs e=>by rw [aB (bI e hT)]; exact e) (fun c ps e=>⟨#[],by rw [aB (bI e hT),e]; simp⟩) ns (fun c u e=>?_) I.bare
   ·have hm:c ∈ [z,TI,TO,i1,i2]:=by
     simp only [aw7,ax1,az3] at hc' ⊢
     rcases hc' with h | h | h | h <;> simp [h]
    exact⟨(hf c hm).2.2.2.1,(hf c hm).2.1,(hf c hm).2.2.2.2.1,(hf c hm).2.2.2.2.2⟩
   ·simp only [aw7,ax1,az3,not_or] at hc'
    exact up c o hc'.1 hc'.2.1 hc'.2.2.1 hc'.2.2.2 e
   ·simp only [aw7,ax1,az3,not_or] at hc'
    exact up c o hc'.1 hc'.2.1 hc'.2.2.1 hc'.2.2.2 e
   ·rw [aB (ay8 (ax2 e))]; exact n
   ·simp only [aw7,ax1,az3,not_or] at hc'
    exact up c o hc'.1 hc'.2.1 hc'.2.2.1 hc'.2.2.2 e
   ·by_cases hcT:c=s.heap.objs.size
    ·subst hcT
     rw [aU] at e; cases e
     exact⟨by show 2<=sizeLine; decide,[p,q],.cons rux (.cons rvy .nil),⟨_,prG,rfl,_,rfl⟩,fun u e=>by rw [prG] at e; cases e; rfl⟩
    ·rw [aB hcT] at e
     refine (I.hok c u e).stay (fun c' o' hc2 q'=>?_) (fun c' q'=>by rw [aB (bI q' hT)]; exact q') fun c' zs q'=>by rw [aB (bI q' hT)]; exact q'
     rcases hc2 with rfl | hc2
     ·exact upH _ _ _ e q'
     ·exact upH _ _ _ hc2 q'
  obtain ⟨x',y',to'⟩:=st'.to_
  refine⟨.ref s.heap.objs.size,_,I2,rfl,⟨_,x,y,hT,rfl,rfl,fun xs' ys' ha' hb'=>?_⟩,⟨zz,sb.extBut _ _ n1.symm st'.ti,⟨x',y',sb.extBut _ _ n2.symm to'⟩,st'.s1.1.at fun o e=>sb.extBut _ o n3.symm e,st'.s2.1.at fun o e=>sb.extBut _ o n4.symm e⟩,fun c hc'=>?_⟩
  ·rw [Sq.inj I ha' ha,Sq.inj I hb' hb]; exact⟨hx,hy⟩
  ·obtain ⟨o,e,_⟩:∃ o,s.heap.get? c=some o/\True:=by
    simp only [aw7,ax1,az3] at hc'
    obtain ⟨x2,y2,to2⟩:=st.to_
    obtain ⟨o1,f1,_⟩:=st.s1.ob
    obtain ⟨o2,f2,_⟩:=st.s2.ob
    rcases hc' with rfl | rfl | rfl | rfl | rfl
    ·exact⟨_,st.zz,trivial⟩
    ·exact⟨_,st.ti,trivial⟩
    ·exact⟨_,to2,trivial⟩
    ·exact⟨_,f1,trivial⟩
    ·exact⟨_,f2,trivial⟩
   rw [aB (ay8 (ax2 e))]; exact (hf c hc').1
 ·
  intro X hP hw hK hc i pins s σ H E I hf st hg
  subst hP hw hK
  obtain ⟨xs,ys,ha,hb,hi⟩:=hg
  obtain ⟨us,ru,pu⟩:=Sq.get I ha
  obtain ⟨vs,rv,pv'⟩:=Sq.get I hb
  have fa:=off I hf ha
  have fb:=off I hf hb
  have hh:X.A.in1.handled=none:=I.ok.hd hc
  have fa':a ≠ i1:=fun q=>fa (by rw [q]; simp)
  have fb':b ≠ i2:=fun q=>fb (by rw [q]; simp)
  have D1:=eC.draws t1 (prog:=X.prog) (w:=X.w) hh i1 a fa' us.toArray
  have D2:=eC.draws t2 (prog:=X.prog) (w:=X.w) hh i2 b fb' vs.toArray
  have e1:=ru.length
  have e2:=rv.length
  refine Zp.fin D1 D2 (ap fa fb) (by simp only [aw4]; omega) ⟨st.zz,st.ti,st.to_,⟨st.s1,pu⟩,⟨st.s2,pv'⟩⟩ fun g tk kp=>⟨rfl,?_⟩
  have fpn:∀ c u,H c=some u->c ∉ [z,TI,TO,i1,i2]:=fun c u e hm=>by rw [(hf c hm).1] at e; cases e
  have upH:∀ c o u,H c=some u->s.heap.get? c=some o->g.get? c=some o:=fun c o u e z=>by
   have:=fpn c u e
   simp only [aw7,ax1,az3,not_or] at this
   exact kp c o this.1 this.2.2.1 this.2.2.2.1 this.2.2.2.2 z
  have ns:∀ m,s.heap.Ns X.env.locals m->g.Ns X.env.locals m:=fun m hm=>by
   obtain ⟨o,es,ep,e1,e2⟩:=hm
   exact⟨o,es,ep,kp _ o (Ne.symm (hf z (by simp)).2.1) (Ne.symm (hf TO (by simp)).2.1) (Ne.symm (hf i1 (by simp)).2.1) (Ne.symm (hf i2 (by simp)).2.1) e1,e2⟩
  refine I.step (g':=s.gens) (d':=s.drawn) (ch:=[z,TO,i1,i2]) (fun c hc'=>?_) (fun c o _ _ hc' e _=>?_) (fun c o _ _ hc' e _=>⟨o.slots,?_⟩) (fun c o _ e n=>n) (fun c o hc' e=>⟨o,?_⟩)
   (fun c zs e=>e) (fun c u zs e=>e) (fun c ps e=>⟨#[],by rw [e]; simp⟩) ns (fun c u e=>?_) I.bare
  ·have hm:c ∈ [z,TI,TO,i1,i2]:=by
    simp only [aw7,ax1,az3] at hc' ⊢
    rcases hc' with h | h | h | h <;> simp [h]
   exact⟨(hf c hm).2.2.2.1,(hf c hm).2.1,(hf c hm).2.2.2.2.1,(hf c hm).2.2.2.2.2⟩
  ·simp only [aw7,ax1,az3,not_or] at hc'
   exact kp c o hc'.1 hc'.2.1 hc'.2.2.1 hc'.2.2.2 e
  ·simp only [aw7,ax1,az3,not_or] at hc'
   exact kp c o hc'.1 hc'.2.1 hc'.2.2.1 hc'.2.2.2 e
  ·simp only [aw7,ax1,az3,not_or] at hc'
   exact kp c o hc'.1 hc'.2.1 hc'.2.2.1 hc'.2.2.2 e
  ·refine (I.hok c u e).stay (fun c' o' hc2 q'=>?_) (fun _ q'=>q') fun _ _ q'=>q'
   rcases hc2 with rfl | hc2
   ·exact upH _ _ _ e q'
   ·exact upH _ _ _ hc2 q'
abbrev V1:=qK true true
theorem V2 {P:Program}{w:World}{K:PySem.W.Frag}{elts:List Expr}{k:Nat}{pos:Pos} (a b z TI TO i1 i2:Addr) (d : [z,TI,TO,i1,i2].Nodup) :
  fE P w K (.Tuple elts k pos) (qJ K a b) [z,TI,TO,i1,i2] z (V1 z TI TO i1 i2 a b):=wH true true a b z TI TO i1 i2 d
section
variable {X : Cx}
def V3 (K:PySem.W.Frag) (ta:TA):TI:=fun σ H R=>ta σ H fun vs H1=>∃ a b xs ys,vs = [.ref a,.ref b]/\aI K H1 a xs/\aI K H1 b ys/\R (qJ K a b) H1
theorem V4 {elts:List Expr}{kt:Nat}{pt:Pos}{a b:Expr}{ta:TA}{p pos:Pos} (hg:Gl X "zip") (hm:X.mg "zip" = none) (ha:PA X [a,b] ta) (hs:starEach [a,b] X.env = [(false,eval a X.env),(false,eval b X.env)]:=by rfl) (hs2:starEach [b] X.env = [(false,eval b X.env)]:=by rfl) :
  PI X (.Tuple elts kt pt) (.Call (.Name "zip" p) [a,b] [] pos) (V3 X.K ta):=by
 intro pins s σ H R I h
 refine Call_ (gJ I hg hm PyProof.Rows.boot_zip (aB8 (aJ (ha pos pins s σ H _ I h) fun us s1 ⟨vs,H1,I1,r1,q1⟩=>?_) (by rw [hs,hs2]) (by rw [hs2]; rfl)))
 obtain ⟨a',b',xs,ys,e,h1,h2,q⟩:=q1
 subst e
 cases r1 with
 | cons r rr=>
  cases rr with
  | cons r' rr=>
   cases rr
   cases r
   cases r'
   obtain ⟨us,_,p1,_⟩:=I1.tuple h1
   obtain ⟨ws,_,p2,_⟩:=I1.tuple h2
   refine Zp.U9 p1 p2 fun h' z ti to s1' s2' kp=>wpAny_pyIter_zip z ?_
   have fresh:∀ k,H1 (s1.heap.objs.size+k)=none:=fun k=>I1.hok.fresh (aB2 _ _)
   refine⟨s1.heap.objs.size+4,[s1.heap.objs.size+4,s1.heap.objs.size+2,s1.heap.objs.size+3,s1.heap.objs.size,s1.heap.objs.size+1],_,_,H1,rfl,I1.kept (t':=s1.toks) kp,
    V2 a' b' _ _ _ _ _ (by simp),⟨z,ti,⟨_,_,to⟩,s1',s2'⟩,fun c hc=>?_,q⟩
   simp only [aw7,ax1,az3] at hc
   rcases hc with rfl | rfl | rfl | rfl | rfl
   ·exact I1.fpOk (aB2 _ _) (fresh 4)
   ·exact I1.fpOk (aB2 _ _) (fresh 2)
   ·exact I1.fpOk (aB2 _ _) (fresh 3)
   ·exact I1.fpOk (aw6 _) (fresh 0)
   ·exact I1.fpOk (aB2 _ _) (fresh 1)
theorem qL (hc:X.calm=true):cC X (.builtin "all") (fun xs H Q=>∃ (a:Addr) (bs:List Bool),xs = [.ref a]/\aH X.K H a (bs.map V.bl)/\Q (.bl (bs.all id)) H):=by
 intro pins s σ H xs us Q I r h
 obtain ⟨a,bs,rfl,hq,q⟩:=h
 obtain ⟨u,rfl,ru⟩:=gL r
 cases ru
 obtain ⟨its,rv,p,hz⟩:=I.list hq
 have hl:=rv.length
 rw [aw9] at hl
 have hlt:a < s.heap.objs.size:=by obtain ⟨o,e,_⟩:=p.isList; exact ax2 e
 refine call_all_walk (wpAny_pyIter_list p.isList ?_)
 have hh:X.A.in1.handled=none:=I.ok.hd hc
 refine⟨s.heap.objs.size,_,_,_,_,_,fun i=>bs.getD i false,rfl,Walks.list hh s.heap.objs.size a (ay8 hlt) its.toArray,⟨⟨_,ax5 _ rfl,rfl,rfl⟩,p.isList.push _⟩,?_,fun h' tk kp=>?_⟩
 ·intro i v s' Q' E' hP hQ'
  have hi:its[i]? = some v:=by simpa using hP
  have hil:i < bs.length:=by rw [hl]; exact (ax3.mp hi).1
  obtain ⟨u,e1,e2⟩:=rv.get (i:=i) (x:=.bl bs[i]) (by simp [hil])
  rw [hi] at e1; cases e1
  cases e2
  have:bs.getD i false=bs[i]:=by rw [ax8,aw3 hil]; rfl
  have hQ2:Q' (bs.getD i false) s':=hQ'
  rw [this] at hQ2
  exact aF1 hQ2
 ·have all_eq:(List.range its.toArray.size).all (fun i=>bs.getD i false)=bs.all id:=by
   rw [aw4,<- hl]
   clear q rv hz hl hq hlt p hh kp
   induction bs with
   | nil=>rfl
   | cons b r ih=>
    rw [aC9,List.range_succ_eq_map,aF8,List.all_map,aF8,<- ih]
    rfl
  rw [all_eq]
  refine⟨.bl (bs.all id),H,I.kept (t':=tk) (h':=h') fun b o e=>kp b o (fun z=>?_) (aw2 _ e),rfl,q⟩
  rw [ay2.mp z] at e
  exact absurd (ax2 e) (az9 _)
end
structure qM (H:Hp) (J:It) (n:Nat) (R:Nat->V->Hp->Prop):Prop where
 go:∀ i H',a9 H H'->i < n->J.go i H'
 yld:∀ i H' x H2,a9 H H'->J.yld i H' x H2->i < n->a9 H' H2/\R i x H2
 stop:∀ H',a9 H H'->J.stop n H'
theorem qN {H1:Hp}{J:It}{n:Nat}{R:Nat->V->Hp->Prop}{g:TG}{tc:TT}{te:TE}{σ0:St}{Q:VK} (O:qM H1 J n R) (Pv:Nat->List V->Hp->Prop) (hn:n<=sizeLine)
  (h0:∀ D,H1 D=none->Pv 0 [] (upd H1 D (.lst [])))
  (mono:∀ i acc H' H2,a9 H' H2->Pv i acc H'->Pv i acc H2)
  (hs:∀ i x acc D H',i < n->R i x H'->mM H1 D n i acc H'->Pv i acc H'->g x σ0 H' fun σ2 H3=>Wk σ0 σ2/\tc σ2 H3 fun b H4=>
   if b=true then te σ2 H4 fun v H5=>pZ H1 D n Pv i acc v H5 else vS H1 D n Pv i acc H4)
  (hd:∀ D acc H',H1 D=none->a9 H1 H'->H' D=some (.lst acc)->acc.length<=n->Pv n acc H'->Q (.ref D) H') :
  ∀ D,H1 D=none->∃ W:Nat->Nat->List V->Hp->Prop,(∃ m,W 0 m [] (upd H1 D (.lst [])))/\kW g tc te σ0 J D Q W:=by
 intro D hD
 refine⟨CW H1 D n Pv,⟨n,rfl,az7 _,aw6 _,b4 hD _,aU,h0 D hD⟩,?_⟩
 rintro i m acc H' ⟨rfl,hi,ha,sm,hDa,p⟩
 refine⟨hDa,?_⟩
 by_cases hlt:i < n
 ·refine .inr ⟨O.go i H' sm hlt,fun x H2 y=>?_⟩
  obtain ⟨s2,r2⟩:=O.yld i H' x H2 sm y hlt
  exact hs i x acc D H2 hlt r2 ⟨hlt,ha,hn,sm.trans s2,hD,s2 _ _ hDa⟩ (mono i acc H' H2 s2 p)
 ·have e:i=n:=by omega
  subst e
  exact .inl ⟨O.stop H' sm,hd D acc H' hD sm hDa ha p⟩
theorem wI {K:PySem.W.Frag}{H:Hp}{a b:Addr}{xs ys:List V} (ha:aI K H a xs) (hb:aI K H b ys) (hl:ys.length<=xs.length) :
  qM H (qJ K a b) ys.length (fun i v H2=>∃ T x y,v = .ref T/\H2 T=some (.tup [x,y])/\xs[i]? = some x/\ys[i]? = some y):=by
 refine⟨fun i H' sm hi=>⟨xs,ys,xs[i]'(by omega),ys[i],sm.tup ha,sm.tup hb,by simp,by simp⟩,fun i H' v H2 sm y hi=>?_,fun H' sm=>⟨xs,ys,sm.tup ha,sm.tup hb,by omega⟩⟩
 obtain ⟨T,x,y',hT,hv,e,hxy⟩:=y
 subst e
 obtain ⟨h1,h2⟩:=hxy xs ys (sm.tup ha) (sm.tup hb)
 exact⟨b4 hT _,T,x,y',hv,aU,h1,h2⟩
end L2
namespace HT
open PySem PyProof.Rows
section
variable {prog : Program} {w : World} {A : Around} {E : Value → Shared → Prop} {s : Shared}
theorem V5 {t sl:Addr}{items:Array Value}{vl vu:Value}{lo hi:Option Int}{Q:Value->Shared->Prop} (ht:IsTup s.heap t items) (hs:s.heap.IsSliceOf sl vl vu .none) (pl:IsPart vl lo) (pu:IsPart vu hi)
  (h1:aM items.size 0 lo=0) (h2:aM items.size items.size hi=items.size) (h:Q (.ref t) s):wpAny (model prog w) A (getItem (.ref t) (.ref sl)) Q E s:=by
 obtain ⟨o,e1,e2,e3⟩:=id hs
 have T:s.TypeIs (.ref sl) "slice":=⟨o,e1,e2⟩
 unfold getItem
 try with_reducible refine aH5 ?_
 first | refine aw1 (aw5 ?_) | skip
 apply aw1
 apply wpAny_sequenceKey ht.typeIs (by decide)
 apply aw1
 apply aA5 (name:=Str.ofString "__getitem__") ht.typeIs aE6
 apply aC8 aE6 ht.typeIs entry_tuple_getitem _ (args_tuple_getitem _ _)
 change wpAny _ _ (Builtin.Tuple.tupleItemsOf (.ref t) >>= _) _ _ s
 apply aw1
 apply tupleItemsOf_ ht
 apply aw1
 apply wpAny_typeOf T
 rw [if_pos (by decide)]
 apply aw1
 apply uS hs pl pu
 rw [h1,h2]
 have yes:((((0:Nat):Int) == 0 && (1:Int) == 1 && (items.size - 0) == items.size)=true):=by simp
 change wpAny _ _ (if ((((0:Nat):Int) == 0 && (1:Int) == 1 && (items.size - 0) == items.size)=true) then _ else _) _ _ s
 rw [if_pos yes]
 apply aw1
 unfold Builtin.Tuple.tupleIsExact
 apply aw1
 apply wpAny_typeOf ht.typeIs
 apply aw5
 change wpAny _ _ (rule "tuple.getitem.whole" >>= fun _=>ret (Value.ref t)) _ _ s
 apply aw1
 apply wpAny_rule
 exact aw5 ⟨_,rfl,aw5 h⟩
end
end HT
namespace L2
open PySem PySem.Spec PyProof.Rows
section
variable {X : Cx}
def V6 (K:PySem.W.Frag):V->Option Int->Option Int->Hp->VK->Prop:=fun x lo hi H Q=>∃ a xs,x = .ref a/\aI K H a xs/\(∀ p,H p=none->Q (.ref p) (upd H p (.tup (cW xs lo hi))))/\(cW xs lo hi=xs->Q (.ref a) H)
theorem wJ:i9 X (V6 X.K):=by
 intro pins s σ H x v vl vu lo hi sl Q I rx hs pl pu h
 obtain ⟨a,xs,ex,hx,q1,q2⟩:=h
 by_cases hw:HT.aM xs.length 0 lo=0/\HT.aM xs.length xs.length hi=xs.length
 ·subst ex
  cases rx
  obtain ⟨its,r,ht,hz⟩:=I.tuple hx
  have hlen:its.toArray.size=xs.length:=by rw [aw4]; exact r.length.symm
  refine⟨"tuple",_,PyProof.Rows.slot_tuple_getitem.lookup,ht.typeIs,?_⟩
  refine HT.V5 ht hs pl pu (by rw [hlen]; exact hw.1) (by rw [hlen]; exact hw.2) ⟨.ref a,H,I,rfl,q2 ?_⟩
  unfold cW
  rw [hw.1,hw.2]
  simp
 ·exact N5 pins s σ H x v vl vu lo hi sl Q I rx hs pl pu ⟨a,xs,ex,hx,hw,q1⟩
end
theorem qO (xs:List V):cW xs (some 1) none=xs.drop 1:=by
 unfold cW
 have e1:HT.aM xs.length 0 (some 1)=min 1 xs.length:=HT.uP xs.length 0 1
 have e2:HT.aM xs.length xs.length none=xs.length:=rfl
 rw [e1,e2]
 cases xs with
 | nil=>rfl
 | cons x r=>
  have:min 1 (x :: r).length=1:=by simp
  rw [this]
  simp
def qP (K:PySem.W.Frag) (a b:Addr):It:=
  ⟨fun i H=>∃ xs ys x y,aH K H a xs/\aH K H b ys/\xs[i]? = some x/\ys[i]? = some y,
   fun i H v H'=>∃ T x y,H T=none/\v = .ref T/\H'=upd H T (.tup [x,y])/\∀ xs ys,aH K H a xs->aH K H b ys->xs[i]? = some x/\ys[i]? = some y,
   fun i H=>∃ xs ys,aH K H a xs/\aH K H b ys/\(i=xs.length ∨ (i < xs.length/\i=ys.length))⟩
abbrev V7:=qK false false
theorem V8 {P:Program}{w:World}{K:PySem.W.Frag}{elts:List Expr}{k:Nat}{pos:Pos} (a b z TI TO i1 i2:Addr) (d : [z,TI,TO,i1,i2].Nodup) :
  fE P w K (.Tuple elts k pos) (qP K a b) [z,TI,TO,i1,i2] z (V7 z TI TO i1 i2 a b):=wH false false a b z TI TO i1 i2 d
section
variable {X : Cx}
def V9 (K:PySem.W.Frag) (ta:TA):TI:=fun σ H R=>ta σ H fun vs H1=>∃ a b xs ys,vs = [.ref a,.ref b]/\aH K H1 a xs/\aH K H1 b ys/\R (qP K a b) H1
theorem W0 {elts:List Expr}{kt:Nat}{pt:Pos}{a b:Expr}{ta:TA}{p pos:Pos} (hg:Gl X "zip") (hm:X.mg "zip" = none) (ha:PA X [a,b] ta) (hs:starEach [a,b] X.env = [(false,eval a X.env),(false,eval b X.env)]:=by rfl) (hs2:starEach [b] X.env = [(false,eval b X.env)]:=by rfl) :
  PI X (.Tuple elts kt pt) (.Call (.Name "zip" p) [a,b] [] pos) (V9 X.K ta):=by
 intro pins s σ H R I h
 refine Call_ (gJ I hg hm PyProof.Rows.boot_zip (aB8 (aJ (ha pos pins s σ H _ I h) fun us s1 ⟨vs,H1,I1,r1,q1⟩=>?_) (by rw [hs,hs2]) (by rw [hs2]; rfl)))
 obtain ⟨a',b',xs,ys,e,h1,h2,q⟩:=q1
 subst e
 cases r1 with
 | cons r rr=>
  cases rr with
  | cons r' rr=>
   cases rr
   cases r
   cases r'
   obtain ⟨us,_,p1,_⟩:=I1.list h1
   obtain ⟨ws,_,p2,_⟩:=I1.list h2
   refine call_zip_2 p1.isList p2.isList fun h' z ti to s1' s2' _ kp=>wpAny_pyIter_zip z ?_
   have fresh:∀ k,H1 (s1.heap.objs.size+k)=none:=fun k=>I1.hok.fresh (aB2 _ _)
   refine⟨s1.heap.objs.size+4,[s1.heap.objs.size+4,s1.heap.objs.size+2,s1.heap.objs.size+3,s1.heap.objs.size,s1.heap.objs.size+1],_,_,H1,rfl,I1.kept (t':=s1.toks) kp,
    V8 a' b' _ _ _ _ _ (by simp),⟨z,ti,⟨_,_,to⟩,s1',s2'⟩,fun c hc=>?_,q⟩
   simp only [aw7,ax1,az3] at hc
   rcases hc with rfl | rfl | rfl | rfl | rfl
   ·exact I1.fpOk (aB2 _ _) (fresh 4)
   ·exact I1.fpOk (aB2 _ _) (fresh 2)
   ·exact I1.fpOk (aB2 _ _) (fresh 3)
   ·exact I1.fpOk (aw6 _) (fresh 0)
   ·exact I1.fpOk (aB2 _ _) (fresh 1)
end
theorem W4 {K:PySem.W.Frag}{H:Hp}{a b:Addr}{xs ys:List V} (ha:aH K H a xs) (hb:aH K H b ys) (hl:ys.length<=xs.length) :
  qM H (qP K a b) ys.length (fun i v H2=>∃ T x y,v = .ref T/\H2 T=some (.tup [x,y])/\xs[i]? = some x/\ys[i]? = some y):=by
 refine⟨fun i H' sm hi=>⟨xs,ys,xs[i]'(by omega),ys[i],sm.seq ha,sm.seq hb,by simp,by simp⟩,fun i H' v H2 sm y hi=>?_,fun H' sm=>⟨xs,ys,sm.seq ha,sm.seq hb,by omega⟩⟩
 obtain ⟨T,x,y',hT,hv,e,hxy⟩:=y
 subst e
 obtain ⟨h1,h2⟩:=hxy xs ys (sm.seq ha) (sm.seq hb)
 exact⟨b4 hT _,T,x,y',hv,aU,h1,h2⟩
end L2
namespace PP
open PySem L2
inductive PV where
 | non | bl (b:Bool) | int (i:Int) | str (x:Str) | tup (xs:List PV) | lst (xs:List PV)
 | dK (kvs:List (aD × PV)) | dT (kvs:List (List aD × PV)) | scr (ns:List Int) | kt (xs:List PV) | exc (c:Str) | fK (kvs:List (aD × PV)) | fT (kvs:List (List aD × PV))
mutual
def flat:PV->Bool
 | .tup xs=>flats xs
 | .lst _=>false
 | .dK _=>false
 | .dT _=>false
 | .non=>true
 | .bl _=>true
 | .int _=>true
 | .str _=>true
 | .scr _=>true
 | .kt xs=>flats xs
 | .exc _=>true
 | .fK _=>false
 | .fT _=>false
def flats:List PV->Bool
 | []=>true
 | x :: r=>flat x && flats r
end
def gS (K:PySem.W.Frag) (H:Hp) (a:Addr) (ns:List Int):Prop:=(∃ o,H a=some (.frz o (.lst (ns.map V.int)))) ∨
  ∃ (o:Obj) (its:Array Value) (n:Nat),K.lookup a=some o/\o.cls = .type "list"/\o.dict=none/\o.data = .seq its n/\its.size<=sizeLine/\aL (ns.map V.int) its.toList
def jI (K:PySem.W.Frag) (a:Addr) (us:List V):Prop:=∃ (o:Obj) (its:Array Value) (n:Nat),K.lookup a=some o/\o.cls = .type "tuple"/\o.data = .seq its n/\its.size<=sizeLine/\aL us its.toList
mutual
inductive aA (K:PySem.W.Frag) (M:Addr->Prop) (H:Hp):V->PV->Prop
 | non:aA K M H .non .non
 | bl (b:Bool):aA K M H (.bl b) (.bl b)
 | int (i:Int):aA K M H (.int i) (.int i)
 | str (x:Str):aA K M H (.str x) (.str x)
 | tup {a:Addr}{us:List V}{xs:List PV}:H a=some (.tup us)->Reps K M H us xs->aA K M H (.ref a) (.tup xs)
 | lst {a:Addr}{us:List V}{xs:List PV}:M a->H a=some (.lst us)->Reps K M H us xs->aA K M H (.ref a) (.lst xs)
 | dK {a:Addr}{kvs:List (aD × V)}{ps:List (aD × PV)}:M a->H a=some (.dK kvs)->kvs.map (·.1)=ps.map (·.1)->Reps K M H (kvs.map (·.2)) (ps.map (·.2))->aA K M H (.ref a) (.dK ps)
 | dT {a:Addr}{kvs:List (List aD × V)}{ps:List (List aD × PV)}:M a->H a=some (.dT kvs)->kvs.map (·.1)=ps.map (·.1)->Reps K M H (kvs.map (·.2)) (ps.map (·.2))->aA K M H (.ref a) (.dT ps)
 | scr {a:Addr}{ns:List Int}:gS K H a ns->aA K M H (.ref a) (.scr ns)
 | kt {a:Addr}{us:List V}{xs:List PV}:jI K a us->Reps K M H us xs->aA K M H (.ref a) (.kt xs)
 | exc {a C:Addr}{o:Obj}{c:Str}:H a=some (.frz o (.own a))->PySem.W.nsIn K mainGlobals c=some (some (.ref C))->o.cls = .ref C->aA K M H (.ref a) (.exc c)
 | fK {a:Addr}{o:Obj}{kvs:List (aD × V)}{ps:List (aD × PV)}:H a=some (.frz o (.dK kvs))->kvs.map (·.1)=ps.map (·.1)->Reps K M H (kvs.map (·.2)) (ps.map (·.2))->aA K M H (.ref a) (.fK ps)
 | fT {a:Addr}{o:Obj}{kvs:List (List aD × V)}{ps:List (List aD × PV)}:H a=some (.frz o (.dT kvs))->kvs.map (·.1)=ps.map (·.1)->Reps K M H (kvs.map (·.2)) (ps.map (·.2))->aA K M H (.ref a) (.fT ps)
inductive Reps (K:PySem.W.Frag) (M:Addr->Prop) (H:Hp):List V->List PV->Prop
 | nil:Reps K M H [] []
 | cons {v:V}{x:PV}{vs:List V}{xs:List PV}:aA K M H v x->Reps K M H vs xs->Reps K M H (v :: vs) (x :: xs)
end
structure g9 (M M':Addr->Prop) (H H':Hp):Prop where
 lst:∀ a us,M a->H a=some (.lst us)->M' a/\H' a=some (.lst us)
 dK:∀ a kvs,M a->H a=some (.dK kvs)->M' a/\H' a=some (.dK kvs)
 dT:∀ a kvs,M a->H a=some (.dT kvs)->M' a/\H' a=some (.dT kvs)
 tup:∀ a us,H a=some (.tup us)->H' a=some (.tup us)
 frz:∀ a o u,H a=some (.frz o u)->H' a=some (.frz o u)
theorem gS.keep {K:PySem.W.Frag}{H H':Hp}{a:Addr}{ns:List Int} (k:∀ a o u,H a=some (.frz o u)->H' a=some (.frz o u)) (h:gS K H a ns):gS K H' a ns:=
 h.elim (fun ⟨o,e⟩=>.inl ⟨o,k _ _ _ e⟩) .inr
mutual
theorem aA.keep {K:PySem.W.Frag}{M M':Addr->Prop}{H H':Hp} (k:g9 M M' H H'):∀ {v:V}{x:PV},aA K M H v x->aA K M' H' v x
 | _,_,.non=>.non
 | _,_,.bl b=>.bl b
 | _,_,.int i=>.int i
 | _,_,.str x=>.str x
 | _,_,.tup h r=>.tup (k.tup _ _ h) (Reps.keep k r)
 | _,_,.lst m h r=>.lst (k.lst _ _ m h).1 (k.lst _ _ m h).2 (Reps.keep k r)
 | _,_,.dK m h e r=>.dK (k.dK _ _ m h).1 (k.dK _ _ m h).2 e (Reps.keep k r)
 | _,_,.dT m h e r=>.dT (k.dT _ _ m h).1 (k.dT _ _ m h).2 e (Reps.keep k r)
 | _,_,.scr h=>.scr (h.keep k.frz)
 | _,_,.kt h r=>.kt h (Reps.keep k r)
 | _,_,.exc h e c=>.exc (k.frz _ _ _ h) e c
 | _,_,.fK h e r=>.fK (k.frz _ _ _ h) e (Reps.keep k r)
 | _,_,.fT h e r=>.fT (k.frz _ _ _ h) e (Reps.keep k r)
theorem Reps.keep {K:PySem.W.Frag}{M M':Addr->Prop}{H H':Hp} (k:g9 M M' H H'):∀ {vs:List V}{xs:List PV},Reps K M H vs xs->Reps K M' H' vs xs
 | _,_,.nil=>.nil
 | _,_,.cons r t=>.cons (aA.keep k r) (Reps.keep k t)
end
mutual
theorem aA.flat {K:PySem.W.Frag}{M M':Addr->Prop}{H:Hp}{v:V}{x:PV} (f:flat x=true) (r:aA K M H v x):aA K M' H v x:=by
 cases r with
 | non=>exact .non
 | bl b=>exact .bl b
 | int i=>exact .int i
 | str x=>exact .str x
 | tup h r=>exact .tup h (Reps.flat (by unfold PP.flat at f; exact f) r)
 | lst m h r=>unfold PP.flat at f; cases f
 | dK m h e r=>unfold PP.flat at f; cases f
 | dT m h e r=>unfold PP.flat at f; cases f
 | scr h=>exact .scr h
 | kt h r=>exact .kt h (Reps.flat (by unfold PP.flat at f; exact f) r)
 | exc h e c=>exact .exc h e c
 | fK h e r=>unfold PP.flat at f; cases f
 | fT h e r=>unfold PP.flat at f; cases f
theorem Reps.flat {K:PySem.W.Frag}{M M':Addr->Prop}{H:Hp}{vs:List V}{xs:List PV} (f:flats xs=true) (r:Reps K M H vs xs):Reps K M' H vs xs:=by
 cases r with
 | nil=>exact .nil
 | cons r t=>
  unfold PP.flats at f
  rw [az2] at f
  exact .cons (aA.flat f.1 r) (Reps.flat f.2 t)
end
theorem g9.same {M M':Addr->Prop}{H H':Hp} (s:a9 H H') (m:∀ a,M a->M' a):g9 M M' H H':=
 ⟨fun a _ h e=>⟨m a h,s _ _ e⟩,fun a _ h e=>⟨m a h,s _ _ e⟩,fun a _ h e=>⟨m a h,s _ _ e⟩,fun _ _ e=>s _ _ e,fun _ _ _ e=>s _ _ e⟩
theorem aA.same {K:PySem.W.Frag}{M M':Addr->Prop}{H H':Hp}{v:V}{x:PV} (r:aA K M H v x) (s:a9 H H') (m:∀ a,M a->M' a):aA K M' H' v x:=r.keep (.same s m)
theorem Reps.same {K:PySem.W.Frag}{M M':Addr->Prop}{H H':Hp}{v:List V}{x:List PV} (r:Reps K M H v x) (s:a9 H H') (m:∀ a,M a->M' a):Reps K M' H' v x:=r.keep (.same s m)
def fH:HO->Bool
 | .lst _=>true
 | .dK _=>true
 | .dT _=>true
 | _=>false
theorem g9.upd {M M':Addr->Prop}{H:Hp}{a:Addr}{o o':HO} (h:H a=some o') (mu:fH o'=true) (m:∀ b,M b->b ≠ a/\M' b):g9 M M' H (upd H a o):=
 ⟨fun b _ hb e=>⟨(m b hb).2,by rw [aB (m b hb).1]; exact e⟩,fun b _ hb e=>⟨(m b hb).2,by rw [aB (m b hb).1]; exact e⟩,fun b _ hb e=>⟨(m b hb).2,by rw [aB (m b hb).1]; exact e⟩,
  fun b _ e=>by rw [aB (fun z=>by rw [z,h] at e; cases e; cases mu)]; exact e,
  fun b _ _ e=>by rw [aB (fun z=>by rw [z,h] at e; cases e; cases mu)]; exact e⟩
theorem Reps.length {K:PySem.W.Frag}{M:Addr->Prop}{H:Hp}:∀ {vs:List V}{xs:List PV},Reps K M H vs xs->vs.length=xs.length
 | _,_,.nil=>rfl
 | _,_,.cons _ t=>congrArg (· + 1) t.length
theorem Reps.get {K:PySem.W.Frag}{M:Addr->Prop}{H:Hp}:∀ {vs:List V}{xs:List PV}{i:Nat}{v:V},Reps K M H vs xs->vs[i]? = some v->∃ x,xs[i]? = some x/\aA K M H v x
 | _,_,_,_,.nil,e=>by simp at e
 | _,_,0,_,.cons r _,e=>by simp at e; subst e; exact⟨_,rfl,r⟩
 | _,_,i+1,v,.cons _ t,e=>by
  rw [aA6] at e
  obtain ⟨x,h1,h2⟩:=t.get e
  exact⟨x,by rw [aA6]; exact h1,h2⟩
theorem Reps.at {K:PySem.W.Frag}{M:Addr->Prop}{H:Hp}:∀ {vs:List V}{xs:List PV}{i:Nat}{x:PV},Reps K M H vs xs->xs[i]? = some x->∃ v,vs[i]? = some v/\aA K M H v x
 | _,_,_,_,.nil,e=>by simp at e
 | _,_,0,_,.cons r _,e=>by simp at e; subst e; exact⟨_,rfl,r⟩
 | _,_,i+1,v,.cons _ t,e=>by
  rw [aA6] at e
  obtain ⟨x,h1,h2⟩:=t.at e
  exact⟨x,by rw [aA6]; exact h1,h2⟩
theorem Reps.append {K:PySem.W.Frag}{M:Addr->Prop}{H:Hp}:∀ {vs:List V}{xs:List PV}{us:List V}{ys:List PV},Reps K M H vs xs->Reps K M H us ys->Reps K M H (vs ++ us) (xs ++ ys)
 | _,_,_,_,.nil,s=>s
 | _,_,_,_,.cons r t,s=>.cons r (t.append s)
theorem Reps.take {K:PySem.W.Frag}{M:Addr->Prop}{H:Hp}:∀ (n:Nat) {vs:List V}{xs:List PV},Reps K M H vs xs->Reps K M H (vs.take n) (xs.take n)
 | 0,_,_,_=>by simp; exact .nil
 | _+1,_,_,.nil=>.nil
 | n+1,_,_,.cons r t=>.cons r (Reps.take n t)
theorem Reps.drop {K:PySem.W.Frag}{M:Addr->Prop}{H:Hp}:∀ (n:Nat) {vs:List V}{xs:List PV},Reps K M H vs xs->Reps K M H (vs.drop n) (xs.drop n)
 | 0,_,_,r=>r
 | _+1,_,_,.nil=>.nil
 | n+1,_,_,.cons _ t=>Reps.drop n t
abbrev intz (ns:List Int):List PV:=ns.map PV.int
theorem Reps.intz {K:PySem.W.Frag}{M:Addr->Prop}{H:Hp}:∀ (ns:List Int),Reps K M H (ns.map V.int) (intz ns)
 | []=>.nil
 | n :: r=>.cons (.int n) (Reps.intz r)
theorem Reps.ofInts {K:PySem.W.Frag}{M:Addr->Prop}{H:Hp}:∀ {ns:List Int}{us:List V},Reps K M H us (PP.intz ns)->us=ns.map V.int
 | [],_,.nil=>rfl
 | n :: r,_,.cons q t=>by
  cases q
  rw [Reps.ofInts t]; rfl
theorem cI:∀ (ns:List Int),flats (intz ns)=true
 | []=>rfl
 | n :: r=>by show (flat (.int n) && flats (intz r))=true; rw [cI r]; rfl
inductive Tg | rd | sh | nw | fr
inductive Slot | sh (g:Bool) (x:PV) | own (x:PV)
def Slot.val:Slot->PV
 | .sh _ x=>x
 | .own x=>x
def Slot.tag:Slot->Tg
 | .sh true _=>.nw
 | .sh false _=>.sh
 | .own _=>.rd
abbrev aX:=List (Option Slot)
def Ms (H0:Hp) (W:Addr->Prop):Bool->Addr->Prop
 | false,a=>¬ W a
 | true,a=>¬ W a/\H0 a=none
def Mg (H0:Hp) (W:Addr->Prop) (Hs:Hp):Tg->Addr->Prop
 | .rd,_=>True
 | .sh,a=>¬ W a
 | .nw,a=>¬ W a/\H0 a=none
 | .fr,a=>Hs a=none
def fI (K:PySem.W.Frag) (M:Addr->Prop) (H:Hp) (a:Addr):PV->Prop
 | .lst xs=>∃ us,H a=some (.lst us)/\Reps K M H us xs
 | .dK ps=>∃ kvs,H a=some (.dK kvs)/\kvs.map (·.1)=ps.map (·.1)/\Reps K M H (kvs.map (·.2)) (ps.map (·.2))
 | .dT ps=>∃ kvs,H a=some (.dT kvs)/\kvs.map (·.1)=ps.map (·.1)/\Reps K M H (kvs.map (·.2)) (ps.map (·.2))
 | _=>False
def wK (K:PySem.W.Frag) (H0:Hp) (W:Addr->Prop) (H:Hp) (v:V):Slot->Prop
 | .sh g x=>aA K (Ms H0 W g) H v x
 | .own x=>∃ a,v = .ref a/\W a/\fI K (Ms H0 W true) H a x
structure PX (K:PySem.W.Frag) (H0:Hp) (W:Addr->Prop) (σ:St) (ρ:aX) (H:Hp):Prop where
 len:ρ.length=σ.length
 same:a9 H0 H
 wm:∀ a,W a->H0 a=none/\∃ o,H a=some o/\fH o=true
 sl:∀ (i:Nat) (m:Slot),ρ[i]? = some (some m)->∃ v,σ[i]? = some (some v)/\wK K H0 W H v m
 dis:∀ (i j:Nat) (x y:PV) (a:Addr),ρ[i]? = some (some (.own x))->ρ[j]? = some (some (.own y))->σ[i]? = some (some (.ref a))->σ[j]? = some (some (.ref a))->i=j
theorem fI.keep {K:PySem.W.Frag}{M M':Addr->Prop}{H H':Hp}{a:Addr} (k:g9 M M' H H') (ha:∀ o,H a=some o->H' a=some o):∀ {x:PV},fI K M H a x->fI K M' H' a x
 | .lst _,⟨us,e,r⟩=>⟨us,ha _ e,r.keep k⟩
 | .dK _,⟨us,e,q,r⟩=>⟨us,ha _ e,q,r.keep k⟩
 | .dT _,⟨us,e,q,r⟩=>⟨us,ha _ e,q,r.keep k⟩
theorem fI.at {K:PySem.W.Frag}{M:Addr->Prop}{H:Hp}{a:Addr}:∀ {x:PV},fI K M H a x->∃ o,H a=some o/\fH o=true
 | .lst _,⟨us,e,r⟩=>⟨_,e,rfl⟩
 | .dK _,⟨us,e,q,r⟩=>⟨_,e,rfl⟩
 | .dT _,⟨us,e,q,r⟩=>⟨_,e,rfl⟩
theorem fI.rep {K:PySem.W.Frag}{M M':Addr->Prop}{H:Hp}{a:Addr} (m:∀ b,M b->M' b) (ha:M' a):∀ {x:PV},fI K M H a x->aA K M' H (.ref a) x
 | .lst _,⟨us,e,r⟩=>.lst ha e (r.same (a9.refl _) m)
 | .dK _,⟨us,e,q,r⟩=>.dK ha e q (r.same (a9.refl _) m)
 | .dT _,⟨us,e,q,r⟩=>.dT ha e q (r.same (a9.refl _) m)
section
variable {K : PySem.W.Frag} {H0 : Hp} {W W' : Addr → Prop} {σ : St} {ρ : aX} {H H' : Hp}
theorem PX.mono (p:PX K H0 W σ ρ H) (s:a9 H H'):PX K H0 W σ ρ H':=by
 refine⟨p.len,p.same.trans s,fun a h=>⟨(p.wm a h).1,let ⟨o,e,m⟩:=(p.wm a h).2; ⟨o,s _ _ e,m⟩⟩,fun i m h=>?_,p.dis⟩
 obtain ⟨v,e,r⟩:=p.sl i m h
 refine⟨v,e,?_⟩
 cases m with
 | sh g x=>exact aA.same r s fun _ z=>z
 | own x=>
  obtain ⟨a,e1,e2,r⟩:=r
  exact⟨a,e1,e2,r.keep (.same s fun _ z=>z) fun _ z=>s _ _ z⟩
theorem PX.new (p:PX K H0 W σ ρ H) {a:Addr} (h:H a=none) : ¬ W a/\H0 a=none:=
 ⟨fun z=>(by obtain ⟨_,o,e,_⟩:=p.wm a z; rw [h] at e; cases e),p.same.free h⟩
theorem Mg.back {g:Tg}{H1:Hp} (s:a9 H H1) {a:Addr} (h:Mg H0 W H1 g a):Mg H0 W H g a:=by
 cases g with
 | fr=>exact s.free h
 | rd=>exact h
 | sh=>exact h
 | nw=>exact h
end
abbrev PK:=PV->Tg->Prop
abbrev aC:=aX->PK->Prop
abbrev bM:=aX->(Bool->Prop)->Prop
abbrev c9:=aX->(List (PV × Tg)->Prop)->Prop
inductive eV (K:PySem.W.Frag) (H0:Hp) (W:Addr->Prop) (Hs H:Hp):List V->List (PV × Tg)->Prop
 | nil:eV K H0 W Hs H [] []
 | cons {v:V}{x:PV}{g:Tg}{vs:List V}{xs:List (PV × Tg)}:aA K (Mg H0 W Hs g) H v x->eV K H0 W Hs H vs xs->eV K H0 W Hs H (v :: vs) ((x,g) :: xs)
def mW (K:PySem.W.Frag) (H0:Hp) (W:Addr->Prop) (H:Hp) (Q:PK) (Q':VK):Prop:=∀ v H' x g,a9 H H'->aA K (Mg H0 W H g) H' v x->Q x g->Q' v H'
def LE (X:Cx) (t:aC):TE:=fun σ H Q'=>∃ (W:Addr->Prop) (ρ:aX) (Q:PK),PX X.K X.H₀ W σ ρ H/\t ρ Q/\mW X.K X.H₀ W H Q Q'
def LT (X:Cx) (t:bM):TT:=fun σ H Q'=>∃ (W:Addr->Prop) (ρ:aX) (Q:Bool->Prop),PX X.K X.H₀ W σ ρ H/\t ρ Q/\∀ b H',a9 H H'->Q b->Q' b H'
def LA (X:Cx) (t:c9):TA:=fun σ H Q'=>∃ (W:Addr->Prop) (ρ:aX) (Q:List (PV × Tg)->Prop),PX X.K X.H₀ W σ ρ H/\t ρ Q/\∀ vs H' xs,a9 H H'->eV X.K X.H₀ W H H' vs xs->Q xs->Q' vs H'
theorem eV.same {K:PySem.W.Frag}{H0:Hp}{W:Addr->Prop}{Hs Hs' H H':Hp} (s:a9 H H') (b:a9 Hs' Hs):∀ {vs:List V}{xs:List (PV × Tg)},eV K H0 W Hs H vs xs->eV K H0 W Hs' H' vs xs
 | _,_,.nil=>.nil
 | _,_,.cons r t=>.cons (r.same s fun _ z=>Mg.back b z) (t.same s b)
theorem eV.any {K:PySem.W.Frag}{H0:Hp}{W:Addr->Prop}{Hs H:Hp}:∀ {vs:List V}{xs:List (PV × Tg)},eV K H0 W Hs H vs xs->Reps K (fun _=>True) H vs (xs.map (·.1))
 | _,_,.nil=>.nil
 | _,_,.cons r t=>.cons (r.same (a9.refl _) fun _ _=>trivial) t.any
def Nw:Tg->PV->Prop
 | .fr,_=>True
 | .nw,_=>True
 | _,x=>flat x=true
def kZ (xs:List (PV × Tg)):Prop:=∀ p ∈ xs,Nw p.2 p.1
section
variable {K : PySem.W.Frag} {H0 Hs H : Hp} {W : Addr → Prop} {σ : St} {ρ : aX}
theorem Nw.rep {g:Tg}{x:PV}{v:V} (px:PX K H0 W σ ρ Hs) (n:Nw g x) (r:aA K (Mg H0 W Hs g) H v x):aA K (Ms H0 W true) H v x:=by
 cases g with
 | fr=>exact r.same (a9.refl _) fun a z=>px.new z
 | nw=>exact r.same (a9.refl _) fun a z=>z
 | sh=>exact r.flat n
 | rd=>exact r.flat n
theorem kZ.reps {vs:List V}:∀ {xs:List (PV × Tg)}{vs:List V},PX K H0 W σ ρ Hs->kZ xs->eV K H0 W Hs H vs xs->Reps K (Ms H0 W true) H vs (xs.map (·.1))
 | _,_,px,n,.nil=>.nil
 | _,_,px,n,.cons r t=>.cons (Nw.rep px (n _ ax6) r) (kZ.reps (vs:=vs) px (fun p hp=>n p (ax7 _ hp)) t)
theorem mX {v:V}{m:Slot} (r:wK K H0 W H v m):aA K (Mg H0 W Hs m.tag) H v m.val:=by
 cases m with
 | sh g x=>
  cases g with
  | true=>exact aA.same r (a9.refl _) fun _ z=>z
  | false=>exact aA.same r (a9.refl _) fun _ z=>z
 | own x=>
  obtain ⟨a,rfl,_,r⟩:=r
  exact r.rep (fun _ _=>trivial) trivial
end
section
variable {X : Cx} {σ : St} {H : Hp} {Q' : VK} {ta tb : aC}
def a6 (i:Nat):aC:=fun ρ Q=>∃ m,ρ[i]? = some (some m)/\Q m.val m.tag
def qC (x:PV):aC:=fun _ Q=>Q x .fr
theorem W5 {i:Nat} (h:LE X (a6 i) σ H Q'):i6 i σ H Q':=by
 obtain ⟨W,ρ,Q,px,⟨m,e,q⟩,k⟩:=h
 obtain ⟨v,ev,r⟩:=px.sl i m e
 exact⟨v,ev,k v H _ _ (a9.refl _) (mX r) q⟩
theorem mY {x:PV}{v:V} (hr:∀ M,aA X.K M H v x) (h:LE X (qC x) σ H Q'):tC v σ H Q':=by
 obtain ⟨W,ρ,Q,px,q,k⟩:=h
 exact k v H _ _ (a9.refl _) (hr _) q
def eD (X:Cx) (R:PV->Tg->PV->Tg->PK->Prop) (r:R2):Prop:=∀ (W:Addr->Prop) (Hs H:Hp) (u v:V) (x y:PV) (g g':Tg) (Q:PK) (Q':VK),a9 Hs H->
 (∀ a,Hs a=none->¬ W a/\X.H₀ a=none)->aA X.K (Mg X.H₀ W Hs g) H u x->aA X.K (Mg X.H₀ W Hs g') H v y->R x g y g' Q->(∀ w H' z gz,a9 H H'->aA X.K (Mg X.H₀ W Hs gz) H' w z->Q z gz->Q' w H')->r u v H Q'
def q2 (R:PV->Tg->PV->Tg->PK->Prop) (ta tb:aC):aC:=fun ρ Q=>ta ρ fun x g=>tb ρ fun y g'=>R x g y g' Q
theorem mZ {R:PV->Tg->PV->Tg->PK->Prop}{r:R2} (c:eD X R r) (h:LE X (q2 R ta tb) σ H Q'):kI r (LE X ta) (LE X tb) σ H Q':=by
 obtain ⟨W,ρ,Q,px,q,k⟩:=h
 refine⟨W,ρ,_,px,q,fun u H1 x g s1 r1 q1=>⟨W,ρ,_,px.mono s1,q1,fun v H2 y g' s2 r2 q2=>?_⟩⟩
 exact c W H H2 u v x y g g' Q Q' (s1.trans s2) (fun a z=>px.new z) (r1.same s2 fun _ z=>z) (r2.same (a9.refl _) fun _ z=>Mg.back s1 z) q2 fun w H' z gz s3 r3 q3=>k w H' z gz ((s1.trans s2).trans s3) r3 q3
def RI (C:Int->Int->Prop) (f:Int->Int->PV):PV->Tg->PV->Tg->PK->Prop:=fun x _ y _ Q=>∃ i j,x = .int i/\y = .int j/\C i j/\Q (f i j) .fr
def eF (f:Int->Int->PV):PV->Tg->PV->Tg->PK->Prop:=fun x _ y _ Q=>∃ i j,x = .int i/\y = .int j/\Q (f i j) .fr
theorem nA {C:Int->Int->Prop}{f:Int->Int->Int}:eD X (RI C fun i j=>.int (f i j)) (rI C fun i j=>.int (f i j)):=by
 rintro W Hs H u v x y g g' Q Q' s n r1 r2 ⟨i,j,rfl,rfl,c,q⟩ k
 cases r1; cases r2
 exact⟨i,j,rfl,rfl,c,k _ _ _ _ (a9.refl _) (.int _) q⟩
theorem wL {f:Int->Int->Int}:eD X (eF fun i j=>.int (f i j)) (gK fun i j=>.int (f i j)):=by
 rintro W Hs H u v x y g g' Q Q' s n r1 r2 ⟨i,j,rfl,rfl,q⟩ k
 cases r1; cases r2
 exact⟨i,j,rfl,rfl,k _ _ _ _ (a9.refl _) (.int _) q⟩
theorem nB {f:Int->Int->Bool}:eD X (eF fun i j=>.bl (f i j)) (gK fun i j=>.bl (f i j)):=by
 rintro W Hs H u v x y g g' Q Q' s n r1 r2 ⟨i,j,rfl,rfl,q⟩ k
 cases r1; cases r2
 exact⟨i,j,rfl,rfl,k _ _ _ _ (a9.refl _) (.bl _) q⟩
def iS (neg:Bool):PV->Tg->PV->Tg->PK->Prop:=fun x _ y _ Q=>(∃ i j,x = .int i/\y = .int j/\Q (.bl (if neg=true then !decide (i=j) else decide (i=j))) .fr) ∨ (∃ i j,x = .bl i/\y = .bl j/\Q (.bl (if neg=true then !decide (i=j) else decide (i=j))) .fr)
theorem wM (i j:Int):decide (V.int i=V.int j)=decide (i=j):=by
 rw [aF4,decide_eq_true_eq,decide_eq_true_eq]; exact⟨fun z=>V.int.inj z,fun z=>congrArg V.int z⟩
theorem wN (i j:Bool):decide (V.bl i=V.bl j)=decide (i=j):=by
 rw [aF4,decide_eq_true_eq,decide_eq_true_eq]; exact⟨fun z=>V.bl.inj z,fun z=>congrArg V.bl z⟩
theorem wO:eD X (iS false) u8:=by
 rintro W Hs H u v x y g g' Q Q' s n r1 r2 (⟨i,j,rfl,rfl,q⟩ | ⟨i,j,rfl,rfl,q⟩) k
 ·cases r1; cases r2
  exact⟨rfl,by rw [wM]; exact k _ _ _ _ (a9.refl _) (.bl _) q⟩
 ·cases r1; cases r2
  exact⟨rfl,by rw [wN]; exact k _ _ _ _ (a9.refl _) (.bl _) q⟩
theorem W6:eD X (iS true) u9:=by
 rintro W Hs H u v x y g g' Q Q' s n r1 r2 (⟨i,j,rfl,rfl,q⟩ | ⟨i,j,rfl,rfl,q⟩) k
 ·cases r1; cases r2
  exact⟨rfl,by rw [wM]; exact k _ _ _ _ (a9.refl _) (.bl _) q⟩
 ·cases r1; cases r2
  exact⟨rfl,by rw [wN]; exact k _ _ _ _ (a9.refl _) (.bl _) q⟩
def aV (t:aC):bM:=fun ρ Q=>t ρ fun x _=>∃ b,x = .bl b/\Q b
theorem qQ {t:aC}{Q':Bool->Hp->Prop} (h:LT X (aV t) σ H Q'):LE X t σ H fun x H'=>∃ k,x = .bl k/\Q' k H':=by
 obtain ⟨W,ρ,Q,px,q,k⟩:=h
 refine⟨W,ρ,_,px,q,?_⟩
 rintro v H1 x g s r ⟨b,rfl,q⟩
 cases r
 exact⟨b,rfl,k _ _ s q⟩
def gT (t u:bM):bM:=fun ρ Q=>t ρ fun c=>if c=true then u ρ Q else Q false
def fJ (t u:bM):bM:=fun ρ Q=>t ρ fun c=>if c=true then Q true else u ρ Q
def dW (t:bM):bM:=fun ρ Q=>t ρ fun c=>Q (!c)
variable {t u : bM} {Qb : Bool → Hp → Prop}
theorem W7 (h:LT X (gT t u) σ H Qb):tJ (LT X t) (LT X u) σ H Qb:=by
 obtain ⟨W,ρ,Q,px,q,k⟩:=h
 refine⟨W,ρ,_,px,q,fun b H1 s1 q1=>?_⟩
 cases b with
 | true=>exact b7 ⟨W,ρ,Q,px.mono s1,by simpa using q1,fun b H2 s2 q2=>k _ _ (s1.trans s2) q2⟩
 | false=>exact aR (k _ _ s1 (by simpa using q1))
theorem W8 (h:LT X (fJ t u) σ H Qb):tK (LT X t) (LT X u) σ H Qb:=by
 obtain ⟨W,ρ,Q,px,q,k⟩:=h
 refine⟨W,ρ,_,px,q,fun b H1 s1 q1=>?_⟩
 cases b with
 | false=>exact aR ⟨W,ρ,Q,px.mono s1,by simpa using q1,fun b H2 s2 q2=>k _ _ (s1.trans s2) q2⟩
 | true=>exact b7 (k _ _ s1 (by simpa using q1))
theorem W9 (h:LT X (dW t) σ H Qb):tL (LT X t) σ H Qb:=by
 obtain ⟨W,ρ,Q,px,q,k⟩:=h
 exact⟨W,ρ,_,px,q,fun b H1 s1 q1=>k _ _ s1 q1⟩
def l0 (ta tb:aC):aC:=fun ρ Q=>ta ρ fun x _=>∃ c,x = .bl c/\if c=true then tb ρ Q else Q (.bl false) .fr
def qR (ta tb:aC):aC:=fun ρ Q=>ta ρ fun x _=>∃ c,x = .bl c/\if c=true then Q (.bl true) .fr else tb ρ Q
def qS (ta:aC):aC:=fun ρ Q=>ta ρ fun x _=>∃ c,x = .bl c/\Q (.bl (!c)) .fr
theorem mW.back {K:PySem.W.Frag}{H0:Hp}{W:Addr->Prop}{H H1:Hp}{Q:PK} (k:mW K H0 W H Q Q') (s:a9 H H1):mW K H0 W H1 Q Q':=fun v H' x g s' r q=>k v H' x g (s.trans s') (r.same (a9.refl _) fun _ z=>Mg.back s z) q
theorem X0 (h:LE X (l0 ta tb) σ H Q'):tM (LE X ta) (LE X tb) σ H Q':=by
 obtain ⟨W,ρ,Q,px,q,k⟩:=h
 refine⟨W,ρ,_,px,q,?_⟩
 rintro v H1 x g s1 r ⟨c,rfl,q⟩
 cases r
 refine⟨c,rfl,?_⟩
 cases c with
 | true=>exact b7 ⟨W,ρ,Q,px.mono s1,by simpa using q,k.back s1⟩
 | false=>exact aR (k _ _ _ _ s1 (.bl _) (by simpa using q))
theorem X1 (h:LE X (qR ta tb) σ H Q'):tN (LE X ta) (LE X tb) σ H Q':=by
 obtain ⟨W,ρ,Q,px,q,k⟩:=h
 refine⟨W,ρ,_,px,q,?_⟩
 rintro v H1 x g s1 r ⟨c,rfl,q⟩
 cases r
 refine⟨c,rfl,?_⟩
 cases c with
 | false=>exact aR ⟨W,ρ,Q,px.mono s1,by simpa using q,k.back s1⟩
 | true=>exact b7 (k _ _ _ _ s1 (.bl _) (by simpa using q))
theorem X2 (h:LE X (qS ta) σ H Q'):tO (LE X ta) σ H Q':=by
 obtain ⟨W,ρ,Q,px,q,k⟩:=h
 refine⟨W,ρ,_,px,q,?_⟩
 rintro v H1 x g s1 r ⟨c,rfl,q⟩
 cases r
 exact⟨c,rfl,k _ _ _ _ s1 (.bl _) q⟩
def aE:c9:=fun _ Q=>Q []
def a7 (te:aC) (tr:c9):c9:=fun ρ Q=>te ρ fun x g=>tr ρ fun xs=>Q ((x,g) :: xs)
variable {Qa : List V → Hp → Prop} {tr : c9}
theorem X3 (h:LA X aE σ H Qa):iO σ H Qa:=by
 obtain ⟨W,ρ,Q,px,q,k⟩:=h
 exact k _ _ _ (a9.refl _) .nil q
theorem X4 (h:LA X (a7 ta tr) σ H Qa):i8 (LE X ta) (LA X tr) σ H Qa:=by
 obtain ⟨W,ρ,Q,px,q,k⟩:=h
 refine⟨W,ρ,_,px,q,fun v H1 x g s1 r1 q1=>⟨W,ρ,_,px.mono s1,q1,fun vs H2 xs s2 r2 q2=>?_⟩⟩
 exact k _ _ _ (s1.trans s2) (.cons (r1.same s2 fun _ z=>z) (r2.same (a9.refl _) s1)) q2
def qT (t:c9):aC:=fun ρ Q=>t ρ fun xs=>xs.length<=1000/\kZ xs/\Q (.tup (xs.map (·.1))) .nw
def dI (t:c9):aC:=fun ρ Q=>t ρ fun xs=>xs.length<=1000/\flats (xs.map (·.1))=true/\Q (.tup (xs.map (·.1))) .fr
def dJ (t:c9):aC:=fun ρ Q=>t ρ fun xs=>xs.length<=1000/\flats (xs.map (·.1))=true/\Q (.lst (xs.map (·.1))) .fr
theorem eV.length {K:PySem.W.Frag}{H0:Hp}{W:Addr->Prop}{Hs H:Hp}:∀ {vs:List V}{xs:List (PV × Tg)},eV K H0 W Hs H vs xs->vs.length=xs.length
 | _,_,.nil=>rfl
 | _,_,.cons _ t=>congrArg (· + 1) t.length
theorem nC {n:Nat} (h:n<=1000):n<=sizeLine:=aD8 (vK h)
theorem X5 (h:LE X (qT tr) σ H Q'):p9 (LA X tr) σ H Q':=by
 obtain ⟨W,ρ,Q,px,q,k⟩:=h
 refine⟨W,ρ,_,px,q,?_⟩
 rintro vs H1 xs s1 r ⟨hl,n,q⟩
 refine⟨by rw [r.length]; exact nC hl,fun p hp=>k _ _ _ .nw (s1.trans (b4 hp _)) (.tup aU ?_) q⟩
 exact (kZ.reps (vs:=vs) px n r).same (b4 hp _) fun _ z=>z
theorem X6 (h:LE X (dI tr) σ H Q'):p9 (LA X tr) σ H Q':=by
 obtain ⟨W,ρ,Q,px,q,k⟩:=h
 refine⟨W,ρ,_,px,q,?_⟩
 rintro vs H1 xs s1 r ⟨hl,n,q⟩
 refine⟨by rw [r.length]; exact nC hl,fun p hp=>k _ _ _ .fr (s1.trans (b4 hp _)) (.tup aU ?_) q⟩
 exact (r.any.flat n).same (b4 hp _) fun _ z=>z
theorem X7 (h:LE X (dJ tr) σ H Q'):uF (LA X tr) σ H Q':=by
 obtain ⟨W,ρ,Q,px,q,k⟩:=h
 refine⟨W,ρ,_,px,q,?_⟩
 rintro vs H1 xs s1 r ⟨hl,n,q⟩
 refine⟨by rw [r.length]; exact nC hl,fun p hp=>k _ _ _ .fr (s1.trans (b4 hp _)) (.lst (s1.free hp) aU ?_) q⟩
 exact (r.any.flat n).same (b4 hp _) fun _ z=>z
def fL (X:Cx) (R:List PV->(PV->Prop)->Prop) (r:List V->Hp->VK->Prop):Prop:=∀ (H:Hp) (vs:List V) (xs:List PV) (Q:PV->Prop) (Q':VK),Reps X.K (fun _=>True) H vs xs->R xs Q->
 (∀ w H' z,a9 H H'->aA X.K (fun a=>H a=none) H' w z->Q z->Q' w H')->r vs H Q'
def aK (R:List PV->(PV->Prop)->Prop) (t:c9):aC:=fun ρ Q=>t ρ fun xs=>R (xs.map (·.1)) fun z=>Q z .fr
theorem wP {R:List PV->(PV->Prop)->Prop}{r:List V->Hp->VK->Prop} (c:fL X R r) (h:LE X (aK R tr) σ H Q'):pC r (LA X tr) σ H Q':=by
 obtain ⟨W,ρ,Q,px,q,k⟩:=h
 refine⟨W,ρ,_,px,q,fun vs H1 xs s1 r1 q1=>c H1 vs _ _ Q' r1.any q1 fun w H' z s2 r2 q2=>k w H' z .fr (s1.trans s2) (r2.same (a9.refl _) fun _ z=>s1.free z) q2⟩
end
structure iD where
 nx:aX->Prop
 rt:PV->Prop
 bk:aX->Prop:=fun _=>False
 ct:aX->Prop:=fun _=>False
abbrev aO:=iD->aX->Prop
def Ev (W:Addr->Prop) (H:Hp) (W':Addr->Prop) (H':Hp):Prop:=∀ b o,H b=some o->¬ W b->H' b=some o/\¬ W' b
theorem Ev.trans {W W1 W2:Addr->Prop}{H H1 H2:Hp} (a:Ev W H W1 H1) (b:Ev W1 H1 W2 H2):Ev W H W2 H2:=fun c o h n=>let ⟨h1,n1⟩:=a c o h n; b c o h1 n1
theorem Ev.same {W:Addr->Prop}{H H':Hp} (s:a9 H H'):Ev W H W H':=fun c o h n=>⟨s _ _ h,n⟩
theorem Ev.refl (W:Addr->Prop) (H:Hp):Ev W H W H:=Ev.same (a9.refl _)
structure l8 (X:Cx) (W:Addr->Prop) (H:Hp) (D':iD) (D:cH):Prop where
 nx:∀ W' σ' H' ρ',Ev W H W' H'->PX X.K X.H₀ W' σ' ρ' H'->D'.nx ρ'->D.nx σ' H'
 rt:∀ v H' x,a9 X.H₀ H'->aA X.K (fun a=>X.H₀ a=none) H' v x->D'.rt x->D.rt v H'
 bk:∀ W' σ' H' ρ',Ev W H W' H'->PX X.K X.H₀ W' σ' ρ' H'->D'.bk ρ'->D.bk σ' H'
 ct:∀ W' σ' H' ρ',Ev W H W' H'->PX X.K X.H₀ W' σ' ρ' H'->D'.ct ρ'->D.ct σ' H'
theorem l8.step {X:Cx}{W W1:Addr->Prop}{H H1:Hp}{D':iD}{D:cH} (k:l8 X W H D' D) (e:Ev W H W1 H1):l8 X W1 H1 D' D:=
 ⟨fun W' σ' H' ρ' e'=>k.nx W' σ' H' ρ' (e.trans e'),k.rt,fun W' σ' H' ρ' e'=>k.bk W' σ' H' ρ' (e.trans e'),fun W' σ' H' ρ' e'=>k.ct W' σ' H' ρ' (e.trans e')⟩
def LS (X:Cx) (t:aO):TS:=fun D σ H=>∃ (W:Addr->Prop) (ρ:aX) (D':iD),PX X.K X.H₀ W σ ρ H/\t D' ρ/\l8 X W H D' D
theorem dB {α:Type}{l:List α}{i j:Nat}{a b:α} (h:(l.set i a)[j]? = some b):(j=i/\i < l.length/\b=a) ∨ (j ≠ i/\l[j]? = some b):=by
 by_cases e:j=i
 ·subst e
  have hl:j < (l.set j a).length:=(ax3.mp h).1
  rw [aC0] at hl
  rw [aC6 hl] at h
  exact .inl ⟨rfl,hl,(ay6 h).symm⟩
 ·rw [ay4 (Ne.symm e)] at h
  exact .inr ⟨e,h⟩
section
variable {K : PySem.W.Frag} {H0 : Hp} {W W' : Addr → Prop} {σ : St} {ρ : aX} {H H' Hs : Hp}
theorem PX.setSh {i:Nat}{v:V}{g:Bool}{x:PV} (p:PX K H0 W σ ρ H) (r:aA K (Ms H0 W g) H v x):PX K H0 W (σ.set i (some v)) (ρ.set i (some (.sh g x))) H:=by
 refine⟨by rw [aC0,aC0]; exact p.len,p.same,p.wm,fun j m h=>?_,fun j k y z a h1 h2 h3 h4=>?_⟩
 ·rcases dB h with ⟨rfl,hl,e⟩ | ⟨hne,h⟩
  ·cases e
   rw [p.len] at hl
   exact⟨v,aC6 hl,r⟩
  ·obtain ⟨u,e,q⟩:=p.sl j m h
   exact⟨u,by rw [ay4 (Ne.symm hne)]; exact e,q⟩
 ·rcases dB h1 with ⟨_,_,e⟩ | ⟨n1,h1⟩
  ·cases e
  ·rcases dB h2 with ⟨_,_,e⟩ | ⟨n2,h2⟩
   ·cases e
   ·rw [ay4 (Ne.symm n1)] at h3
    rw [ay4 (Ne.symm n2)] at h4
    exact p.dis j k y z a h1 h2 h3 h4
theorem PX.setNone {i:Nat}{o:Option V} (p:PX K H0 W σ ρ H):PX K H0 W (σ.set i o) (ρ.set i none) H:=by
 refine⟨by rw [aC0,aC0]; exact p.len,p.same,p.wm,fun j m h=>?_,fun j k y z a h1 h2 h3 h4=>?_⟩
 ·rcases dB h with ⟨rfl,hl,e⟩ | ⟨hne,h⟩
  ·cases e
  ·obtain ⟨u,e,q⟩:=p.sl j m h
   exact⟨u,by rw [ay4 (Ne.symm hne)]; exact e,q⟩
 ·rcases dB h1 with ⟨_,_,e⟩ | ⟨n1,h1⟩
  ·cases e
  ·rcases dB h2 with ⟨_,_,e⟩ | ⟨n2,h2⟩
   ·cases e
   ·rw [ay4 (Ne.symm n1)] at h3
    rw [ay4 (Ne.symm n2)] at h4
    exact p.dis j k y z a h1 h2 h3 h4
def jJ (W:Addr->Prop) (a:Addr):Addr->Prop:=fun b=>W b ∨ b=a
theorem qU {g:Bool}{a b:Addr} (n:b ≠ a) (h:Ms H0 W g b):Ms H0 (jJ W a) g b:=by
 cases g with
 | true=>exact⟨fun z=>z.elim h.1 n,h.2⟩
 | false=>exact fun z=>z.elim h n
theorem PX.setOwn {i:Nat}{a:Addr}{x:PV} (p:PX K H0 W σ ρ Hs) (s:a9 Hs H) (ha:Hs a=none) (r:fI K (Ms H0 (jJ W a) true) H a x):PX K H0 (jJ W a) (σ.set i (some (.ref a))) (ρ.set i (some (.own x))) H:=by
 have old:∀ b o,Hs b=some o->b ≠ a:=fun b o e z=>by rw [z,ha] at e; cases e
 have kp:∀ g,g9 (Ms H0 W g) (Ms H0 (jJ W a) g) Hs H:=fun g=>⟨fun b _ m e=>⟨qU (old _ _ e) m,s _ _ e⟩,fun b _ m e=>⟨qU (old _ _ e) m,s _ _ e⟩,fun b _ m e=>⟨qU (old _ _ e) m,s _ _ e⟩,fun _ _ e=>s _ _ e,fun _ _ _ e=>s _ _ e⟩
 have wa : ¬ W a:=(p.new ha).1
 refine⟨by rw [aC0,aC0]; exact p.len,p.same.trans s,fun b z=>?_,fun j m h=>?_,fun j k y z b h1 h2 h3 h4=>?_⟩
 ·rcases z with z | rfl
  ·obtain ⟨h1,o,h2,h3⟩:=p.wm b z
   exact⟨h1,o,s _ _ h2,h3⟩
  ·exact⟨(p.new ha).2,r.at⟩
 ·rcases dB h with ⟨rfl,hl,e⟩ | ⟨hne,h⟩
  ·cases e
   rw [p.len] at hl
   exact⟨_,aC6 hl,a,rfl,.inr rfl,r⟩
  ·obtain ⟨u,e,q⟩:=p.sl j m h
   refine⟨u,by rw [ay4 (Ne.symm hne)]; exact e,?_⟩
   cases m with
   | sh g y=>exact aA.keep (kp g) q
   | own y=>
    obtain ⟨b,e1,e2,q⟩:=q
    exact⟨b,e1,.inl e2,q.keep (kp true) fun o z=>s _ _ z⟩
 ·have ne:∀ {j:Nat}{y:PV},ρ[j]? = some (some (.own y))->σ[j]? ≠ some (some (.ref a)):=fun {j y} h1 h2=>by
   obtain ⟨u,e,c,e1,e2,_⟩:=p.sl j _ h1
   rw [h2] at e
   cases e
   cases e1
   exact wa e2
  rcases dB h1 with ⟨e1,l1,_⟩ | ⟨n1,h1⟩
  ·rcases dB h2 with ⟨e2,_,_⟩ | ⟨n2,h2⟩
   ·rw [e1,e2]
   ·rw [e1,aC6 (by rw [<- p.len]; exact l1)] at h3
    rw [ay4 (Ne.symm n2)] at h4
    cases h3
    exact absurd h4 (ne h2)
  ·rw [ay4 (Ne.symm n1)] at h3
   rcases dB h2 with ⟨e2,l2,_⟩ | ⟨n2,h2⟩
   ·rw [e2,aC6 (by rw [<- p.len]; exact l2)] at h4
    cases h4
    exact absurd h3 (ne h1)
   ·rw [ay4 (Ne.symm n2)] at h4
    exact p.dis j k y z b h1 h2 h3 h4
theorem Ev.own {a:Addr} (s:a9 Hs H) (ha:Hs a=none):Ev W Hs (jJ W a) H:=fun b o e n=>⟨s _ _ e,fun z=>z.elim n fun z=>by rw [z,ha] at e; cases e⟩
theorem nD {g:Bool}{a b:Addr} (wa:W a) (h:Ms H0 W g b):b ≠ a:=by
 cases g with
 | true=>exact fun z=>h.1 (by rw [z]; exact wa)
 | false=>exact fun z=>h (by rw [z]; exact wa)
theorem PX.updOwn {i:Nat}{a:Addr}{x y:PV}{o:HO} (p:PX K H0 W σ ρ H) (hi:ρ[i]? = some (some (.own x))) (ha:σ[i]? = some (some (.ref a))) (wa:W a) (mu:fH o=true) (r:fI K (Ms H0 W true) (upd H a o) a y) :
  PX K H0 W σ (ρ.set i (some (.own y))) (upd H a o):=by
 obtain ⟨w0,o',e',mu'⟩:=p.wm a wa
 have kp:∀ g,g9 (Ms H0 W g) (Ms H0 W g) H (upd H a o):=fun g=>.upd e' mu' fun b m=>⟨nD wa m,m⟩
 refine⟨by rw [aC0]; exact p.len,fun b u e=>by rw [aB (fun z=>by rw [z,w0] at e; cases e)]; exact p.same _ _ e,fun b z=>?_,fun j m h=>?_,fun j k y' z b h1 h2 h3 h4=>?_⟩
 ·by_cases e:b=a
  ·subst e; exact⟨w0,o,aU,mu⟩
  ·obtain ⟨h1,o2,h2,h3⟩:=p.wm b z
   exact⟨h1,o2,by rw [aB e]; exact h2,h3⟩
 ·rcases dB h with ⟨rfl,hl,e⟩ | ⟨hne,h⟩
  ·cases e
   exact⟨_,ha,a,rfl,wa,r⟩
  ·obtain ⟨u,e,q⟩:=p.sl j m h
   refine⟨u,e,?_⟩
   cases m with
   | sh g y=>exact aA.keep (kp g) q
   | own y=>
    obtain ⟨b,e1,e2,q⟩:=q
    have hb:b ≠ a:=fun z=>by
     subst e1
     rw [z] at e
     exact hne (p.dis j i _ _ a h hi e ha)
    exact⟨b,e1,e2,q.keep (kp true) fun o z=>by rw [aB hb]; exact z⟩
 ·have g1:∃ y,ρ[j]? = some (some (.own y)):=by
   rcases dB h1 with ⟨e,_,_⟩ | ⟨_,h⟩
   ·exact⟨x,by rw [e]; exact hi⟩
   ·exact⟨_,h⟩
  have g2:∃ y,ρ[k]? = some (some (.own y)):=by
   rcases dB h2 with ⟨e,_,_⟩ | ⟨_,h⟩
   ·exact⟨x,by rw [e]; exact hi⟩
   ·exact⟨_,h⟩
  obtain ⟨y1,g1⟩:=g1
  obtain ⟨y2,g2⟩:=g2
  exact p.dis j k y1 y2 b g1 g2 h3 h4
theorem Ev.upd {a:Addr}{o:HO} (wa:W a):Ev W H W (upd H a o):=fun b u e n=>⟨by rw [aB (fun z=>n (by rw [z]; exact wa))]; exact e,n⟩
def l9 (W:Addr->Prop) (a:Addr):Addr->Prop:=fun b=>W b/\b ≠ a
theorem qV {g:Bool}{a b:Addr} (h:Ms H0 W g b):Ms H0 (l9 W a) g b:=by
 cases g with
 | true=>exact⟨fun z=>h.1 z.1,h.2⟩
 | false=>exact fun z=>h z.1
theorem PX.freeze {i:Nat}{a:Addr}{x:PV} (p:PX K H0 W σ ρ H) (hi:ρ[i]? = some (some (.own x))) (ha:σ[i]? = some (some (.ref a))):PX K H0 (l9 W a) σ (ρ.set i (some (.sh true x))) H:=by
 obtain ⟨v,ev,a',e1,wa,r⟩:=p.sl i _ hi
 rw [ha] at ev
 cases ev
 cases e1
 refine⟨by rw [aC0]; exact p.len,p.same,fun b z=>p.wm b z.1,fun j m h=>?_,fun j k y' z b h1 h2 h3 h4=>?_⟩
 ·rcases dB h with ⟨rfl,hl,e⟩ | ⟨hne,h⟩
  ·cases e
   exact⟨_,ha,r.rep (M':=Ms H0 (l9 W a) true) (fun b m=>qV (g:=true) m) (show Ms H0 (l9 W a) true a from ⟨fun z=>z.2 rfl,(p.wm a wa).1⟩)⟩
  ·obtain ⟨u,e,q⟩:=p.sl j m h
   refine⟨u,e,?_⟩
   cases m with
   | sh g y=>exact aA.same q (a9.refl _) fun _ m=>qV m
   | own y=>
    obtain ⟨b,e1,e2,q⟩:=q
    have hb:b ≠ a:=fun z=>by
     subst e1
     rw [z] at e
     exact hne (p.dis j i _ _ a h hi e ha)
    exact⟨b,e1,⟨e2,hb⟩,q.keep (.same (a9.refl _) fun _ m=>qV m) fun _ z=>z⟩
 ·rcases dB h1 with ⟨_,_,e⟩ | ⟨_,h1⟩
  ·cases e
  ·rcases dB h2 with ⟨_,_,e⟩ | ⟨_,h2⟩
   ·cases e
   ·exact p.dis j k _ _ b h1 h2 h3 h4
theorem Ev.off {a:Addr}:Ev W H (l9 W a) H:=fun b u e n=>⟨e,fun z=>n z.1⟩
end
section
variable {X : Cx} {σ : St} {H : Hp} {D : cH} {te : aC} {t u : aO}
def c7:aO:=fun D ρ=>D.nx ρ
def aP (t u:aO):aO:=fun D ρ=>t { D with nx:=u D } ρ
theorem X8 (h:LS X c7 D σ H):tP D σ H:=by
 obtain ⟨W,ρ,D',px,q,k⟩:=h
 exact k.nx W σ H ρ (Ev.refl _ _) px q
theorem X9 (h:LS X (aP t u) D σ H):tQ (LS X t) (LS X u) D σ H:=by
 obtain ⟨W,ρ,D',px,q,k⟩:=h
 exact⟨W,ρ,_,px,q,fun W' σ' H' ρ' e px' q'=>⟨W',ρ',D',px',q',k.step e⟩,k.rt,k.bk,k.ct⟩
def wQ:Tg->PV->Bool
 | .fr,_=>true
 | .nw,_=>true
 | _,x=>flat x
def wR:Tg->PV->Prop
 | .rd,x=>flat x=true
 | _,_=>True
theorem Y0 {K:PySem.W.Frag}{H0 Hs H:Hp}{W:Addr->Prop}{σ:St}{ρ:aX}{g:Tg}{x:PV}{v:V} (px:PX K H0 W σ ρ Hs) (n:wR g x) (r:aA K (Mg H0 W Hs g) H v x):aA K (Ms H0 W (wQ g x)) H v x:=by
 cases g with
 | fr=>exact Nw.rep (g:=.fr) px trivial r
 | nw=>exact Nw.rep (g:=.nw) px trivial r
 | sh=>
  show aA K (Ms H0 W (flat x)) H v x
  cases e:flat x with
  | true=>exact r.flat e
  | false=>exact r.same (a9.refl _) fun _ z=>z
 | rd=>exact r.flat n
def bB (i:Nat) (te:aC):aO:=fun D ρ=>te ρ fun x g=>wR g x/\D.nx (ρ.set i (some (.sh (wQ g x) x)))
theorem qW {i:Nat} (h:LS X (bB i te) D σ H):iN (LE X te) (bY i) D σ H:=by
 obtain ⟨W,ρ,D',px,q,k⟩:=h
 refine⟨W,ρ,_,px,q,?_⟩
 rintro v H1 x g s r ⟨n,q⟩
 exact k.nx W _ H1 _ (Ev.same s) ((px.mono s).setSh (Y0 px n r)) q
def wS:PV->Bool
 | .lst xs=>flats xs
 | .dK ps=>flats (ps.map (·.2))
 | .dT ps=>flats (ps.map (·.2))
 | _=>false
theorem Y1 {K:PySem.W.Frag}{M:Addr->Prop}{H:Hp}{v:V}{x:PV} (r:aA K M H v x) (o:wS x=true):∃ a,v = .ref a/\M a/\∀ M',fI K M' H a x:=by
 cases r with
 | lst m e r=>exact⟨_,rfl,m,fun _=>⟨_,e,r.flat o⟩⟩
 | dK m e q r=>exact⟨_,rfl,m,fun _=>⟨_,e,q,r.flat o⟩⟩
 | dT m e q r=>exact⟨_,rfl,m,fun _=>⟨_,e,q,r.flat o⟩⟩
 | _=>cases o
def eW (i:Nat) (te:aC):aO:=fun D ρ=>te ρ fun x g=>g = .fr/\wS x=true/\D.nx (ρ.set i (some (.own x)))
theorem Y2 {i:Nat} (h:LS X (eW i te) D σ H):iN (LE X te) (bY i) D σ H:=by
 obtain ⟨W,ρ,D',px,q,k⟩:=h
 refine⟨W,ρ,_,px,q,?_⟩
 rintro v H1 x g s r ⟨rfl,o,q⟩
 obtain ⟨a,rfl,m,w⟩:=Y1 r o
 exact k.nx _ _ H1 _ (Ev.own s m) (px.setOwn s m (w _)) q
def nE (i:Nat) (t:aO):aO:=fun D ρ=>∃ x,ρ[i]? = some (some (.own x))/\t D (ρ.set i (some (.sh true x)))
theorem Y3 {i:Nat} (h:LS X (nE i t) D σ H):LS X t D σ H:=by
 obtain ⟨W,ρ,D',px,⟨x,hi,q⟩,k⟩:=h
 obtain ⟨v,ev,a,rfl,wa,r⟩:=px.sl i _ hi
 exact⟨_,_,D',px.freeze hi ev,q,k.step Ev.off⟩
def bF (te:aC):aO:=fun D ρ=>te ρ fun x g=>Nw g x/\D.rt x
theorem Y4 (h:LS X (bF te) D σ H):tS (LE X te) D σ H:=by
 obtain ⟨W,ρ,D',px,q,k⟩:=h
 refine⟨W,ρ,_,px,q,?_⟩
 rintro v H1 x g s r ⟨n,q⟩
 exact k.rt v H1 x (px.same.trans s) ((Nw.rep px n r).same (a9.refl _) fun _ z=>z.2) q
def Slot.nw:Slot->Prop
 | .own _=>True
 | .sh true _=>True
 | .sh false x=>flat x=true
def c8 (c:bM) (t u:aO):aO:=fun D ρ=>c ρ fun b=>if b=true then t D ρ else u D ρ
theorem Y5 {c:bM} (h:LS X (c8 c t u) D σ H):tT (LT X c) (LS X t) (LS X u) D σ H:=by
 obtain ⟨W,ρ,D',px,q,k⟩:=h
 refine⟨W,ρ,_,px,q,fun b H1 s q1=>?_⟩
 cases b with
 | true=>exact b7 ⟨W,ρ,D',px.mono s,by simpa using q1,k.step (Ev.same s)⟩
 | false=>exact aR ⟨W,ρ,D',px.mono s,by simpa using q1,k.step (Ev.same s)⟩
end
theorem lim {n:Nat} (h:n<=16000000):n<=sizeLine:=aD8 (fZ h)
theorem aA.sqT {K:PySem.W.Frag}{M:Addr->Prop}{H:Hp}{v:V}{xs:List PV} (r:aA K M H v (.tup xs)):∃ a us,v = .ref a/\H a=some (.tup us)/\Reps K M H us xs:=by
 cases r with
 | tup e r=>exact⟨_,_,rfl,e,r⟩
theorem aA.sqL {K:PySem.W.Frag}{M:Addr->Prop}{H:Hp}{v:V}{xs:List PV} (r:aA K M H v (.lst xs)):∃ a us,v = .ref a/\M a/\H a=some (.lst us)/\Reps K M H us xs:=by
 cases r with
 | lst m e r=>exact⟨_,_,rfl,m,e,r⟩
theorem gS.sqL {K:PySem.W.Frag}{H:Hp}{a:Addr}{ns:List Int} (h:gS K H a ns):aH K H a (ns.map V.int):=h.elim (fun z=>.inl (.inr z)) .inr
def gU:PV->Option (List PV)
 | .tup xs=>some xs
 | .lst xs=>some xs
 | .scr ns=>some (intz ns)
 | .kt xs=>some xs
 | _=>none
theorem aA.seq {K:PySem.W.Frag}{M:Addr->Prop}{H:Hp}{v:V}{x:PV}{xs:List PV} (r:aA K M H v x) (e:gU x=some xs):∃ a us,v = .ref a/\(aH K H a us ∨ aI K H a us)/\Reps K M H us xs:=by
 cases r with
 | tup h r=>cases e; exact⟨_,_,rfl,.inr (aI.of h),r⟩
 | lst m h r=>cases e; exact⟨_,_,rfl,.inl (aH.of h),r⟩
 | scr h=>cases e; exact⟨_,_,rfl,.inl h.sqL,Reps.intz _⟩
 | kt h r=>cases e; exact⟨_,_,rfl,.inr (.inr h),r⟩
 | _=>cases e
section
variable {X : Cx} {σ : St} {H : Hp} {D : cH} {te ti to : aC} {t u : aO} {Q' : VK}
theorem _root_.PP.PX.updL {K:PySem.W.Frag}{H0:Hp}{W:Addr->Prop}{σ:St}{ρ:aX}{H:Hp}{i:Nat}{a:Addr}{x:PV}{us:List V}{ys:List PV} (p:PX K H0 W σ ρ H) (hi:ρ[i]? = some (some (.own x))) (ha:σ[i]? = some (some (.ref a))) (wa:W a) (r:Reps K (Ms H0 W true) (upd H a (.lst us)) us ys) :
  PX K H0 W σ (ρ.set i (some (.own (.lst ys)))) (upd H a (.lst us)):=p.updOwn hi ha wa rfl (y:=.lst ys) ⟨us,aU,r⟩
def gA (i:Nat) (te:aC):aO:=fun D ρ=>∃ xs,ρ[i]? = some (some (.own (.lst xs)))/\te ρ fun x g=>Nw g x/\xs.length < 16000000/\D.nx (ρ.set i (some (.own (.lst (xs ++ [x])))))
theorem Y6 {i:Nat} (h:LS X (gA i te) D σ H):tR (pL X.K "list" v3 (i6 i) (i8 (LE X te) iO)) D σ H:=by
 obtain ⟨W,ρ,D',px,⟨xs,hi,q⟩,k⟩:=h
 obtain ⟨v,ev,a,rfl,wa,us,ea,r⟩:=px.sl i _ hi
 refine⟨_,ev,mT (aH.of ea),W,ρ,_,px,q,?_⟩
 rintro w H1 x g s rx ⟨n,hl,q⟩
 have ea1:=s _ _ ea
 refine⟨a,us,w,rfl,rfl,ea1,fZ (by rw [r.length]; omega),?_⟩
 refine k.nx W σ _ _ ((Ev.same s).trans (Ev.upd wa)) ((px.mono s).updL hi ev wa ?_) q
 exact ((r.same s fun _ z=>z).append (.cons (Nw.rep px n rx) .nil)).keep (.upd ea1 rfl fun b m=>⟨nD wa m,m⟩)
end
theorem Reps.atI {K:PySem.W.Frag}{M:Addr->Prop}{H:Hp}{us:List V}{xs:List PV}{i:Int}{z:PV} (r:Reps K M H us xs) (h:L2.atI xs i=some z):∃ v,L2.atI us i=some v/\aA K M H v z:=by
 unfold L2.atI at h ⊢
 rw [r.length]
 cases e:iP xs.length i with
 | none=>rw [e] at h; cases h
 | some j=>rw [e] at h; exact r.at h
section
variable {X : Cx} {σ : St} {H : Hp} {Q' : VK} {ta tb te : aC} {tr : c9}
def qX:PV->Tg->PV->Tg->PK->Prop:=fun x g y _ Q=>∃ xs i z,gU x=some xs/\y = .int i/\L2.atI xs i=some z/\Q z g
theorem Y7:eD X qX (uY X.K):=by
 rintro W Hs H u v x y g g' Q Q' s n r1 r2 ⟨xs,i,z,e,rfl,hz,q⟩ k
 cases r2
 obtain ⟨a,us,rfl,hs,r⟩:=r1.seq e
 obtain ⟨v,hv,rv⟩:=r.atI hz
 rcases hs with hs | hs
 ·exact .inl ⟨a,us,i,v,rfl,rfl,hs,hv,k v H z g (a9.refl _) rv q⟩
 ·exact .inr (.inl ⟨a,us,i,v,rfl,rfl,hs,hv,k v H z g (a9.refl _) rv q⟩)
def nF:PV->Option Nat
 | .tup xs=>some xs.length
 | .lst xs=>some xs.length
 | .scr ns=>some ns.length
 | .dK ps=>some ps.length
 | .kt xs=>some xs.length
 | _=>none
def dC:List PV->(PV->Prop)->Prop:=fun xs Q=>∃ x n,xs = [x]/\nF x=some n/\Q (.int n)
theorem Reps.one {K:PySem.W.Frag}{M:Addr->Prop}{H:Hp}{vs:List V}{x:PV} (r:Reps K M H vs [x]):∃ v,vs = [v]/\aA K M H v x:=by
 cases r with
 | cons r t=>cases t; exact⟨_,rfl,r⟩
theorem Reps.two {K:PySem.W.Frag}{M:Addr->Prop}{H:Hp}{vs:List V}{x y:PV} (r:Reps K M H vs [x,y]):∃ v w,vs = [v,w]/\aA K M H v x/\aA K M H w y:=by
 cases r with
 | cons r t=>
  obtain ⟨w,rfl,q⟩:=t.one
  exact⟨_,_,rfl,r,q⟩
theorem Y8:fL X dC (fun xs H Q=>(∃ p ys,xs = [.ref p]/\(aH X.K H p ys ∨ aI X.K H p ys)/\Q (.int ys.length) H) ∨ ∃ a kvs,xs = [V.ref a]/\H a=some (.dK kvs)/\Q (.int kvs.length) H):=by
 rintro H vs xs Q Q' r ⟨x,n,rfl,e,q⟩ k
 obtain ⟨v,rfl,r1⟩:=r.one
 have fin:∀ {m:Nat},m=n->Q' (.int m) H:=fun {m} z=>by rw [z]; exact k _ _ _ (a9.refl _) (.int _) q
 cases r1 with
 | tup h r2=>cases e; exact .inl ⟨_,_,rfl,.inr (aI.of h),fin r2.length⟩
 | lst m h r2=>cases e; exact .inl ⟨_,_,rfl,.inl (aH.of h),fin r2.length⟩
 | scr h=>cases e; exact .inl ⟨_,_,rfl,.inl h.sqL,fin (by rw [aw9])⟩
 | kt h r2=>cases e; exact .inl ⟨_,_,rfl,.inr (.inr h),fin r2.length⟩
 | dK m h e' r=>
  cases e
  refine .inr ⟨_,_,rfl,h,fin ?_⟩
  have:=congrArg List.length e'
  rw [aw9,aw9] at this
  exact this
 | _=>cases e
def seqT:PV->Option (List PV)
 | .kt _=>none
 | x=>gU x
def wT:List PV->(PV->Prop)->Prop:=fun xs Q=>∃ x ys,xs = [x]/\seqT x=some ys/\flats ys=true/\Q (.tup ys)
def qY:List PV->(PV->Prop)->Prop:=fun xs Q=>∃ x ys,xs = [x]/\gU x=some ys/\flats ys=true/\Q (.lst ys)
theorem Y9:fL X (fun xs Q=>wT xs Q/\∀ ns,xs ≠ [.scr ns]) (fun xs H Q=>∃ p ys,xs = [.ref p]/\((aH X.K H p ys/\∀ l,H l=none->Q (.ref l) (upd H l (.tup ys))) ∨ (aI X.K H p ys/\Q (.ref p) H))):=by
 rintro H vs xs Q Q' r ⟨⟨x,ys,rfl,e,f,q⟩,nsc⟩ k
 obtain ⟨v,rfl,r1⟩:=r.one
 cases r1 with
 | tup h r2=>cases e; exact⟨_,_,rfl,.inr ⟨aI.of h,k _ _ _ (a9.refl _) (.tup h (r2.flat f)) q⟩⟩
 | lst m h r2=>cases e; exact⟨_,_,rfl,.inl ⟨aH.of h,fun l hl=>k _ _ _ (b4 hl _) (.tup aU ((r2.flat f).same (b4 hl _) fun _ z=>z)) q⟩⟩
 | scr h=>exact absurd rfl (nsc _)
 | _=>cases e
theorem Z0:fL X qY (fun xs H Q=>∃ p ys,xs = [.ref p]/\(aH X.K H p ys ∨ aI X.K H p ys)/\∀ l,H l=none->Q (.ref l) (upd H l (.lst ys))):=by
 rintro H vs xs Q Q' r ⟨x,ys,rfl,e,f,q⟩ k
 obtain ⟨v,rfl,r1⟩:=r.one
 obtain ⟨a,us,rfl,hs,r2⟩:=r1.seq e
 exact⟨_,_,rfl,hs,fun l hl=>k _ _ _ (b4 hl _) (.lst hl aU ((r2.flat f).same (b4 hl _) fun _ z=>z)) q⟩
def qZ:List PV->(PV->Prop)->Prop:=fun xs Q=>∃ bs:List Bool,xs = [.lst (bs.map PV.bl)]/\Q (.bl (bs.all id))
theorem Reps.ofBls {K:PySem.W.Frag}{M:Addr->Prop}{H:Hp}:∀ {ns:List Bool}{us:List V},Reps K M H us (ns.map PV.bl)->us=ns.map V.bl
 | [],_,.nil=>rfl
 | n :: r,_,.cons q t=>by
  cases q
  rw [Reps.ofBls t]; rfl
theorem Z1:fL X qZ (fun xs H Q=>∃ (a:Addr) (bs:List Bool),xs = [.ref a]/\aH X.K H a (bs.map V.bl)/\Q (.bl (bs.all id)) H):=by
 rintro H vs xs Q Q' r ⟨bs,rfl,q⟩ k
 obtain ⟨v,rfl,r1⟩:=r.one
 obtain ⟨a,us,rfl,_,h,r2⟩:=r1.sqL
 obtain rfl:=r2.ofBls
 exact⟨a,bs,rfl,aH.of h,k _ _ _ (a9.refl _) (.bl _) q⟩
def r0:List PV->(PV->Prop)->Prop:=fun xs Q=>∃ i j,xs = [.int i,.int j]/\Q (.int (if j < i then j else i))
def lA:List PV->(PV->Prop)->Prop:=fun xs Q=>∃ i j,xs = [.int i,.int j]/\Q (.int (if j > i then j else i))
theorem Z2:fL X r0 (fun xs H Q=>∃ i j,xs = [.int i,.int j]/\Q (.int (if j < i then j else i)) H):=by
 rintro H vs xs Q Q' r ⟨i,j,rfl,q⟩ k
 obtain ⟨v,w,rfl,r1,r2⟩:=r.two
 cases r1; cases r2
 exact⟨i,j,rfl,k _ _ _ (a9.refl _) (.int _) q⟩
theorem Z3:fL X lA (fun xs H Q=>∃ i j,xs = [.int i,.int j]/\Q (.int (if j > i then j else i)) H):=by
 rintro H vs xs Q Q' r ⟨i,j,rfl,q⟩ k
 obtain ⟨v,w,rfl,r1,r2⟩:=r.two
 cases r1; cases r2
 exact⟨i,j,rfl,k _ _ _ (a9.refl _) (.int _) q⟩
abbrev bN:=List PV->(PV->Prop)->Prop
def lB (K:PySem.W.Frag) (p:bN):Sp:=fun vs H Q _=>∃ xs Qp,Reps K (fun _=>True) H vs xs/\p xs Qp/\∀ v H' x,a9 H H'->aA K (fun a=>H a=none) H' v x->Qp x->Q v H'
theorem Z4 {p:bN}{E:XK} (h:LE X (aK p tr) σ H Q'):pA (lB X.K p) [] E (LA X tr) σ H Q':=by
 obtain ⟨W,ρ,Q,px,q,k⟩:=h
 refine⟨W,ρ,_,px,q,fun vs H1 xs s1 r1 q1=>⟨_,_,by rw [aD9]; exact r1.any,q1,fun v H' x s2 r2 q2=>k v H' x .fr (s1.trans s2) (r2.same (a9.refl _) fun _ z=>s1.free z) q2⟩⟩
end
structure jK (K:PySem.W.Frag) (H0:Hp) (W:Addr->Prop) (g:Bool) (H1:Hp) (J:It) (xs:List PV):Prop where
 go:∀ W' H' i,Ev W H1 W' H'->i < xs.length->J.go i H'
 yld:∀ W' H' i v H2,Ev W H1 W' H'->J.yld i H' v H2->i < xs.length->a9 H' H2/\∃ x,xs[i]? = some x/\aA K (Ms H0 W' g) H2 v x
 stop:∀ W' H',Ev W H1 W' H'->J.stop xs.length H'
abbrev dL:=aX->(List PV->Bool->Prop)->Prop
def LI (X:Cx) (t:dL):TI:=fun σ H R=>∃ (W:Addr->Prop) (ρ:aX) (Q:List PV->Bool->Prop),PX X.K X.H₀ W σ ρ H/\t ρ Q/\∀ J H1 xs g,a9 H H1->jK X.K X.H₀ W g H1 J xs->Q xs g->R J H1
theorem Ev.keep {H0:Hp}{W W':Addr->Prop}{H H':Hp}{g:Bool} (e:Ev W H W' H') (tw:∀ a,W a->∃ o,H a=some o/\fH o=true):g9 (Ms H0 W g) (Ms H0 W' g) H H':=by
 have m:∀ {a:Addr}{o:HO},Ms H0 W g a->H a=some o->Ms H0 W' g a/\H' a=some o:=fun {a o} z h=>by
  cases g with
  | true=>
   obtain ⟨h1,h2⟩:=e a _ h z.1
   exact⟨⟨h2,z.2⟩,h1⟩
  | false=>
   obtain ⟨h1,h2⟩:=e a _ h z
   exact⟨h2,h1⟩
 refine⟨fun a _ z h=>m z h,fun a _ z h=>m z h,fun a _ z h=>m z h,fun a _ h=>(e a _ h fun z=>?_).1,fun a _ _ h=>(e a _ h fun z=>?_).1⟩
 ·obtain ⟨o,h',mu⟩:=tw a z; rw [h] at h'; cases h'; cases mu
 ·obtain ⟨o,h',mu⟩:=tw a z; rw [h] at h'; cases h'; cases mu
section
variable {X : Cx} {σ : St} {H : Hp} {te : aC} {tr : c9} {R : It → Hp → Prop}
def wU (K:PySem.W.Frag) (tl:TE):TI:=fun σ H R=>tl σ H fun x H1=>∃ a,x = .ref a/\((∃ xs,aH K H1 a xs/\R (jD K a) H1) ∨ (∃ xs,aI K H1 a xs/\R (i7 K a) H1))
def iT:Tg->List PV->Bool
 | .fr,_=>true
 | .nw,_=>true
 | _,xs=>flats xs
def gV (te:aC):dL:=fun ρ Q=>te ρ fun x g=>∃ xs,gU x=some xs/\(g = .rd->flat x=true)/\Q xs (iT g xs)
theorem wV {K:PySem.W.Frag}{H0:Hp}{W:Addr->Prop}{g:Bool}{H1:Hp}{a:Addr}{us:List V}{xs:List PV} (tw:∀ a,W a->∃ o,H1 a=some o/\fH o=true) (ha:∀ W' H',Ev W H1 W' H'->aH K H' a us) (r:Reps K (Ms H0 W g) H1 us xs):jK K H0 W g H1 (jD K a) xs:=by
 have lr:=r.length
 refine⟨fun W' H' i e hi=>⟨us,us[i]'(by omega),ha W' H' e,by simp⟩,fun W' H' i v H2 e y hi=>?_,fun W' H' e=>⟨us,ha W' H' e,by omega⟩⟩
 obtain ⟨rfl,y⟩:=y
 obtain ⟨x,hx,rx⟩:=r.get (y us (ha W' _ e))
 exact⟨a9.refl _,x,hx,rx.keep (e.keep tw)⟩
theorem wW {K:PySem.W.Frag}{H0:Hp}{W:Addr->Prop}{g:Bool}{H1:Hp}{a:Addr}{us:List V}{xs:List PV} (tw:∀ a,W a->∃ o,H1 a=some o/\fH o=true) (ha:∀ W' H',Ev W H1 W' H'->aI K H' a us) (r:Reps K (Ms H0 W g) H1 us xs):jK K H0 W g H1 (i7 K a) xs:=by
 have lr:=r.length
 refine⟨fun W' H' i e hi=>⟨us,us[i]'(by omega),ha W' H' e,by simp⟩,fun W' H' i v H2 e y hi=>?_,fun W' H' e=>⟨us,ha W' H' e,by omega⟩⟩
 obtain ⟨rfl,y⟩:=y
 obtain ⟨x,hx,rx⟩:=r.get (y us (ha W' _ e))
 exact⟨a9.refl _,x,hx,rx.keep (e.keep tw)⟩
theorem jL {K:PySem.W.Frag}{H0 Hs H:Hp}{W:Addr->Prop}{σ:St}{ρ:aX}{g:Tg}{us:List V}{xs:List PV} (px:PX K H0 W σ ρ Hs) (hg:g = .rd->flats xs=true) (r:Reps K (Mg H0 W Hs g) H us xs):Reps K (Ms H0 W (iT g xs)) H us xs:=by
 cases g with
 | fr=>exact r.same (a9.refl _) fun _ z=>px.new z
 | nw=>exact r.same (a9.refl _) fun _ z=>z
 | sh=>
  show Reps K (Ms H0 W (flats xs)) H us xs
  cases e:flats xs with
  | true=>exact r.flat e
  | false=>exact r.same (a9.refl _) fun _ z=>z
 | rd=>exact r.flat (hg rfl)
theorem Z5 (h:LI X (gV te) σ H R):wU X.K (LE X te) σ H R:=by
 obtain ⟨W,ρ,Q,px,q,k⟩:=h
 refine⟨W,ρ,_,px,q,?_⟩
 rintro v H1 x g s r ⟨xs,e,hg,q⟩
 have px1:=px.mono s
 have tw:∀ a,W a->∃ o,H1 a=some o/\fH o=true:=fun a z=>(px1.wm a z).2
 cases r with
 | tup h r=>
  cases e
  refine⟨_,rfl,.inr ⟨_,aI.of h,k _ _ _ _ s (wW tw (fun W' H' e=>aI.of (e _ _ h fun z=>?_).1) (jL px (fun z=>by have:=hg z; unfold flat at this; exact this) r)) q⟩⟩
  obtain ⟨o,h',mu⟩:=tw _ z; rw [h] at h'; cases h'; cases mu
 | @lst a us xs' m h r=>
  cases e
  have wa : ¬ W a:=by
   cases g with
   | fr=>exact (px.new m).1
   | nw=>exact m.1
   | sh=>exact m
   | rd=>have:=hg rfl; unfold flat at this; cases this
  exact⟨_,rfl,.inl ⟨_,aH.of h,k _ _ _ _ s (wV tw (fun W' H' e=>aH.of (e _ _ h wa).1) (jL px (fun z=>by have:=hg z; unfold flat at this; cases this) r)) q⟩⟩
 | scr h=>
  cases e
  refine⟨_,rfl,.inl ⟨_,h.sqL,k _ _ _ _ s (wV tw (fun W' H' e=>(gS.keep (fun a o u hz=>(e _ _ hz fun z=>?_).1) h).sqL) (jL (g:=g) px (fun z=>cI _) (Reps.intz _))) q⟩⟩
  obtain ⟨o,h',mu⟩:=tw _ z; rw [hz] at h'; cases h'; cases mu
 | kt h r=>
  cases e
  exact⟨_,rfl,.inr ⟨_,.inr h,k _ _ _ _ s (wW tw (fun W' H' e=>.inr h) (jL px (fun z=>by have:=hg z; unfold flat at this; exact this) r)) q⟩⟩
 | _=>cases e
def dX (lo:Int) (n:Nat):List PV:=(List.range n).map fun (i:Nat)=>PV.int (lo+(i:Int))
theorem eY (lo:Int) (n:Nat):(dX lo n).length=n:=by unfold dX; rw [aw9,List.length_range]
theorem wX {lo:Int}{n i:Nat} (h:i < n):(dX lo n)[i]? = some (.int (lo+i)):=by unfold dX; rw [aw8,List.getElem?_range h]; rfl
def gW (te:aC):dL:=fun ρ Q=>te ρ fun x _=>∃ j:Int,x = .int j/\-1000000<=j/\j<=1000000/\Q (dX 0 j.toNat) true
def nG (ta tb:aC):dL:=fun ρ Q=>ta ρ fun x _=>tb ρ fun y _=>∃ i j:Int,x = .int i/\y = .int j/\(-1000000<=i/\i<=1000000/\-1000000<=j/\j<=1000000)/\Q (dX i (j - i).toNat) true
theorem wY {K:PySem.W.Frag}{H0:Hp}{W:Addr->Prop}{H1:Hp} (lo:Int) (n:Nat):jK K H0 W true H1 (kG lo n) (dX lo n):=by
 refine⟨fun W' H' i e hi=>by rw [eY] at hi; exact hi,fun W' H' i v H2 e y hi=>?_,fun W' H' e=>by show n<=(dX lo n).length; rw [eY]; exact aw6 _⟩
 rw [eY] at hi
 obtain ⟨rfl,rfl⟩:=y
 exact⟨a9.refl _,_,wX hi,.int _⟩
theorem Z6 (h:LI X (gW te) σ H R):tZ (i8 (LE X te) iO) σ H R:=by
 obtain ⟨W,ρ,Q,px,q,k⟩:=h
 refine⟨W,ρ,_,px,q,?_⟩
 rintro v H1 x g s r ⟨j,rfl,h1,h2,q⟩
 cases r
 exact⟨j,rfl,by omega,by omega,k _ _ _ _ s (wY 0 j.toNat) q⟩
theorem Z7 {ta tb:aC} (h:LI X (nG ta tb) σ H R):u3 (i8 (LE X ta) (i8 (LE X tb) iO)) σ H R:=by
 obtain ⟨W,ρ,Q,px,q,k⟩:=h
 refine⟨W,ρ,_,px,q,fun v H1 x g s r q=>⟨W,ρ,_,px.mono s,q,?_⟩⟩
 rintro w H2 y g' s2 r2 ⟨i,j,rfl,rfl,h,q⟩
 cases r; cases r2
 exact⟨i,j,rfl,by omega,k _ _ _ _ (s.trans s2) (wY i (j - i).toNat) q⟩
end
abbrev gB:=PV->Bool->aX->(aX->Prop)->Prop
def jM (K:PySem.W.Frag) (own:Nat->Prop) (p:gB) (t:TG):Prop:=∀ (H0:Hp) (W:Addr->Prop) (σ:St) (ρ:aX) (H:Hp) (v:V) (x:PV) (g:Bool) (Q:aX->Prop) (Q':St->Hp->Prop),
 PX K H0 W σ ρ H->aA K (Ms H0 W g) H v x->p x g ρ Q->(∀ σ' ρ',PX K H0 W σ' ρ' H->(∀ i,¬ own i->σ'[i]? = σ[i]?)->σ'.length=σ.length->Q ρ'->Q' σ' H)->t v σ H Q'
def cJ (i:Nat):gB:=fun x g ρ Q=>Q (ρ.set i (some (.sh (g || flat x) x)))
theorem nH {K:PySem.W.Frag}{H0 H:Hp}{W:Addr->Prop}{v:V}{x:PV}{g:Bool} (r:aA K (Ms H0 W g) H v x):aA K (Ms H0 W (g || flat x)) H v x:=by
 cases g with
 | true=>exact r
 | false=>
  show aA K (Ms H0 W (flat x)) H v x
  cases e:flat x with
  | true=>exact r.flat e
  | false=>exact r
theorem nI (K:PySem.W.Frag) (i:Nat):jM K (· = i) (cJ i) (bY i):=by
 intro H0 W σ ρ H v x g Q Q' px r q k
 exact k _ _ (px.setSh (nH r)) (fun j hj=>by rw [ay4 (Ne.symm hj)]) (aC0 ..) q
def iU (i j:Nat):gB:=fun x g ρ Q=>∃ y z,x = .tup [y,z]/\Q ((ρ.set i (some (.sh (g || flat y) y))).set j (some (.sh (g || flat z) z)))
theorem wZ (K:PySem.W.Frag) (i j:Nat):jM K (fun k=>k=i ∨ k=j) (iU i j) (jC K 2 (fD (bY i) (fD (bY j) jB))):=by
 intro H0 W σ ρ H v x g Q Q' px r q k
 obtain ⟨y,z,rfl,q⟩:=q
 obtain ⟨a,us,rfl,h,r⟩:=r.sqT
 obtain ⟨u1,u2,rfl,r1,r2⟩:=r.two
 refine⟨a,_,rfl,aI.of h,rfl,u1,_,rfl,u2,_,rfl,rfl,k _ _ ((px.setSh (nH r1)).setSh (nH r2)) (fun k hk=>?_) (by rw [aC0,aC0]) q⟩
 rw [ay4 (fun e=>hk (.inr e.symm)),ay4 (fun e=>hk (.inl e.symm))]
section
variable {X : Cx} {σ : St} {H : Hp} {D : cH}
def cR (ti:dL) (p:gB) (tb:aO):aO:=fun D ρ=>ti ρ fun xs g=>∃ I:Nat->aX->Prop,I 0 ρ/\(∀ i x ρ',xs[i]? = some x->I i ρ'->p x g ρ' fun ρ2=>tb { D with nx:=I (i+1),ct:=I (i+1),bk:=D.nx } ρ2)/\∀ ρ',I xs.length ρ'->D.nx ρ'
theorem Z8 {ti:dL}{p:gB}{g:TG}{tb:aO}{own:Nat->Prop} (hg:jM X.K own p g) (h:LS X (cR ti p tb) D σ H):u4 (LI X ti) g (LS X tb) D σ H:=by
 obtain ⟨W,ρ,D',px,q,k⟩:=h
 refine⟨W,ρ,_,px,q,?_⟩
 rintro J H1 xs gb s it ⟨I,i0,turn,fin⟩
 refine⟨fun i m σ2 H2=>m=xs.length - i/\i<=xs.length/\∃ W2 ρ2,PX X.K X.H₀ W2 σ2 ρ2 H2/\Ev W H1 W2 H2/\I i ρ2,⟨xs.length,by omega,az7 _,W,ρ,px.mono s,Ev.refl _ _,i0⟩,?_⟩
 rintro i m σ2 H2 ⟨rfl,hi,W2,ρ2,px2,e2,i2⟩
 have e0:Ev W H W2 H2:=(Ev.same s).trans e2
 by_cases hlt:i < xs.length
 ·refine .inr ⟨it.go W2 H2 i e2 hlt,fun σ3 H3=>∃ W3 ρ3,PX X.K X.H₀ W3 σ3 ρ3 H3/\Ev W H1 W3 H3/\I (i+1) ρ3,fun σ3 H3 ⟨W3,ρ3,a,b,c⟩=>⟨xs.length - (i+1),by omega,rfl,hlt,W3,ρ3,a,b,c⟩,fun v H3 y=>?_⟩
  obtain ⟨s3,x,hx,rx⟩:=it.yld W2 H2 i v H3 e2 y hlt
  refine hg X.H₀ W2 σ2 ρ2 H3 v x gb _ _ (px2.mono s3) rx (turn i x ρ2 hx i2) fun σ4 ρ4 px4 _ _ q4=>?_
  have e3:Ev W H1 W2 H3:=e2.trans (Ev.same s3)
  have e3':Ev W H W2 H3:=e0.trans (Ev.same s3)
  exact⟨W2,ρ4,_,px4,q4,fun W' σ' H' ρ' e p q=>⟨W',ρ',p,e3.trans e,q⟩,k.rt,fun W' σ' H' ρ' e p q=>k.nx W' σ' H' ρ' (e3'.trans e) p q,fun W' σ' H' ρ' e p q=>⟨W',ρ',p,e3.trans e,q⟩⟩
 ·have e:i=xs.length:=by omega
  subst e
  exact .inl ⟨it.stop W2 H2 e2,k.nx W2 σ2 H2 ρ2 e0 px2 (fin ρ2 i2)⟩
end
def jN (fr:List (Option Nat)) (ρ:aX):aX:=fr.map fun o=>o.bind fun j=>(ρ[j]?).join.map fun m=>Slot.sh false m.val
def eG (D:Addr):Addr->Prop:=fun a=>a=D
theorem Z9 {K:PySem.W.Frag}{H0:Hp}{W:Addr->Prop}{σ:St}{ρ:aX}{H1 H':Hp}{D:Addr}{acc:List V}{fr:List (Option Nat)} (px:PX K H0 W σ ρ H1) (hD:H1 D=none) (s:a9 H1 H') (ha:H' D=some (.lst acc)) :
  PX K H1 (eG D) (cQ fr σ) (jN fr ρ) H':=by
 have old:∀ {a:Addr}{o:HO},H1 a=some o->a ≠ D:=fun {a o} e z=>by rw [z,hD] at e; cases e
 refine⟨by unfold cQ jN; rw [aw9,aw9],s,fun a z=>by cases z; exact⟨hD,_,ha,rfl⟩,fun i m h=>?_,fun i j x y a h1=>?_⟩
 ·unfold jN at h
  rw [aw8] at h
  cases ef:fr[i]? with
  | none=>rw [ef] at h; cases h
  | some o=>
   rw [ef] at h
   cases o with
   | none=>cases h
   | some j=>
    have h:some ((ρ[j]?).join.map fun m=>Slot.sh false m.val)=some (some m):=h
    cases er:ρ[j]? with
    | none=>rw [er] at h; cases h
    | some o=>
     rw [er] at h
     cases o with
     | none=>cases h
     | some m0=>
      cases h
      obtain ⟨v,ev,r⟩:=px.sl j m0 er
      refine⟨v,?_,?_⟩
      ·unfold cQ
       rw [aw8,ef]
       show some ((σ[j]?).join)=_
       rw [ev]; rfl
      ·have r':aA K (fun _=>True) H1 v m0.val:=(mX (Hs:=H1) r).same (a9.refl _) fun _ _=>trivial
       exact r'.keep ⟨fun a _ _ e=>⟨old e,s _ _ e⟩,fun a _ _ e=>⟨old e,s _ _ e⟩,fun a _ _ e=>⟨old e,s _ _ e⟩,fun _ _ e=>s _ _ e,fun _ _ _ e=>s _ _ e⟩
 ·unfold jN at h1
  rw [aw8] at h1
  cases ef:fr[i]? with
  | none=>rw [ef] at h1; cases h1
  | some o=>
   rw [ef] at h1
   cases o with
   | none=>cases h1
   | some j=>
    have h1:some ((ρ[j]?).join.map fun m=>Slot.sh false m.val)=some (some (Slot.own x)):=h1
    cases er:ρ[j]? with
    | none=>rw [er] at h1; cases h1
    | some o=>
     rw [er] at h1
     cases o with
     | none=>cases h1
     | some m0=>cases h1
section
variable {X : Cx} {σ : St} {H : Hp} {Q' : VK}
abbrev _root_.L2.Cx.frm (X:Cx) (H1:Hp):Cx:={ X with H₀:=H1 }
def iV (ti:dL) (fr:List (Option Nat)) (p:gB) (tc:bM) (te:aC):aC:=fun ρ Q=>ti ρ fun xs g=>xs.length<=16000000/\∃ I:Nat->List PV->Prop,I 0 []/\
 (∀ i x acc,xs[i]? = some x->I i acc->p x false (jN fr ρ) fun ρ2=>tc ρ2 fun b=>if b=true then te ρ2 fun y gy=>Nw gy y/\I (i+1) (acc ++ [y]) else I (i+1) acc)/\∀ acc,I xs.length acc->Q (.lst acc) .fr
theorem r6 {ti:dL}{fr:List (Option Nat)}{p:gB}{g:TG}{tc:bM}{te:aC}{own:Nat->Prop} (hg:jM X.K own p g) (ho:∀ i,own i->fr[i]? = some none) (h:LE X (iV ti fr p tc te) σ H Q') :
  mL (LI X ti) fr (fun _=>g) (fun H1=>LT (X.frm H1) tc) (fun H1=>LE (X.frm H1) te) σ H Q':=by
 obtain ⟨W,ρ,Q,px,q,k⟩:=h
 refine⟨W,ρ,_,px,q,?_⟩
 rintro J H1 xs gb s it ⟨hl,I,i0,turn,fin⟩ D hD
 have px1:=px.mono s
 refine⟨fun i m acc H'=>m=xs.length - i/\i<=xs.length/\a9 H1 H'/\H' D=some (.lst acc)/\∃ ys,Reps X.K (Ms H1 (eG D) true) H' acc ys/\ys.length<=i/\I i ys,⟨xs.length,by omega,az7 _,b4 hD _,aU,[],.nil,aw6 _,i0⟩,?_⟩
 rintro i m acc H' ⟨rfl,hi,sm,ha,ys,ry,hy,iy⟩
 refine⟨ha,?_⟩
 have ev:Ev W H1 (jJ W D) H':=Ev.own sm hD
 by_cases hlt:i < xs.length
 ·refine .inr ⟨it.go _ H' i ev hlt,fun v H2 y=>?_⟩
  obtain ⟨s2,x,hx,rx⟩:=it.yld _ H' i v H2 ev y hlt
  have ha2:=s2 _ _ ha
  have pxb:PX X.K H1 (eG D) (cQ fr σ) (jN fr ρ) H2:=Z9 px1 hD (sm.trans s2) ha2
  have rx':aA X.K (Ms H1 (eG D) false) H2 v x:=rx.same (a9.refl _) fun a z=>by
   cases gb with
   | true=>exact fun e=>z.1 (.inr e)
   | false=>exact fun e=>z (.inr e)
  refine hg H1 (eG D) _ _ H2 v x false _ _ pxb rx' (turn i x ys hx iy) fun σ2 ρ2 px2 hown hlen q2=>⟨⟨hlen.symm,fun j w e=>?_⟩,?_⟩
  ·by_cases oj:own j
   ·have:=ho j oj
    unfold cQ at e
    rw [aw8,this] at e
    cases e
   ·rw [hown j oj]; exact e
  ·refine⟨eG D,ρ2,_,px2,q2,fun b H4 s4 q4=>?_⟩
   have ha4:=s4 _ _ ha2
   have sm4:=(sm.trans s2).trans s4
   cases b with
   | false=>
    refine aR ⟨xs.length - (i+1),by omega,rfl,hlt,sm4,ha4,ys,ry.same (s2.trans s4) fun _ z=>z,by omega,by simpa using q4⟩
   | true=>
    refine b7 ⟨eG D,ρ2,_,px2.mono s4,by simpa using q4,?_⟩
    rintro w H5 y gy s5 ryy ⟨nw,q5⟩
    have ha5:=s5 _ _ ha4
    have lr:=ry.length
    refine⟨ha5,fZ (by omega),xs.length - (i+1),by omega,rfl,hlt,fun b o e=>?_,aU,ys ++ [y],?_,by rw [ax9,az1]; omega,q5⟩
    ·rw [aB (fun z=>by rw [z,hD] at e; cases e)]
     exact s5 _ _ (sm4 _ _ e)
    ·exact ((ry.same ((s2.trans s4).trans s5) fun _ z=>z).append (.cons (Nw.rep (px2.mono s4) nw ryy) .nil)).keep (.upd ha5 rfl fun b m=>⟨m.1,m⟩)
 ·have e:i=xs.length:=by omega
  subst e
  refine .inl ⟨it.stop _ H' ev,k _ H' _ .fr (s.trans sm) (.lst (s.free hD) ha (ry.same (a9.refl _) fun _ z=>s.free z.2)) (fin ys iy)⟩
def iE:bM:=fun _ Q=>Q true
theorem aa0 {Qb:Bool->Hp->Prop} (h:LT X iE σ H Qb):pW σ H Qb:=by
 obtain ⟨W,ρ,Q,px,q,k⟩:=h
 exact k _ _ (a9.refl _) q
end
section
variable {κ : Type} [DecidableEq κ]
def eI (ps:List (κ × PV)) (k:κ):Option PV:=(ps.find? fun p=>decide (p.1=k)).map (·.2)
def cY (ps:List (κ × PV)) (k:κ) (x:PV):List (κ × PV):=if (ps.any fun p=>decide (p.1=k))=true then ps.map (fun p=>if p.1=k then (p.1,x) else p) else ps ++ [(k,x)]
variable {K : PySem.W.Frag} {M : Addr → Prop} {H : Hp}
theorem gX (k:κ):∀ {kvs:List (κ × V)}{ps:List (κ × PV)},kvs.map (·.1)=ps.map (·.1)->Reps K M H (kvs.map (·.2)) (ps.map (·.2))->(eI ps k=none->dF kvs k=none)/\∀ x,eI ps k=some x->∃ v,dF kvs k=some v/\aA K M H v x
 | [],[],_,_=>⟨fun _=>rfl,fun x h=>by cases h⟩
 | [],_ :: _,e,_=>by cases e
 | _ :: _,[],e,_=>by cases e
 | (k1,v) :: kvs,(k2,x) :: ps,e,r=>by
  injection e with e1 e2
  have e1:k1=k2:=e1
  subst e1
  cases r with
  | cons r t=>
   obtain ⟨h1,h2⟩:=gX k e2 t
   unfold eI dF at h1 h2 ⊢
   by_cases e:k1=k
   ·simp only [aF5,e,decide_true,Option.map_some]
    exact⟨fun z=>(by cases z),fun y z=>(by cases z; exact⟨v,rfl,r⟩)⟩
   ·simp only [aF5,e,decide_false]
    exact⟨h1,h2⟩
theorem aa1 (k:κ) {kvs:List (κ × V)}{ps:List (κ × PV)} (e:kvs.map (·.1)=ps.map (·.1)):(kvs.any fun p=>decide (p.1=k))=ps.any fun p=>decide (p.1=k):=by
 have h1:(kvs.any fun p=>decide (p.1=k))=(kvs.map (·.1)).any fun z=>decide (z=k):=by rw [List.any_map]; rfl
 have h2:(ps.any fun p=>decide (p.1=k))=(ps.map (·.1)).any fun z=>decide (z=k):=by rw [List.any_map]; rfl
 rw [h1,h2,e]
theorem x0 (k:κ) {w:V}{y:PV} (q:aA K M H w y):∀ {kvs:List (κ × V)}{ps:List (κ × PV)},kvs.map (·.1)=ps.map (·.1)->Reps K M H (kvs.map (·.2)) (ps.map (·.2))->
  (kvs.map fun kv=>if kv.1=k then (kv.1,w) else kv).map (·.1)=(ps.map fun kv=>if kv.1=k then (kv.1,y) else kv).map (·.1)/\Reps K M H ((kvs.map fun kv=>if kv.1=k then (kv.1,w) else kv).map (·.2)) ((ps.map fun kv=>if kv.1=k then (kv.1,y) else kv).map (·.2))
 | [],[],_,_=>⟨rfl,.nil⟩
 | [],_ :: _,e,_=>by cases e
 | _ :: _,[],e,_=>by cases e
 | (k1,v) :: kvs,(k2,x) :: ps,e,r=>by
  injection e with e1 e2
  have e1:k1=k2:=e1
  subst e1
  cases r with
  | cons r t=>
   obtain ⟨h1,h2⟩:=x0 k q e2 t
   by_cases e:k1=k
   ·simp only [aA0,e,if_true]
    exact⟨by rw [h1],.cons q h2⟩
   ·simp only [aA0,e,aC4]
    exact⟨by rw [h1],.cons r h2⟩
theorem x3 (k:κ) {w:V}{y:PV} (q:aA K M H w y) {kvs:List (κ × V)}{ps:List (κ × PV)} (e:kvs.map (·.1)=ps.map (·.1)) (r:Reps K M H (kvs.map (·.2)) (ps.map (·.2))) :
  (dG kvs k w).map (·.1)=(cY ps k y).map (·.1)/\Reps K M H ((dG kvs k w).map (·.2)) ((cY ps k y).map (·.2)):=by
 unfold dG cY
 rw [aa1 k e]
 split
 ·exact x0 k q e r
 ·rw [aC1,aC1,aC1,aC1,e]
  exact⟨rfl,r.append (.cons q .nil)⟩
end
def kP:aD->PV
 | .inl i=>.int i
 | .inr x=>.str x
theorem r9 {K:PySem.W.Frag}{M:Addr->Prop}{H:Hp}{v:V}{k:aD} (r:aA K M H v (kP k)):v=kV k:=by
 cases k with
 | inl i=>cases r; rfl
 | inr x=>cases r; rfl
theorem rA {K:PySem.W.Frag}{M:Addr->Prop}{H:Hp}:∀ {ks:List aD}{us:List V},Reps K M H us (ks.map kP)->us=ks.map kV
 | [],_,.nil=>rfl
 | k :: r,_,.cons q t=>by rw [r9 q,rA t]; rfl
def nJ:PV->PV
 | .fK ps=>.dK ps
 | .fT ps=>.dT ps
 | x=>x
def rB (x y:PV) (o:Option PV):Prop:=(∃ ps k,nJ x = .dK ps/\y=kP k/\o=eI ps k) ∨ (∃ ps k,nJ x = .dT ps/\y = .tup (k.map kP)/\o=eI ps k)
theorem x4 {K:PySem.W.Frag}{M M2:Addr->Prop}{H:Hp}{v w:V}{x y:PV}{o:Option PV} (h:rB x y o) (rx:aA K M H v x) (ry:aA K M2 H w y):∃ a o',v = .ref a/\eS H a w o'/\(o=none->o'=none)/\∀ z,o=some z->∃ u,o'=some u/\aA K M H u z:=by
 rcases h with ⟨ps,k,ex,rfl,rfl⟩ | ⟨ps,k,ex,rfl,rfl⟩
 ·obtain rfl:=r9 ry
  cases rx with
  | dK m h e r=>cases ex; exact⟨_,_,rfl,eS.k h,(gX k e r).1,(gX k e r).2⟩
  | fK h e r=>cases ex; exact⟨_,_,rfl,.inl ⟨_,k,.inr ⟨_,h⟩,rfl,rfl⟩,(gX k e r).1,(gX k e r).2⟩
  | _=>cases ex
 ·obtain ⟨b,us,rfl,hb,rb⟩:=ry.sqT
  obtain rfl:=rA rb
  cases rx with
  | dT m h e r=>cases ex; exact⟨_,_,rfl,eS.t h hb,(gX k e r).1,(gX k e r).2⟩
  | fT h e r=>cases ex; exact⟨_,_,rfl,.inr ⟨_,k,b,.inr ⟨_,h⟩,rfl,hb,rfl⟩,(gX k e r).1,(gX k e r).2⟩
  | _=>cases ex
section
variable {X : Cx} {σ : St} {H : Hp} {D : cH} {tk td te : aC} {Q' : VK}
def lC (neg:Bool) (tk td:aC):aC:=fun ρ Q=>tk ρ fun y _=>td ρ fun x _=>∃ o,rB x y o/\Q (.bl (if neg=true then !o.isSome else o.isSome)) .fr
theorem aa2 {α β:Type}{o:Option α}{o':Option β}{P:β->α->Prop} (h1:o=none->o'=none) (h2:∀ z,o=some z->∃ u,o'=some u/\P u z):o'.isSome=o.isSome:=by
 cases o with
 | none=>rw [h1 rfl]; rfl
 | some z=>obtain ⟨u,e,_⟩:=h2 z rfl; rw [e]; rfl
theorem aa3 (h:LE X (lC false tk td) σ H Q'):vD (LE X tk) (LE X td) σ H Q':=by
 obtain ⟨W,ρ,Q,px,q,k⟩:=h
 refine⟨W,ρ,_,px,q,fun w H1 y g s r q=>⟨W,ρ,_,px.mono s,q,?_⟩⟩
 rintro v H2 x g' s2 r2 ⟨o,ak,q⟩
 obtain ⟨a,o',rfl,dg,h1,h2⟩:=x4 ak r2 (r.same s2 fun _ z=>z)
 refine⟨a,o',rfl,dg,?_⟩
 rw [aa2 h1 h2]
 exact k _ _ _ .fr (s.trans s2) (.bl _) q
def nK (td tk:aC):aC:=fun ρ Q=>td ρ fun x g=>tk ρ fun y _=>∃ z,rB x y (some z)/\Q z g
theorem aa4 (h:LE X (nK td tk) σ H Q'):vC (LE X td) (LE X tk) σ H Q':=by
 obtain ⟨W,ρ,Q,px,q,k⟩:=h
 refine⟨W,ρ,_,px,q,fun v H1 x g s r q=>⟨W,ρ,_,px.mono s,q,?_⟩⟩
 rintro w H2 y g' s2 r2 ⟨z,ak,q⟩
 obtain ⟨a,o',rfl,dg,h1,h2⟩:=x4 ak (r.same s2 fun _ z=>z) r2
 obtain ⟨u,rfl,ru⟩:=h2 z rfl
 exact⟨a,u,rfl,dg,k _ _ _ g (s.trans s2) ru q⟩
theorem PX.updD {K:PySem.W.Frag}{H0:Hp}{W:Addr->Prop}{σ:St}{ρ:aX}{H:Hp}{i:Nat}{a:Addr}{x:PV}{kvs:List (aD × V)}{ps:List (aD × PV)} (p:PX K H0 W σ ρ H) (hi:ρ[i]? = some (some (.own x))) (ha:σ[i]? = some (some (.ref a))) (wa:W a)
  (r:kvs.map (·.1)=ps.map (·.1)/\Reps K (Ms H0 W true) (upd H a (.dK kvs)) (kvs.map (·.2)) (ps.map (·.2))):PX K H0 W σ (ρ.set i (some (.own (.dK ps)))) (upd H a (.dK kvs)):=p.updOwn hi ha wa rfl (y:=.dK ps) ⟨kvs,aU,r⟩
theorem PX.updT {K:PySem.W.Frag}{H0:Hp}{W:Addr->Prop}{σ:St}{ρ:aX}{H:Hp}{i:Nat}{a:Addr}{x:PV}{kvs:List (List aD × V)}{ps:List (List aD × PV)} (p:PX K H0 W σ ρ H) (hi:ρ[i]? = some (some (.own x))) (ha:σ[i]? = some (some (.ref a))) (wa:W a)
  (r:kvs.map (·.1)=ps.map (·.1)/\Reps K (Ms H0 W true) (upd H a (.dT kvs)) (kvs.map (·.2)) (ps.map (·.2))):PX K H0 W σ (ρ.set i (some (.own (.dT ps)))) (upd H a (.dT kvs)):=p.updOwn hi ha wa rfl (y:=.dT ps) ⟨kvs,aU,r⟩
theorem nL {κ α β:Type}{l:List (κ × α)}{m:List (κ × β)} (e:l.map (·.1)=m.map (·.1)):l.length=m.length:=by
 have:=congrArg List.length e
 rw [aw9,aw9] at this
 exact this
def rC (i:Nat) (tk te:aC):aO:=fun D ρ=>te ρ fun z g=>∃ ps,ρ[i]? = some (some (.own (.dK ps)))/\tk ρ fun y _=>∃ k,y=kP k/\Nw g z/\ps.length < 16000000/\D.nx (ρ.set i (some (.own (.dK (cY ps k z)))))
def rD (i:Nat) (tk te:aC):aO:=fun D ρ=>te ρ fun z g=>∃ ps,ρ[i]? = some (some (.own (.dT ps)))/\tk ρ fun y _=>∃ k,y = .tup (k.map kP)/\Nw g z/\ps.length < 16000000/\D.nx (ρ.set i (some (.own (.dT (cY ps k z)))))
theorem aa5 {i:Nat} (h:LS X (rC i tk te) D σ H):pQ (i6 i) (LE X tk) (LE X te) D σ H:=by
 obtain ⟨W,ρ,D',px,q,k⟩:=h
 refine⟨W,ρ,_,px,q,?_⟩
 rintro w H1 z g s rz ⟨ps,hi,q⟩
 obtain ⟨v,ev,a,rfl,wa,kvs,ea,e1,r⟩:=(px.mono s).sl i _ hi
 refine⟨_,ev,W,ρ,_,px.mono s,q,?_⟩
 rintro kv H2 y g' s2 ry ⟨kk,rfl,nw,hl,q⟩
 obtain rfl:=r9 ry
 have ea2:=s2 _ _ ea
 refine⟨a,_,rfl,iA.k ea2 (fZ (by rw [nL e1]; omega)),?_⟩
 refine k.nx W σ _ _ ((Ev.same (s.trans s2)).trans (Ev.upd wa)) ((px.mono (s.trans s2)).updD hi ev wa ?_) q
 obtain ⟨h1,h2⟩:=x3 kk ((Nw.rep px nw rz).same s2 fun _ z=>z) e1 (r.same s2 fun _ z=>z)
 exact⟨h1,h2.keep (.upd ea2 rfl fun b m=>⟨nD wa m,m⟩)⟩
theorem aa6 {i:Nat} (h:LS X (rD i tk te) D σ H):pQ (i6 i) (LE X tk) (LE X te) D σ H:=by
 obtain ⟨W,ρ,D',px,q,k⟩:=h
 refine⟨W,ρ,_,px,q,?_⟩
 rintro w H1 z g s rz ⟨ps,hi,q⟩
 obtain ⟨v,ev,a,rfl,wa,kvs,ea,e1,r⟩:=(px.mono s).sl i _ hi
 refine⟨_,ev,W,ρ,_,px.mono s,q,?_⟩
 rintro kv H2 y g' s2 ry ⟨kk,rfl,nw,hl,q⟩
 obtain ⟨b,us,rfl,hb,rb⟩:=ry.sqT
 obtain rfl:=rA rb
 have ea2:=s2 _ _ ea
 refine⟨a,_,rfl,iA.t ea2 hb (fZ (by rw [nL e1]; omega)),?_⟩
 refine k.nx W σ _ _ ((Ev.same (s.trans s2)).trans (Ev.upd wa)) ((px.mono (s.trans s2)).updT hi ev wa ?_) q
 obtain ⟨h1,h2⟩:=x3 kk ((Nw.rep px nw rz).same s2 fun _ z=>z) e1 (r.same s2 fun _ z=>z)
 exact⟨h1,h2.keep (.upd ea2 rfl fun b m=>⟨nD wa m,m⟩)⟩
theorem aa7 (h:LE X (qC (.dK [])) σ H Q'):vF σ H Q':=by
 obtain ⟨W,ρ,Q,px,q,k⟩:=h
 exact fun p hp=>k _ _ _ .fr (b4 hp _) (.dK hp aU rfl .nil) q
theorem aa8 (h:LE X (qC (.dT [])) σ H Q'):vG σ H Q':=by
 obtain ⟨W,ρ,Q,px,q,k⟩:=h
 exact fun p hp=>k _ _ _ .fr (b4 hp _) (.dT hp aU rfl .nil) q
end
def bV:Nat->PV->PV->Bool
 | _,.non,.non=>true
 | _,.bl a,.bl b=>a == b
 | _,.int a,.int b=>a == b
 | _,.str a,.str b=>a == b
 | n+1,.tup xs,.tup ys=>(xs.zip ys).all (fun p=>bV n p.1 p.2) && xs.length == ys.length
 | n+1,.lst xs,.lst ys=>(xs.zip ys).all (fun p=>bV n p.1 p.2) && xs.length == ys.length
 | n+1,.kt xs,.kt ys=>(xs.zip ys).all (fun p=>bV n p.1 p.2) && xs.length == ys.length
 | _,_,_=>false
def dD:Nat->PV->PV->Bool
 | _,.non,.non=>true
 | _,.bl _,.bl _=>true
 | _,.int _,.int _=>true
 | _,.str _,.str _=>true
 | _,.non,.int _=>true
 | _,.int _,.non=>true
 | n+1,.tup xs,.tup ys=>(xs.zip ys).all (fun p=>dD n p.1 p.2)
 | n+1,.lst xs,.lst ys=>(xs.zip ys).all (fun p=>dD n p.1 p.2)
 | n+1,.kt xs,.kt ys=>(xs.zip ys).all (fun p=>dD n p.1 p.2)
 | _+1,.non,.tup _=>true
 | _+1,.tup _,.non=>true
 | _,_,_=>false
theorem aa9 (n:Nat) (a b:Int):bV n (.int a) (.int b)=(a == b):=by cases n <;> rfl
theorem x5 (n:Nat):∀ (a b:List Int),((((intz a).zip (intz b)).all fun p=>bV n p.1 p.2) && (intz a).length == (intz b).length)=decide (a=b)
 | [],[]=>rfl
 | [],_ :: _=>by simp
 | _ :: _,[]=>by simp
 | x :: a,y :: b=>by
  have ih:=x5 n a b
  simp only [aA0,List.zip_cons_cons,aF8,aC9,aa9] at ih ⊢
  by_cases e:x=y
  ·subst e
   have:((intz a).length+1 == (intz b).length+1)=((intz a).length == (intz b).length):=by simp
   rw [this,aC3,Bool.true_and,ih]
   simp
  ·have:(x == y)=false:=beq_eq_false_iff_ne.mpr e
   rw [this,Bool.false_and,Bool.false_and]
   simp [e]
theorem ab0 (n:Nat) (a b:List Int):bV (n+1) (.lst (intz a)) (.lst (intz b))=decide (a=b):=x5 n a b
theorem x6 (n:Nat):∀ (a b:List Int),(((intz a).zip (intz b)).all fun p=>dD n p.1 p.2)=true
 | [],_=>by simp
 | _ :: _,[]=>by simp
 | x :: a,y :: b=>by
  simp only [aA0,List.zip_cons_cons,aF8,x6 n a b,Bool.and_true]
  cases n <;> rfl
theorem ab1 (n:Nat) (a b:List Int):dD (n+1) (.lst (intz a)) (.lst (intz b))=true:=x6 n a b
def x8 (ta:aC):aC:=fun ρ Q=>ta ρ fun x _=>∃ i,x = .int i/\Q (.int (-i)) .fr
def iF (neg:Bool):PV->Tg->PV->Tg->PK->Prop:=fun x _ y _ Q=>∃ i ns,x = .int i/\gU y=some (intz ns)/\Q (.bl (if neg=true then !decide (i ∈ ns) else decide (i ∈ ns))) .fr
def x9:PV->Option String
 | .non=>some "NoneType"
 | .bl _=>some "bool"
 | .int _=>some "int"
 | .str _=>some "str"
 | .tup _=>some "tuple"
 | .kt _=>some "tuple"
 | .lst _=>some "list"
 | _=>none
def gY (K:PySem.W.Frag) (n:String) (te:aC):aC:=fun ρ Q=>te ρ fun x _=>∃ T b,x9 x=some T/\PySem.W.kitOne K (.type T) (.type n)=some b/\Q (.bl b) .fr
def rE (n:Nat) (neg:Bool):PV->Tg->PV->Tg->PK->Prop:=fun x _ y _ Q=>((∃ xs ys,x = .tup xs/\y = .tup ys) ∨ (∃ xs ys,x = .lst xs/\y = .lst ys))/\dD (n+1) x y=true/\Q (.bl (if neg=true then !bV (n+1) x y else bV (n+1) x y)) .fr
abbrev jO:=aX->(Option Int->Prop)->Prop
def fM (xs:List PV) (lo hi:Option Int):List PV:=(xs.drop (HT.aM xs.length 0 lo)).take (HT.aM xs.length xs.length hi - HT.aM xs.length 0 lo)
def ab2:PV->List PV->PV
 | .tup _,ys=>.tup ys
 | .kt _,ys=>.tup ys
 | _,ys=>.lst ys
def nM:jO:=fun _ Q=>Q none
def nN (te:aC):jO:=fun ρ Q=>te ρ fun x _=>∃ i,x = .int i/\Q (some i)
def nO (te:aC) (tl th:jO):aC:=fun ρ Q=>te ρ fun x _=>tl ρ fun lo=>th ρ fun hi=>∃ xs,seqT x=some xs/\flats xs=true/\Q (ab2 x (fM xs lo hi)) .fr
def cS (N:List Str) (xs:List PV):aX:=xs.map (fun x=>some (.sh (flat x) x)) ++ List.replicate (N.length - xs.length) none
abbrev fN (ta tb:aC):aC:=q2 (eF fun i j=>.int (i+j)) ta tb
abbrev rF (ta tb:aC):aC:=q2 (eF fun i j=>.int (i - j)) ta tb
abbrev jP (ta tb:aC):aC:=q2 (RI kJ fun i j=>.int (i * j)) ta tb
abbrev cM (ta tb:aC):aC:=q2 (RI oY fun i j=>.int (i / j)) ta tb
abbrev bO (ta tb:aC):aC:=q2 (RI (fun _ j=>0 < j) fun i j=>.int (i % j)) ta tb
abbrev ab3 (ta tb:aC):aC:=q2 (RI oZ fun i j=>.int (i ^ j.toNat)) ta tb
abbrev nP (ta tb:aC):aC:=q2 (eF fun i j=>.bl (decide (i < j))) ta tb
abbrev rG (ta tb:aC):aC:=q2 (eF fun i j=>.bl (decide (j < i))) ta tb
abbrev qGe (ta tb:aC):aC:=q2 (eF fun i j=>.bl (decide (j<=i))) ta tb
abbrev iG (ta tb:aC):aC:=q2 (iS false) ta tb
abbrev lD (ta tb:aC):aC:=q2 (iS true) ta tb
abbrev bQ (ta tb:aC):aC:=q2 qX ta tb
def gC:List PV->(PV->Prop)->Prop:=fun xs Q=>wT xs Q/\∀ ns,xs ≠ [.scr ns]
def QE (X:Cx) (e:Expr) (t:aC):Prop:=PE X e (LE X t)
def QT (X:Cx) (e:Expr) (t:bM):Prop:=PT X e (LT X t)
def QW (X:Cx) (e:Expr) (t:bM):Prop:=PW X e (LT X t)
def QA (X:Cx) (es:List Expr) (t:c9):Prop:=PA X es (LA X t)
def QS (X:Cx) (st:Stmt) (t:aO):Prop:=PS X st (LS X t)
def dM (X:Cx) (st:List Stmt) (t:aO):Prop:=cO X st (LS X t)
def QI (X:Cx) (tg iter:Expr) (t:dL):Prop:=PI X tg iter (LI X t)
section
variable {X : Cx}
theorem bG {e:Expr}{t t':TE} (h:PE X e t) (m:∀ σ H Q,t' σ H Q->t σ H Q):PE X e t':=fun pins s σ H Q I q=>h pins s σ H Q I (m σ H Q q)
theorem nQ {e:Expr}{t t':TT} (h:PT X e t) (m:∀ σ H Q,t' σ H Q->t σ H Q):PT X e t':=fun pins s σ H Q I q=>h pins s σ H Q I (m σ H Q q)
theorem xA {e:Expr}{t t':TT} (h:PW X e t) (m:∀ σ H Q,t' σ H Q->t σ H Q):PW X e t':=fun wh pins s σ H Q I q=>h wh pins s σ H Q I (m σ H Q q)
theorem xB {e:List Expr}{t t':TA} (h:PA X e t) (m:∀ σ H Q,t' σ H Q->t σ H Q):PA X e t':=fun pos pins s σ H Q I q=>h pos pins s σ H Q I (m σ H Q q)
theorem eJ {e:Stmt}{t t':TS} (h:PS X e t) (m:∀ D σ H,t' D σ H->t D σ H):PS X e t':=fun pins s σ H D I q=>h pins s σ H D I (m D σ H q)
theorem rH {e:List Stmt}{t t':TS} (h:cO X e t) (m:∀ D σ H,t' D σ H->t D σ H):cO X e t':=fun pins s σ H D I q=>h pins s σ H D I (m D σ H q)
theorem nR {tg e:Expr}{t t':TI} (h:PI X tg e t) (m:∀ σ H R,t' σ H R->t σ H R):PI X tg e t':=fun pins s σ H R I q=>h pins s σ H R I (m σ H R q)
variable {a b c e o : Expr} {es bT : List Expr} {ta tb te to tk : aC} {tr : c9} {tA tB' tc : bM} {pos p2 px : Pos} {st : Stmt} {sts : List Stmt} {t u : aO}
theorem qv (i:Nat) {x:Str}{pos:Pos} (hN:X.N[i]? = some x:=by rfl) (hv:i5 X.env.scope x:=by first | exact Or.inl rfl | exact Or.inr (Or.inl rfl) | exact Or.inr (Or.inr rfl)) (hd:(x == ("__debug__" : Str))=false:=by decide)
  (hcd:(x == ("__classdict__" : Str))=false:=by decide):QE X (.Name x pos) (a6 i):=bG (kA hN hv hd hcd) fun _ _ _=>W5
theorem aG {i j}:QE X (.Constant (.int i) j pos) (qC (.int i)):=bG kB fun _ _ _=>mY fun _=>.int i
theorem fO {i j}:QE X (.Constant (.bool i) j pos) (qC (.bl i)):=bG E8 fun _ _ _=>mY fun _=>.bl i
theorem ab4 {j}:QE X (.Constant .none j pos) (qC .non):=bG E9 fun _ _ _=>mY fun _=>.non
theorem ab5 {i j}:QE X (.Constant (.str i) j pos) (qC (.str i)):=bG F0 fun _ _ _=>mY fun _=>.str i
theorem iW {op:Operator}{R:PV->Tg->PV->Tg->PK->Prop}{r:R2} (ho:bU X (binaryOp op) r) (cv:eD X R r) (ha:QE X a ta) (hb:QE X b tb):QE X (.BinOp a op b pos) (q2 R ta tb):=bG (J6 ho ha hb) fun _ _ _=>mZ cv
theorem gZ (ha:QE X a ta) (hb:QE X b tb):QE X (.BinOp a .Add b pos) (q2 (eF fun i j=>.int (i+j)) ta tb):=iW J8 wL ha hb
theorem rJ (ha:QE X a ta) (hb:QE X b tb):QE X (.BinOp a .Sub b pos) (q2 (eF fun i j=>.int (i - j)) ta tb):=iW K0 wL ha hb
theorem jQ (ha:QE X a ta) (hb:QE X b tb):QE X (.BinOp a .Mult b pos) (q2 (RI kJ fun i j=>.int (i * j)) ta tb):=iW K1 nA ha hb
theorem cZ (ha:QE X a ta) (hb:QE X b tb):QE X (.BinOp a .FloorDiv b pos) (q2 (RI oY fun i j=>.int (i / j)) ta tb):=iW K2 nA ha hb
theorem bP (ha:QE X a ta) (hb:QE X b tb):QE X (.BinOp a .Mod b pos) (q2 (RI (fun _ j=>0 < j) fun i j=>.int (i % j)) ta tb):=iW K3 nA ha hb
theorem ab6 (ha:QE X a ta) (hb:QE X b tb):QE X (.BinOp a .Pow b pos) (q2 (RI oZ fun i j=>.int (i ^ j.toNat)) ta tb):=iW K4 nA ha hb
theorem rK {op:CmpOp}{R:PV->Tg->PV->Tg->PK->Prop}{r:R2} (ho:bU X (compareOp op) r) (cv:eD X R r) (ha:QE X a ta) (hb:QE X b tb) (hm:behindInMarks op b=false):QE X (.Compare a [op] [b] pos) (q2 R ta tb):=bG (p4 ho ha hb hm) fun _ _ _=>mZ cv
theorem iX {op:CmpOp}{R:PV->Tg->PV->Tg->PK->Prop}{r:R2} (ho:bU X (compareOp op) r) (cv:eD X R r) (ha:QE X a ta) (hb:QE X b tb) (hm:behindInMarks op b=false):QT X (.Compare a [op] [b] pos) (aV (q2 R ta tb)):=nQ (L5 ho ha hb hm) fun _ _ _ h=>mZ cv (qQ h)
theorem ab7 (ha:QE X a ta) (hb:QE X b tb):QE X (.Compare a [.Lt] [b] pos) (q2 (eF fun i j=>.bl (decide (i < j))) ta tb):=rK lZ nB ha hb (fX _)
theorem ab8 (ha:QE X a ta) (hb:QE X b tb):QE X (.Compare a [.GtE] [b] pos) (q2 (eF fun i j=>.bl (decide (j<=i))) ta tb):=rK K9 nB ha hb (fX _)
theorem ab9 (ha:QE X a ta) (hb:QE X b tb):QE X (.Compare a [.Eq] [b] pos) (q2 (iS false) ta tb):=rK uE wO ha hb (fX _)
theorem rL (ha:QE X a ta) (hb:QE X b tb):QT X (.Compare a [.Lt] [b] pos) (aV (q2 (eF fun i j=>.bl (decide (i < j))) ta tb)):=iX lZ nB ha hb (fX _)
theorem rM (ha:QE X a ta) (hb:QE X b tb):QT X (.Compare a [.Gt] [b] pos) (aV (q2 (eF fun i j=>.bl (decide (j < i))) ta tb)):=iX K8 nB ha hb (fX _)
theorem jR (ha:QE X a ta) (hb:QE X b tb):QT X (.Compare a [.Eq] [b] pos) (aV (q2 (iS false) ta tb)):=iX uE wO ha hb (fX _)
theorem lE (ha:QE X a ta) (hb:QE X b tb):QT X (.Compare a [.NotEq] [b] pos) (aV (q2 (iS true) ta tb)):=iX K7 W6 ha hb (fX _)
theorem rN (hu:X.A.units+1 < cLine) (hk:QE X a tk) (hd:QE X b te) (hm:behindInMarks .In b=false:=by rfl):QT X (.Compare a [.In] [b] pos) (aV (lC false tk te)):=nQ (F4 (Q6 hu hk hd) hm) fun _ _ _ h=>aa3 (qQ h)
theorem eZ (h:QE X e te) (he:∀ whole,isTrue e X.env whole=(do let v <- whole; standAt e.pos; holding [v] (truthy v)):=by intro _; rfl):QT X e (aV te):=nQ (F5 h he) fun _ _ _ h=>qQ h
theorem jS (ha:QT X a tA):QW X (.BoolOp .And [a] pos) tA:=F6 ha
theorem iH (ha:QT X a tA):QW X (.BoolOp .Or [a] pos) tA:=F7 ha
theorem jT (ha:QT X a tA) (hb:QW X (.BoolOp .And (b :: bT) pos) tB'):QW X (.BoolOp .And (a :: b :: bT) pos) (gT tA tB'):=xA (F8 ha hb) fun _ _ _=>W7
theorem hG (ha:QT X a tA) (hb:QW X (.BoolOp .Or (b :: bT) pos) tB'):QW X (.BoolOp .Or (a :: b :: bT) pos) (fJ tA tB'):=xA (F9 ha hb) fun _ _ _=>W8
theorem dY (h:QW X e tA):QT X e tA:=PW.pt h
theorem fA (ha:QT X a tA):QT X (.UnaryOp .Not a pos) (dW tA):=nQ (G0 ha) fun _ _ _=>W9
theorem nS {op} (h:QE X a ta):QE X (.BoolOp op [a] pos) ta:=G1 h
theorem rO (ha:QE X a ta) (hb:QE X (.BoolOp .And (b :: bT) pos) tb):QE X (.BoolOp .And (a :: b :: bT) pos) (l0 ta tb):=bG (G2 ha hb) fun _ _ _=>X0
theorem ac0 (ha:QE X a ta) (hb:QE X (.BoolOp .Or (b :: bT) pos) tb):QE X (.BoolOp .Or (a :: b :: bT) pos) (qR ta tb):=bG (G3 ha hb) fun _ _ _=>X1
theorem ac1 (ha:QE X a ta):QE X (.UnaryOp .Not a pos) (qS ta):=bG (G4 ha) fun _ _ _=>X2
theorem aF:QA X [] aE:=xB cV fun _ _ _=>X3
theorem a8 (ha:QE X e te) (hr:QA X es tr) (hs:starEach (e :: es) X.env=(false,eval e X.env) :: starEach es X.env:=by rfl):QA X (e :: es) (a7 te tr):=xB (cD ha hr hs) fun _ _ _=>X4
theorem eL {x1} (h:QA X es tr):QE X (.Tuple es x1 pos) (dI tr):=bG (uG h) fun _ _ _=>X6
theorem ac2 {x1} (h:QA X es tr):QE X (.Tuple es x1 pos) (qT tr):=bG (uG h) fun _ _ _=>X5
theorem eM (h:QA X es tr):QE X (.List es pos) (dJ tr):=bG (uH h) fun _ _ _=>X7
theorem bR (ha:QE X a ta) (hb:QE X b tb) (hs:uU b:=by exact fun _ _=>rfl):QE X (.Subscript a b pos) (q2 qX ta tb):=bG (kQ N9 ha hb hs) fun _ _ _=>mZ Y7
theorem xC (hu:X.A.units+1 < cLine) (ha:QE X a ta) (hb:QE X b tb) (hs:pP b:=by exact fun _ _=>rfl):QE X (.Subscript a b pos) (nK ta tb):=bG (Q5 hu ha hb hs) fun _ _ _=>aa4
theorem ac3:QE X (.Dict [] [] pos) (qC (.dK [])):=bG Q9 fun _ _ _=>aa7
theorem ac4:QE X (.Dict [] [] pos) (qC (.dT [])):=bG R3 fun _ _ _=>aa8
theorem lF {x:Str}{id:String}{R:List PV->(PV->Prop)->Prop}{r:List V->Hp->VK->Prop} (hc:cC X (.builtin id) r) (cv:fL X R r) (hg:Gl X x) (hm:X.mg x=none) (hv:bootBuiltins x=some (.builtin id)) (ha:QA X (e :: es) tr) (hn:x ≠ "__name__":=by decide) (hdb:(x == ("__debug__" : Str))=false:=by decide)
  (he:starEach (e :: es) X.env=(false,eval e X.env) :: starEach es X.env:=by rfl) (hpl:(backTo pos (starEach es X.env)).any (·.1)=false:=by rfl):QE X (.Call (.Name x p2) (e :: es) [] pos) (aK R tr):=bG (kM hc hg hm hv ha hn hdb he hpl) fun _ _ _=>wP cv
theorem rP {x:Str}{T:String}{R:List PV->(PV->Prop)->Prop}{r:List V->Hp->VK->Prop} (hc:cC X (.type T) r) (cv:fL X R r) (hg:Gl X x) (hm:X.mg x=none) (hv:bootBuiltins x=some (.type T)) (ha:QA X (e :: es) tr) (hn:x ≠ "__name__":=by decide) (hdb:(x == ("__debug__" : Str))=false:=by decide)
  (he:starEach (e :: es) X.env=(false,eval e X.env) :: starEach es X.env:=by rfl) (hpl:(backTo pos (starEach es X.env)).any (·.1)=false:=by rfl):QE X (.Call (.Name x p2) (e :: es) [] pos) (aK R tr):=bG (uO hc hg hm hv ha hn hdb he hpl) fun _ _ _=>wP cv
theorem cK:dM X [] c7:=rH G6 fun _ _ _=>X8
theorem aQ (h1:QS X st t) (h2:dM X sts u):dM X (st :: sts) (aP t u):=rH (lT h1 h2) fun _ _ _=>X9
theorem aS (h1:QS X st t):dM X [st] t:=kD h1
theorem cA {i:Nat}{x:Str} (hN:X.N.Nodup) (he:QE X e te) (hi:X.N[i]? = some x:=by rfl) (hx:gI X.env.scope x:=by first | exact Or.inl rfl | exact Or.inr rfl) (hs:swapsWith e (some (.Name x p2)) pos.line X.env=pure false:=by rfl) (hf:X.fn x=true ∨ X.env.scope.names.lookup x=some .local:=by first | exact .inl rfl | exact .inr rfl) :
  QS X (.Assign [.Name x p2] e pos) (bB i te):=eJ (tU hN hi hx he hs hf) fun _ _ _=>qW
theorem gD {i:Nat}{x:Str} (hN:X.N.Nodup) (he:QE X e te) (hi:X.N[i]? = some x:=by rfl) (hx:gI X.env.scope x:=by first | exact Or.inl rfl | exact Or.inr rfl) (hs:swapsWith e (some (.Name x p2)) pos.line X.env=pure false:=by rfl) (hf:X.fn x=true ∨ X.env.scope.names.lookup x=some .local:=by first | exact .inl rfl | exact .inr rfl) :
  QS X (.Assign [.Name x p2] e pos) (eW i te):=eJ (tU hN hi hx he hs hf) fun _ _ _=>Y2
theorem xD (i:Nat) (h:QS X st t):QS X st (nE i t):=eJ h fun _ _ _=>Y3
theorem bK (he:QE X e te):QS X (.Return (some e) pos) (bF te):=eJ (lU he) fun _ _ _=>Y4
theorem cL {sa sb:List Stmt} (hc:QT X c tc) (ha:dM X sa t) (hb:dM X sb u):QS X (.If c sa sb pos) (c8 tc t u):=eJ (G7 hc ha hb) fun _ _ _=>Y5
theorem iI (i:Nat) {x:Str}{apos cpos xpos:Pos} (he:QE X e te) (hN:X.N[i]? = some x:=by rfl) (hv:i5 X.env.scope x:=by first | exact Or.inl rfl | exact Or.inr (Or.inl rfl) | exact Or.inr (Or.inr rfl)) (hd:(x == ("__debug__" : Str))=false:=by decide) (hcd:(x == ("__classdict__" : Str))=false:=by decide)
  (hbase:attributeBase (.Name x xpos) "append" X.env (eval (.Name x xpos) X.env)=eval (.Name x xpos) X.env:=by rfl)
  (hfew:((backTo cpos (starEach [e] X.env)).all (fun x=>!x.1) && (backToKw cpos (keywordEach [] X.env)).all (fun x=>x.1.isSome) && decide (([e]:List Expr).length+([]:List Keyword).length+(if ([]:List Keyword).isEmpty then 0 else 1) < 30))=true:=by rfl)
  (hline:(apos.endLine == cpos.line)=true:=by rfl) (hs:starEach [e] X.env=(false,eval e X.env) :: starEach [] X.env:=by rfl) (hplain:(backTo cpos (starEach [] X.env)).any (·.1)=false:=by rfl)
  (hsw:swapsWith (.Call (.Attribute (.Name x xpos) "append" apos) [e] [] cpos) none pos.line X.env=pure false:=by rfl) :
  QS X (.Expr (.Call (.Attribute (.Name x xpos) "append" apos) [e] [] cpos) pos) (gA i te):=
 eJ (oU (m6 PySem.F.plainAttrs_list PySem.F.slot_list_append PySem.F.type_list_append m7 (kA hN hv hd hcd) (cD he cV hs) hbase hfew hline hs hplain) hsw) fun _ _ _=>Y6
theorem ac5 {i:Nat}{x:Str}{xpos tpos:Pos} (hu:X.A.units+1 < cLine) (hk:QE X a tk) (he:QE X e te) (hN:X.N[i]? = some x:=by rfl) (hv:i5 X.env.scope x:=by first | exact Or.inl rfl | exact Or.inr (Or.inl rfl) | exact Or.inr (Or.inr rfl)) (hd:(x == ("__debug__" : Str))=false:=by decide) (hcd:(x == ("__classdict__" : Str))=false:=by decide)
  (hs:swapsWith e (some (.Subscript (.Name x xpos) a tpos)) pos.line X.env=pure false:=by rfl):QS X (.Assign [.Subscript (.Name x xpos) a tpos] e pos) (rC i tk te):=eJ (vE hu (kA hN hv hd hcd) hk he hs) fun _ _ _=>aa5
theorem ac6 {i:Nat}{x:Str}{xpos tpos:Pos} (hu:X.A.units+1 < cLine) (hk:QE X a tk) (he:QE X e te) (hN:X.N[i]? = some x:=by rfl) (hv:i5 X.env.scope x:=by first | exact Or.inl rfl | exact Or.inr (Or.inl rfl) | exact Or.inr (Or.inr rfl)) (hd:(x == ("__debug__" : Str))=false:=by decide) (hcd:(x == ("__classdict__" : Str))=false:=by decide)
  (hs:swapsWith e (some (.Subscript (.Name x xpos) a tpos)) pos.line X.env=pure false:=by rfl):QS X (.Assign [.Subscript (.Name x xpos) a tpos] e pos) (rD i tk te):=eJ (vE hu (kA hN hv hd hcd) hk he hs) fun _ _ _=>aa6
theorem ac7 {tg l:Expr}{tl:TE} (hl:PE X l tl):PI X tg l (wU X.K tl):=by
 intro pins s σ H R I h
 refine aJ (hl pins s σ H _ I h) fun v s1 ⟨x,H1,I1,r1,q1⟩=>?_
 obtain ⟨a,e,q⟩:=q1
 subst e
 cases r1
 rcases q with ⟨xs,hq,q⟩ | ⟨xs,hq,q⟩
 ·obtain ⟨its,rv,p,hz⟩:=I1.list hq
  refine wpAny_pyIter_list p.isList ?_
  refine⟨s1.heap.objs.size,[s1.heap.objs.size],_,_,H1,rfl,I1.kept (t':=s1.toks) fun b o e=>aw2 _ e,G8 a _,⟨_,ax5 _ rfl,rfl,rfl⟩,fun b hb=>?_,q⟩
  have e:b=s1.heap.objs.size:=by simpa using hb
  subst e
  exact I1.fpOk (aw6 _) (I1.hok.fresh (aw6 _))
 ·obtain ⟨its,rv,p,hz⟩:=I1.tuple hq
  refine aG2 (show s1.heap.IsTuple a its.toArray from p) ?_
  refine⟨s1.heap.objs.size,[s1.heap.objs.size],_,_,H1,rfl,I1.kept (t':=s1.toks) fun b o e=>aw2 _ e,tW a _,⟨_,ax5 _ rfl,rfl,rfl⟩,fun b hb=>?_,q⟩
  have e:b=s1.heap.objs.size:=by simpa using hb
  subst e
  exact I1.fpOk (aw6 _) (I1.hok.fresh (aw6 _))
theorem iY {tg l:Expr} (hl:QE X l te):QI X tg l (gV te):=nR (ac7 hl) fun _ _ _=>Z5
theorem iZ {tg:Expr} (hg:Gl X "range") (hm:X.mg "range" = none) (ha:QE X a ta) (hs:starEach [a] X.env = [(false,eval a X.env)]:=by rfl):QI X tg (.Call (.Name "range" p2) [a] [] pos) (gW ta):=nR (J1 hg hm (cD ha cV hs) hs) fun _ _ _=>Z6
theorem xE {tg:Expr} (hg:Gl X "range") (hm:X.mg "range" = none) (ha:QE X a ta) (hb:QE X b tb) (hs:starEach [a,b] X.env = [(false,eval a X.env),(false,eval b X.env)]:=by rfl) (hs2:starEach [b] X.env = [(false,eval b X.env)]:=by rfl) :
  QI X tg (.Call (.Name "range" p2) [a,b] [] pos) (nG ta tb):=nR (J2 hg hm (cD ha (cD hb cV hs2) (by rw [hs,hs2])) hs hs2) fun _ _ _=>Z7
theorem xF {tg:Expr}{body:List Stmt}{ti:dL}{p:gB}{g:TG}{own:Nat->Prop} (hp:PassesOwn (model X.prog X.w) X.A X.env X.xe) (hc:X.calm=true) (hi:QI X tg e ti) (hg:PG X tg g) (ht:jM X.K own p g) (hb:dM X body t)
  (hs:∀ x,foldedSetIterable e X.env x=pure x:=by intro _; rfl):QS X (.For tg e body [] pos) (cR ti p t):=eJ (u5 hp hc hi hg hb hs) fun _ _ _=>Z8 ht
end
section
variable {X : Cx} {pins : List (Addr × Obj)} {σ : St} {H : Hp} {s : Shared} {K : PySem.W.Frag} {M M' : Addr → Prop}
theorem jI.inj {a:Addr}{us ws:List V} (h:jI K a us) (h':jI K a ws):us=ws:=by
 obtain ⟨o,its,n,e1,_,e2,_,v⟩:=h
 obtain ⟨o',its',n',e1',_,e2',_,v'⟩:=h'
 rw [e1] at e1'; cases e1'
 rw [e2] at e2'; cases e2'
 exact v.inj v'
theorem Reps.self_of {n:Nat} (ih:∀ {v:V}{x y:PV},aA K M H v x->aA K M' H v y->dD n x y=true->bV n x y=true):∀ {vs:List V}{xs ys:List PV},Reps K M H vs xs->Reps K M' H vs ys->((xs.zip ys).all fun p=>dD n p.1 p.2)=true->(((xs.zip ys).all fun p=>bV n p.1 p.2) && xs.length == ys.length)=true
 | _,_,_,.nil,.nil,_=>rfl
 | _,_,_,.cons r t,.cons r' t',o=>by
  simp only [List.zip_cons_cons,aF8,az2] at o
  have h1:=ih r r' o.1
  have h2:=Reps.self_of ih t t' o.2
  simp only [List.zip_cons_cons,aF8,h1,Bool.true_and,aC9] at h2 ⊢
  rw [<- h2]
  congr 1
  simp
theorem aA.self:∀ (n:Nat) {v:V}{x y:PV},aA K M H v x->aA K M' H v y->dD n x y=true->bV n x y=true:=by
 intro n
 induction n with
 | zero=>
  intro v x y r r' o
  cases r with
  | non=>cases r'; rfl
  | bl b=>cases r'; exact aC3 b
  | int i=>cases r'; exact aC3 i
  | str z=>cases r'; exact aC3 z
  | _=>cases o
 | succ n ih=>
  intro v x y r r' o
  cases r with
  | non=>cases r'; rfl
  | bl b=>cases r'; exact aC3 b
  | int i=>cases r'; exact aC3 i
  | str z=>cases r'; exact aC3 z
  | tup h rr=>
   cases r' with
   | tup h' rr'=>rw [h] at h'; cases h'; exact Reps.self_of ih rr rr' o
   | _=>cases o
  | lst _ h rr=>
   cases r' with
   | lst _ h' rr'=>rw [h] at h'; cases h'; exact Reps.self_of ih rr rr' o
   | _=>cases o
  | kt h rr=>
   cases r' with
   | kt h' rr'=>cases jI.inj h h'; exact Reps.self_of ih rr rr' o
   | _=>cases o
  | _=>cases o
theorem Reps.self (n:Nat) {vs:List V}{xs ys:List PV} (r:Reps K M H vs xs) (r':Reps K M' H vs ys) (o:((xs.zip ys).all fun p=>dD n p.1 p.2)=true):(((xs.zip ys).all fun p=>bV n p.1 p.2) && xs.length == ys.length)=true:=Reps.self_of (aA.self n) r r' o
theorem hJ (n:Nat) (xs ys:List PV):(List.range (min xs.length ys.length)).all (fun j=>bV n (xs.getD j .non) (ys.getD j .non))=(xs.zip ys).all fun p=>bV n p.1 p.2:=by
 rw [aF4]
 simp only [aD6,aG1]
 constructor
 ·intro h p hp
  obtain ⟨j,hj,e⟩:=List.getElem_of_mem hp
  have hj':j < min xs.length ys.length:=by simpa using hj
  have:=h j hj'
  rw [List.getElem_zip] at e
  subst e
  have h1:j < xs.length:=by omega
  have h2:j < ys.length:=by omega
  simpa [ax8,h1,h2] using this
 ·intro h j hj
  have h1:j < xs.length:=by omega
  have h2:j < ys.length:=by omega
  have hz:j < (xs.zip ys).length:=by simp; omega
  have:=h _ (aG0 hz)
  rw [List.getElem_zip] at this
  simpa [ax8,h1,h2] using this
theorem ac8 (I:a5 X pins σ H s):∀ (n:Nat) {A:Around}{v w:V}{x y:PV}{a b:Value},A.units+n < cLine->aA X.K M H v x->aA X.K M' H w y->aN v a->aN w b->dD n x y=true->SeqAt.EqAt A s a b (bV n x y):=by
 intro n
 induction n with
 | zero=>
  intro A v w x y a b hu rx ry ra rb o
  cases rx with
  | non=>
   cases ra
   cases ry with
   | non=>cases rb; exact SeqAt.EqAt.same _
   | int i=>obtain ⟨t',rfl⟩:=rb; exact SeqAt.EqAt.none_int _ _
   | _=>cases o
  | bl i=>
   cases ra
   cases ry with
   | bl j=>cases rb; exact SeqAt.EqAt.bool_bool _ _
   | _=>cases o
  | int i=>
   obtain ⟨t,rfl⟩:=ra
   cases ry with
   | int j=>obtain ⟨t',rfl⟩:=rb; exact SeqAt.EqAt.int_int _ _ _ _
   | non=>cases rb; exact SeqAt.EqAt.int_none _ _
   | _=>cases o
  | str i=>
   obtain ⟨t,rfl⟩:=ra
   cases ry with
   | str j=>obtain ⟨t',rfl⟩:=rb; exact SeqAt.EqAt.str_str _ _ _ _
   | _=>cases o
  | _=>cases o
 | succ n ih=>
  intro A v w x y a b hu rx ry ra rb o
  have items:∀ {us ws:List V}{xs ys:List PV}{its its2:List Value},Reps X.K M H us xs->Reps X.K M' H ws ys->aL us its->aL ws its2->((xs.zip ys).all fun p=>dD n p.1 p.2)=true->
    ∀ j (h1:j < its.toArray.size) (h2:j < its2.toArray.size),SeqAt.EqAt A.in1 s its.toArray[j] its2.toArray[j] (bV n (xs.getD j .non) (ys.getD j .non)):=fun {us ws xs ys its its2} r1 r2 v1 v2 ok j h1 h2=>by
   have l1:=v1.length
   have l2:=v2.length
   have m1:=r1.length
   have m2:=r2.length
   have k1:j < its.length:=by simpa using h1
   have k2:j < its2.length:=by simpa using h2
   have j1:j < us.length:=by omega
   have j2:j < ws.length:=by omega
   have i1:j < xs.length:=by omega
   have i2:j < ys.length:=by omega
   obtain ⟨u,hu',ru⟩:=v1.get (aw3 j1)
   obtain ⟨u2,hu2',ru2⟩:=v2.get (aw3 j2)
   obtain ⟨x,hx,rx⟩:=r1.get (aw3 j1)
   obtain ⟨y,hy,ry⟩:=r2.get (aw3 j2)
   have e1:its.toArray[j]=u:=by
    rw [aw3 k1] at hu'
    simpa using hu'
   have e2:its2.toArray[j]=u2:=by
    rw [aw3 k2] at hu2'
    simpa using hu2'
   have ok':dD n x y=true:=by
    rw [aD6] at ok
    have hz:j < (xs.zip ys).length:=by simp; omega
    have:=ok _ (aG0 hz)
    rw [List.getElem_zip] at this
    rw [aw3 i1] at hx
    rw [aw3 i2] at hy
    cases hx; cases hy
    exact this
   rw [e1,e2]
   have g1:xs.getD j .non=x:=by rw [ax8,hx]; rfl
   have g2:ys.getD j .non=y:=by rw [ax8,hy]; rfl
   rw [g1,g2]
   exact ih (by show A.units+1+n < cLine; omega) rx ry ru ru2 ok'
  have huA:A.units < cLine:=by omega
  cases rx with
  | @kt p us xs h1 r1=>
   obtain ⟨its,v1,p1,_⟩:=I.tuple (.inr h1)
   cases (show a=Value.ref p from ra)
   cases ry with
   | @kt p2 ws ys h2 r2=>
    obtain ⟨its2,v2,p2',_⟩:=I.tuple (.inr h2)
    cases (show b=Value.ref p2 from rb)
    by_cases e:p=p2
    ·subst e
     have:=aA.self (K:=X.K) (M:=M) (M':=M') (n+1) (.kt h1 r1) (.kt h2 r2) o
     rw [this]
     exact SeqAt.EqAt.same _
    ·have:=SeqAt.RcAt.tuples p1 p2' huA (items r1 r2 v1 v2 o)
     refine .of_refs e ?_
     have l1:=v1.length
     have l2:=v2.length
     have m1:=r1.length
     have m2:=r2.length
     rw [aw4,aw4,<- l1,<- l2,m1,m2,hJ] at this
     exact this
   | _=>cases o
  | @tup p us xs h1 r1=>
   obtain ⟨its,v1,p1,_⟩:=I.tuple (aI.of (K:=X.K) h1)
   cases (show a=Value.ref p from ra)
   cases ry with
   | @tup p2 ws ys h2 r2=>
    obtain ⟨its2,v2,p2',_⟩:=I.tuple (aI.of (K:=X.K) h2)
    cases (show b=Value.ref p2 from rb)
    by_cases e:p=p2
    ·subst e
     have:=aA.self (K:=X.K) (M:=M) (M':=M') (n+1) (.tup h1 r1) (.tup h2 r2) o
     rw [this]
     exact SeqAt.EqAt.same _
    ·have:=SeqAt.RcAt.tuples p1 p2' huA (items r1 r2 v1 v2 o)
     refine .of_refs e ?_
     have l1:=v1.length
     have l2:=v2.length
     have m1:=r1.length
     have m2:=r2.length
     rw [aw4,aw4,<- l1,<- l2,m1,m2,hJ] at this
     exact this
   | non=>cases rb; exact SeqAt.EqAt.tuple_none p1 huA
   | _=>cases o
  | @lst p us xs _ h1 r1=>
   obtain ⟨its,v1,p1,_⟩:=I.list (aH.of (K:=X.K) h1)
   cases (show a=Value.ref p from ra)
   cases ry with
   | @lst p2 ws ys _ h2 r2=>
    obtain ⟨its2,v2,p2',_⟩:=I.list (aH.of (K:=X.K) h2)
    cases (show b=Value.ref p2 from rb)
    have l1:=v1.length
    have l2:=v2.length
    have m1:=r1.length
    have m2:=r2.length
    by_cases e:p=p2
    ·subst e
     rw [h1] at h2; cases h2
     have:=Reps.self n r1 r2 o
     show SeqAt.EqAt A s _ _ ((xs.zip ys).all (fun p=>bV n p.1 p.2) && xs.length == ys.length)
     rw [this]
     exact SeqAt.EqAt.same _
    ·refine .of_refs e ?_
     by_cases hl:xs.length=ys.length
     ·have:=SeqAt.RcAt.lists p1.isList p2'.isList (by rw [aw4,aw4]; omega) huA (items r1 r2 v1 v2 o)
      have hm:min xs.length ys.length=its.length:=by omega
      rw [aw4,<- hm,hJ] at this
      show SeqAt.RcAt A s _ _ ((xs.zip ys).all (fun p=>bV n p.1 p.2) && xs.length == ys.length)
      rw [show (xs.length == ys.length)=true by simpa using hl,Bool.and_true]
      exact this
     ·have:=SeqAt.RcAt.lists_lengths (A:=A) p1.isList p2'.isList (by rw [aw4,aw4]; simp; omega) huA
      show SeqAt.RcAt A s _ _ ((xs.zip ys).all (fun p=>bV n p.1 p.2) && xs.length == ys.length)
      rw [show (xs.length == ys.length)=false by simpa using hl,aG6]
      exact this
   | _=>cases o
  | non=>
   cases ra
   cases ry with
   | non=>cases rb; exact SeqAt.EqAt.same _
   | int i=>obtain ⟨t',rfl⟩:=rb; exact SeqAt.EqAt.none_int _ _
   | @tup p2 ws ys h2 r2=>
    obtain ⟨its2,v2,p2',_⟩:=I.tuple (aI.of (K:=X.K) h2)
    cases (show b=Value.ref p2 from rb)
    exact SeqAt.EqAt.none_tuple p2' huA
   | _=>cases o
  | bl i=>
   cases ra
   cases ry with
   | bl j=>cases rb; exact SeqAt.EqAt.bool_bool _ _
   | _=>cases o
  | int i=>
   obtain ⟨t,rfl⟩:=ra
   cases ry with
   | int j=>obtain ⟨t',rfl⟩:=rb; exact SeqAt.EqAt.int_int _ _ _ _
   | non=>cases rb; exact SeqAt.EqAt.int_none _ _
   | _=>cases o
  | str i=>
   obtain ⟨t,rfl⟩:=ra
   cases ry with
   | str j=>obtain ⟨t',rfl⟩:=rb; exact SeqAt.EqAt.str_str _ _ _ _
   | _=>cases o
  | _=>cases o
end
structure Bt (mg:Str->Option Value):Prop where
 len:mg "len" = none
 range:mg "range" = none
 tuple:mg "tuple" = none
 list:mg "list" = none
 sorted:mg "sorted" = none
 all:mg "all" = none
 any:mg "any" = none
 zip:mg "zip" = none
 min:mg "min" = none
 max:mg "max" = none
 sum:mg "sum" = none
 isinst:mg "isinstance" = none
 int:mg "int" = none
 bool:mg "bool" = none
 enum:mg "enumerate" = none
section
variable {X : Cx} {a b c e o : Expr} {es bT : List Expr} {ta tb te to tk : aC} {tr : c9} {tA tB' tc : bM} {pos p2 px : Pos} {st : Stmt} {sts : List Stmt} {t u : aO}
theorem dZ (B:Bt X.mg) (ha:QA X [e] tr) (hg:Gl X "len":=by rfl) (he:starEach [e] X.env=(false,eval e X.env) :: starEach [] X.env:=by rfl) (hpl:(backTo pos (starEach [] X.env)).any (·.1)=false:=by rfl):QE X (.Call (.Name "len" p2) [e] [] pos) (aK dC tr):=
 lF (O6.or S0) Y8 hg B.len PySem.boot_len ha (he:=he) (hpl:=hpl)
theorem hU (B:Bt X.mg) (ha:QA X [e] tr) (hg:Gl X "tuple":=by rfl) (he:starEach [e] X.env=(false,eval e X.env) :: starEach [] X.env:=by rfl) (hpl:(backTo pos (starEach [] X.env)).any (·.1)=false:=by rfl):QE X (.Call (.Name "tuple" p2) [e] [] pos) (aK gC tr):=
 rP O8 Y9 hg B.tuple PyProof.Rows.boot_tuple ha (he:=he) (hpl:=hpl)
theorem ac9 (B:Bt X.mg) (ha:QA X [e] tr) (hg:Gl X "list":=by rfl) (he:starEach [e] X.env=(false,eval e X.env) :: starEach [] X.env:=by rfl) (hpl:(backTo pos (starEach [] X.env)).any (·.1)=false:=by rfl):QE X (.Call (.Name "list" p2) [e] [] pos) (aK qY tr):=
 rP O7 Z0 hg B.list PyProof.Rows.boot_list ha (he:=he) (hpl:=hpl)
theorem ad0 (B:Bt X.mg) (hc:X.calm=true) (ha:QA X [e] tr) (hg:Gl X "all":=by rfl) (he:starEach [e] X.env=(false,eval e X.env) :: starEach [] X.env:=by rfl) (hpl:(backTo pos (starEach [] X.env)).any (·.1)=false:=by rfl):QE X (.Call (.Name "all" p2) [e] [] pos) (aK qZ tr):=
 lF (qL hc) Z1 hg B.all PyProof.Rows.boot_all ha (he:=he) (hpl:=hpl)
theorem ad1 (B:Bt X.mg) (hc:X.calm=true) (ha:QA X [a,b] tr) (hg:Gl X "min":=by rfl) (he:starEach [a,b] X.env=(false,eval a X.env) :: starEach [b] X.env:=by rfl) (hpl:(backTo pos (starEach [b] X.env)).any (·.1)=false:=by rfl):QE X (.Call (.Name "min" p2) [a,b] [] pos) (aK r0 tr):=
 lF (L7 hc) Z2 hg B.min PyProof.Rows.boot_min ha (he:=he) (hpl:=hpl)
theorem rQ (B:Bt X.mg) (hc:X.calm=true) (ha:QA X [a,b] tr) (hg:Gl X "max":=by rfl) (he:starEach [a,b] X.env=(false,eval a X.env) :: starEach [b] X.env:=by rfl) (hpl:(backTo pos (starEach [b] X.env)).any (·.1)=false:=by rfl):QE X (.Call (.Name "max" p2) [a,b] [] pos) (aK lA tr):=
 lF (L6 hc) Z3 hg B.max PyProof.Rows.boot_max ha (he:=he) (hpl:=hpl)
theorem ad2 (ha:QE X a ta):QE X (.UnaryOp .USub a pos) (x8 ta):=bG (J7 K6 ha) fun σ H Q' h=>by
 obtain ⟨W,ρ,Q,px,q,k⟩:=h
 refine⟨W,ρ,_,px,q,?_⟩
 rintro v H1 x g s r ⟨i,rfl,q⟩
 cases r
 exact⟨i,rfl,k _ _ _ .fr s (.int _) q⟩
theorem xG (x:Int):∀ (xs:List Int),kT (.int x) (xs.map V.int)=decide (x ∈ xs)
 | []=>by simp [kT]
 | y :: r=>by
  have ih:=xG x r
  unfold kT at ih ⊢
  rw [aA0,List.any_cons,ih]
  by_cases e:y=x
  ·subst e; simp [fF]
  ·have:fF (.int y) (.int x)=false:=by simpa [fF] using e
   rw [this,Bool.false_or,aF4]
   simp [Ne.symm e]
theorem xH:∀ (xs:List Int),(xs.map V.int).all gN=true
 | []=>rfl
 | _ :: r=>by rw [aA0,aF8,xH r]; rfl
theorem xI (neg:Bool):eD X (iF neg) (pK X.K neg):=by
 rintro W Hs H u v x y g g' Q Q' s n r1 r2 ⟨i,ns,rfl,e,q⟩ k
 cases r1
 obtain ⟨a,us,rfl,hs,r⟩:=r2.seq e
 obtain rfl:=r.ofInts
 refine⟨a,_,rfl,hs,rfl,xH ns,?_⟩
 have:=k _ _ _ .fr (a9.refl _) (.bl _) q
 rw [xG]
 cases neg <;> exact this
theorem xJ (ha:QE X a ta) (hb:QE X b tb) (hm:behindInMarks .In b=false:=by rfl):QT X (.Compare a [.In] [b] pos) (aV (q2 (iF false) ta tb)):=iX O4 (xI false) ha hb hm
theorem xK (ha:QE X a ta) (hb:QE X b tb) (hm:behindInMarks .NotIn b=false:=by rfl):QT X (.Compare a [.NotIn] [b] pos) (aV (q2 (iF true) ta tb)):=iX O5 (xI true) ha hb hm
theorem aA.kt_ {K:PySem.W.Frag}{M:Addr->Prop}{H:Hp}{v:V}{xs:List PV} (r:aA K M H v (.kt xs)):∃ a us,v = .ref a/\jI K a us/\Reps K M H us xs:=by
 cases r with
 | kt h r=>exact⟨_,_,rfl,h,r⟩
def xL (K:PySem.W.Frag) (H:Hp) (x:V) (t:Value):Prop:=dQ K H x t ∨ ∃ a us,x = .ref a/\aI K H a us/\t = .type "tuple"
theorem ad3:cC X (.builtin "isinstance") (fun xs H Q=>∃ x t n b,xs = [x,.ty n]/\xL X.K H x t/\PySem.W.kitOne X.K t (.type n)=some b/\Q (.bl b) H):=by
 intro pins s σ H xs us Q I r h
 obtain ⟨x,t,n,b,rfl,ty,e,q⟩:=h
 rcases ty with ty | ⟨a,ws,rfl,hs,rfl⟩
 ·exact U4 pins s σ H _ us Q I r ⟨x,t,n,b,rfl,ty,e,q⟩
 obtain ⟨u,u',rfl,ru,ru'⟩:=kK r
 cases ru'
 cases (show u=Value.ref a from ru)
 obtain ⟨its,_,⟨o,h1,h2,_⟩,_⟩:=I.tuple hs
 exact aA9 PySem.W.kitx_tuple I.kIn ⟨o,h1,h2⟩ e (fun z=>nomatch z) fun tk=>⟨.bl b,H,I.tok tk,rfl,q⟩
theorem ad4 {K:PySem.W.Frag}{M:Addr->Prop}{H:Hp}{v:V}{x:PV}{T:String} (r:aA K M H v x) (e:x9 x=some T):xL K H v (.type T):=by
 cases r with
 | non=>cases e; exact .inl .non
 | bl b=>cases e; exact .inl (.bl b)
 | int i=>cases e; exact .inl (.int i)
 | str i=>cases e; exact .inl (.str i)
 | tup h _=>cases e; exact .inl (.tup h)
 | lst _ h _=>cases e; exact .inl (.lst h)
 | kt h _=>cases e; exact .inr ⟨_,_,rfl,.inr h,rfl⟩
 | _=>cases e
theorem rR {x:Str}{n:String} (B:Bt X.mg) (hn:bootBuiltins x=some (.type n)) (hm:X.mg x=none) (ha:QE X a ta) (hg:Gl X "isinstance":=by rfl) (hgx:Gl X x:=by rfl) (hx:x ≠ "__name__":=by decide) (hdx:(x == ("__debug__" : Str))=false:=by decide)
  (he:starEach [a,.Name x px] X.env=(false,eval a X.env) :: starEach [.Name x px] X.env:=by rfl) (he2:starEach [.Name x px] X.env=(false,eval (.Name x px) X.env) :: starEach [] X.env:=by rfl) (hpl:(backTo pos (starEach [.Name x px] X.env)).any (·.1)=false:=by rfl):QE X (.Call (.Name "isinstance" p2) [a,.Name x px] [] pos) (gY X.K n ta):=
 bG (kM ad3 hg B.isinst PyProof.Rows.boot_isinstance (cD ha (cD (F3 (v:=.ty n) hgx hm hn rfl hx hdx) cV he2) he) (he:=he) (hpl:=hpl)) fun σ H Q' h=>by
  obtain ⟨W,ρ,Q,px,q,k⟩:=h
  refine⟨W,ρ,_,px,q,?_⟩
  rintro v H1 x g s r ⟨T,b,e,kt,q⟩
  exact⟨v,_,n,b,rfl,ad4 r e,kt,k _ _ _ .fr s (.bl _) q⟩
theorem ad5 (B:Bt X.mg) (ha:QE X a ta) (hg:Gl X "isinstance":=by rfl) (hgx:Gl X "int":=by rfl)
  (he:starEach [a,.Name "int" px] X.env=(false,eval a X.env) :: starEach [.Name "int" px] X.env:=by rfl) (he2:starEach [.Name "int" px] X.env=(false,eval (.Name "int" px) X.env) :: starEach [] X.env:=by rfl) (hpl:(backTo pos (starEach [.Name "int" px] X.env)).any (·.1)=false:=by rfl):QE X (.Call (.Name "isinstance" p2) [a,.Name "int" px] [] pos) (gY X.K "int" ta):=rR B PyProof.Rows.boot_int B.int ha (hg:=hg) (hgx:=hgx) (he:=he) (he2:=he2) (hpl:=hpl)
theorem ad6 (B:Bt X.mg) (ha:QE X a ta) (hg:Gl X "isinstance":=by rfl) (hgx:Gl X "bool":=by rfl)
  (he:starEach [a,.Name "bool" px] X.env=(false,eval a X.env) :: starEach [.Name "bool" px] X.env:=by rfl) (he2:starEach [.Name "bool" px] X.env=(false,eval (.Name "bool" px) X.env) :: starEach [] X.env:=by rfl) (hpl:(backTo pos (starEach [.Name "bool" px] X.env)).any (·.1)=false:=by rfl):QE X (.Call (.Name "isinstance" p2) [a,.Name "bool" px] [] pos) (gY X.K "bool" ta):=rR B PyProof.Rows.boot_bool B.bool ha (hg:=hg) (hgx:=hgx) (he:=he) (he2:=he2) (hpl:=hpl)
theorem rS (B:Bt X.mg) (ha:QE X a ta) (hg:Gl X "isinstance":=by rfl) (hgx:Gl X "tuple":=by rfl)
  (he:starEach [a,.Name "tuple" px] X.env=(false,eval a X.env) :: starEach [.Name "tuple" px] X.env:=by rfl) (he2:starEach [.Name "tuple" px] X.env=(false,eval (.Name "tuple" px) X.env) :: starEach [] X.env:=by rfl) (hpl:(backTo pos (starEach [.Name "tuple" px] X.env)).any (·.1)=false:=by rfl):QE X (.Call (.Name "isinstance" p2) [a,.Name "tuple" px] [] pos) (gY X.K "tuple" ta):=rR B PyProof.Rows.boot_tuple B.tuple ha (hg:=hg) (hgx:=hgx) (he:=he) (he2:=he2) (hpl:=hpl)
def rT (K:PySem.W.Frag) (n:Nat) (neg:Bool):R2:=fun v w H Q=>∃ x y,aA K (fun _=>True) H v x/\aA K (fun _=>True) H w y/\((∃ xs ys,x = .tup xs/\y = .tup ys) ∨ (∃ xs ys,x = .lst xs/\y = .lst ys) ∨ (∃ xs ys,x = .kt xs/\y = .kt ys))/\dD (n+1) x y=true/\Q (.bl (if neg=true then !bV (n+1) x y else bV (n+1) x y)) H
theorem jU {pins:List (Addr × Obj)}{σ:St}{H:Hp}{s:Shared}{M M':Addr->Prop} (I:a5 X pins σ H s) {n:Nat}{A:Around} (hu:A.units+(n+1) < cLine) {us ws:List V}{xs ys:List PV}{its its2:List Value} (r1:Reps X.K M H us xs) (r2:Reps X.K M' H ws ys) (v1:aL us its) (v2:aL ws its2)
  (ok:((xs.zip ys).all fun p=>dD n p.1 p.2)=true):∀ j (h1:j < its.toArray.size) (h2:j < its2.toArray.size),SeqAt.EqAt A.in1 s its.toArray[j] its2.toArray[j] (bV n (xs.getD j .non) (ys.getD j .non)):=by
 intro j h1 h2
 have l1:=v1.length
 have l2:=v2.length
 have m1:=r1.length
 have m2:=r2.length
 have k1:j < its.length:=by simpa using h1
 have k2:j < its2.length:=by simpa using h2
 have j1:j < us.length:=by omega
 have j2:j < ws.length:=by omega
 have i1:j < xs.length:=by omega
 have i2:j < ys.length:=by omega
 obtain ⟨u,hu',ru⟩:=v1.get (aw3 j1)
 obtain ⟨u2,hu2',ru2⟩:=v2.get (aw3 j2)
 obtain ⟨x,hx,rx⟩:=r1.get (aw3 j1)
 obtain ⟨y,hy,ry⟩:=r2.get (aw3 j2)
 have e1:its.toArray[j]=u:=by
  rw [aw3 k1] at hu'
  simpa using hu'
 have e2:its2.toArray[j]=u2:=by
  rw [aw3 k2] at hu2'
  simpa using hu2'
 have ok':dD n x y=true:=by
  rw [aD6] at ok
  have hz:j < (xs.zip ys).length:=by simp; omega
  have:=ok _ (aG0 hz)
  rw [List.getElem_zip] at this
  rw [aw3 i1] at hx
  rw [aw3 i2] at hy
  cases hx; cases hy
  exact this
 rw [e1,e2]
 have g1:xs.getD j .non=x:=by rw [ax8,hx]; rfl
 have g2:ys.getD j .non=y:=by rw [ax8,hy]; rfl
 rw [g1,g2]
 exact ac8 I n (by show A.units+1+n < cLine; omega) rx ry ru ru2 ok'
theorem av9 (n:Nat) (hu:X.A.units+(n+1) < cLine):bU X (compareOp .Eq) (rT X.K n false):=by
 intro pins s σ H v w a b Q I ra rb h
 obtain ⟨x,y,rx,ry,kd,o,q⟩:=h
 have hu0:X.A.units < cLine:=by omega
 rcases kd with ⟨xs,ys,rfl,rfl⟩ | ⟨xs,ys,rfl,rfl⟩ | ⟨xs,ys,rfl,rfl⟩
 ·obtain ⟨p,us,rfl,h1,r1⟩:=rx.sqT
  obtain ⟨p2,ws,rfl,h2,r2⟩:=ry.sqT
  cases ra; cases rb
  obtain ⟨its,v1,p1,_⟩:=I.tuple (aI.of (K:=X.K) h1)
  obtain ⟨its2,v2,p2',_⟩:=I.tuple (aI.of (K:=X.K) h2)
  have l1:=v1.length
  have l2:=v2.length
  have m1:=r1.length
  have m2:=r2.length
  have:=SeqAt.RcAt.tuples p1 p2' hu0 (jU I hu r1 r2 v1 v2 o)
  rw [aw4,aw4,<- l1,<- l2,m1,m2,hJ] at this
  exact this _ _ _ _ ⟨.bl _,H,I,rfl,q⟩
 ·obtain ⟨p,us,rfl,_,h1,r1⟩:=rx.sqL
  obtain ⟨p2,ws,rfl,_,h2,r2⟩:=ry.sqL
  cases ra; cases rb
  obtain ⟨its,v1,p1,_⟩:=I.list (aH.of (K:=X.K) h1)
  obtain ⟨its2,v2,p2',_⟩:=I.list (aH.of (K:=X.K) h2)
  have l1:=v1.length
  have l2:=v2.length
  have m1:=r1.length
  have m2:=r2.length
  have q:Q (.bl ((xs.zip ys).all (fun p=>bV n p.1 p.2) && xs.length == ys.length)) H:=q
  by_cases hl:xs.length=ys.length
  ·have:=SeqAt.RcAt.lists p1.isList p2'.isList (by rw [aw4,aw4]; omega) hu0 (jU I hu r1 r2 v1 v2 o)
   have hm:min xs.length ys.length=its.length:=by omega
   rw [aw4,<- hm,hJ] at this
   rw [show (xs.length == ys.length)=true by simpa using hl,Bool.and_true] at q
   exact this _ _ _ _ ⟨.bl _,H,I,rfl,q⟩
  ·have:=SeqAt.RcAt.lists_lengths (A:=X.A) p1.isList p2'.isList (by rw [aw4,aw4]; simp; omega) hu0
   rw [show (xs.length == ys.length)=false by simpa using hl,aG6] at q
   exact this _ _ _ _ ⟨.bl _,H,I,rfl,q⟩
 ·obtain ⟨p,us,rfl,h1,r1⟩:=rx.kt_
  obtain ⟨p2,ws,rfl,h2,r2⟩:=ry.kt_
  cases ra; cases rb
  obtain ⟨its,v1,p1,_⟩:=I.tuple (.inr h1)
  obtain ⟨its2,v2,p2',_⟩:=I.tuple (.inr h2)
  have l1:=v1.length
  have l2:=v2.length
  have m1:=r1.length
  have m2:=r2.length
  have:=SeqAt.RcAt.tuples p1 p2' hu0 (jU I hu r1 r2 v1 v2 o)
  rw [aw4,aw4,<- l1,<- l2,m1,m2,hJ] at this
  exact this _ _ _ _ ⟨.bl _,H,I,rfl,q⟩
theorem ad7 (n:Nat) (hu:X.A.units+(n+1) < cLine):bU X (compareOp .NotEq) (rT X.K n true):=by
 intro pins s σ H v w a b Q I ra rb h
 obtain ⟨x,y,rx,ry,kd,o,q⟩:=h
 have hu0:X.A.units < cLine:=by omega
 rcases kd with ⟨xs,ys,rfl,rfl⟩ | ⟨xs,ys,rfl,rfl⟩ | ⟨xs,ys,rfl,rfl⟩
 ·obtain ⟨p,us,rfl,h1,r1⟩:=rx.sqT
  obtain ⟨p2,ws,rfl,h2,r2⟩:=ry.sqT
  cases ra; cases rb
  obtain ⟨its,v1,p1,_⟩:=I.tuple (aI.of (K:=X.K) h1)
  obtain ⟨its2,v2,p2',_⟩:=I.tuple (aI.of (K:=X.K) h2)
  have l1:=v1.length
  have l2:=v2.length
  have m1:=r1.length
  have m2:=r2.length
  have:=SeqAt.RcNeAt.tuples p1 p2' hu0 (jU I hu r1 r2 v1 v2 o)
  rw [aw4,aw4,<- l1,<- l2,m1,m2,hJ] at this
  exact this _ _ _ _ ⟨.bl _,H,I,rfl,q⟩
 ·obtain ⟨p,us,rfl,_,h1,r1⟩:=rx.sqL
  obtain ⟨p2,ws,rfl,_,h2,r2⟩:=ry.sqL
  cases ra; cases rb
  obtain ⟨its,v1,p1,_⟩:=I.list (aH.of (K:=X.K) h1)
  obtain ⟨its2,v2,p2',_⟩:=I.list (aH.of (K:=X.K) h2)
  have l1:=v1.length
  have l2:=v2.length
  have m1:=r1.length
  have m2:=r2.length
  have q:Q (.bl (!((xs.zip ys).all (fun p=>bV n p.1 p.2) && xs.length == ys.length))) H:=q
  by_cases hl:xs.length=ys.length
  ·have:=SeqAt.RcNeAt.lists p1.isList p2'.isList (by rw [aw4,aw4]; omega) hu0 (jU I hu r1 r2 v1 v2 o)
   have hm:min xs.length ys.length=its.length:=by omega
   rw [aw4,<- hm,hJ] at this
   rw [show (xs.length == ys.length)=true by simpa using hl,Bool.and_true] at q
   exact this _ _ _ _ ⟨.bl _,H,I,rfl,q⟩
  ·have:=SeqAt.RcNeAt.lists_lengths (A:=X.A) p1.isList p2'.isList (by rw [aw4,aw4]; simp; omega) hu0
   rw [show (xs.length == ys.length)=false by simpa using hl,aG6] at q
   exact this _ _ _ _ ⟨.bl _,H,I,rfl,q⟩
 ·obtain ⟨p,us,rfl,h1,r1⟩:=rx.kt_
  obtain ⟨p2,ws,rfl,h2,r2⟩:=ry.kt_
  cases ra; cases rb
  obtain ⟨its,v1,p1,_⟩:=I.tuple (.inr h1)
  obtain ⟨its2,v2,p2',_⟩:=I.tuple (.inr h2)
  have l1:=v1.length
  have l2:=v2.length
  have m1:=r1.length
  have m2:=r2.length
  have:=SeqAt.RcNeAt.tuples p1 p2' hu0 (jU I hu r1 r2 v1 v2 o)
  rw [aw4,aw4,<- l1,<- l2,m1,m2,hJ] at this
  exact this _ _ _ _ ⟨.bl _,H,I,rfl,q⟩
theorem ad8 {n:Nat}{neg:Bool}:eD X (rE n neg) (rT X.K n neg):=by
 rintro W Hs H u v x y g g' Q Q' s n r1 r2 ⟨kd,o,q⟩ k
 exact⟨x,y,r1.same (a9.refl _) fun _ _=>trivial,r2.same (a9.refl _) fun _ _=>trivial,kd.elim .inl fun z=>.inr (.inl z),o,k _ _ _ .fr (a9.refl _) (.bl _) q⟩
theorem ad9 (hu:X.A.units+3 < cLine) (ha:QE X a ta) (hb:QE X b tb):QT X (.Compare a [.NotEq] [b] pos) (aV (q2 (rE 2 true) ta tb)):=iX (ad7 2 hu) ad8 ha hb (fX _)
end
end PP
namespace PP
open PySem L2 PyProof.Rows
def LO (X:Cx) (t:jO):TO:=fun σ H Q'=>∃ (W:Addr->Prop) (ρ:aX) (Q:Option Int->Prop),PX X.K X.H₀ W σ ρ H/\t ρ Q/\∀ o H',a9 H H'->Q o->Q' o H'
def QO (X:Cx) (e:Option Expr) (t:jO):Prop:=PO X e (LO X t)
theorem Reps.cut {K:PySem.W.Frag}{M:Addr->Prop}{H:Hp}{us:List V}{xs:List PV} (r:Reps K M H us xs) (lo hi:Option Int):Reps K M H (cW us lo hi) (fM xs lo hi):=by
 unfold cW fM
 rw [r.length]
 exact (r.drop _).take _
section
variable {X : Cx} {a b c e o : Expr} {es bT : List Expr} {ta tb te to tk : aC} {tr : c9} {tA tB' tc : bM} {pos p2 px : Pos} {st : Stmt} {sts : List Stmt} {t u : aO}
theorem rV:QO X none nM:=fun pins s σ H Q I h=>pE pins s σ H Q I (by
 obtain ⟨W,ρ,Q1,px,q,k⟩:=h
 exact k _ _ (a9.refl _) q)
theorem rW (h:QE X e te):QO X (some e) (nN te):=fun pins s σ H Q I hq=>pF h pins s σ H Q I (by
 obtain ⟨W,ρ,Q1,px,q,k⟩:=hq
 refine⟨W,ρ,_,px,q,?_⟩
 rintro v H1 x g s r ⟨i,rfl,q⟩
 cases r
 exact⟨i,rfl,k _ _ s q⟩)
theorem rX {lo hi:Option Expr}{tl th:jO}{sp:Pos} (he:QE X e te) (hl:QO X lo tl) (hh:QO X hi th):QE X (.Subscript e (.Slice lo hi none sp) pos) (nO te tl th):=bG (pG (uZ.or wJ) he hl hh) fun σ H Q' h=>by
 obtain ⟨W,ρ,Q,px,q,k⟩:=h
 refine⟨W,ρ,_,px,q,fun v H1 x g s1 r1 q1=>⟨W,ρ,_,px.mono s1,q1,fun lo H2 s2 q2=>⟨W,ρ,_,px.mono (s1.trans s2),q2,?_⟩⟩⟩
 rintro hi H3 s3 ⟨xs,e,f,q3⟩
 have S:=(s1.trans s2).trans s3
 have r3:=r1.same (M':=Mg X.H₀ W H g) (s2.trans s3) fun _ z=>z
 cases r3 with
 | tup h r=>
  cases e
  refine .inr ⟨_,_,rfl,aI.of h,fun p hp=>k _ _ _ .fr (S.trans (b4 hp _)) (.tup aU (((r.flat f).cut lo hi).same (b4 hp _) fun _ z=>z)) q3,fun ec=>k _ _ _ .fr S (.tup h ?_) q3⟩
  have:=(r.flat (M':=Mg X.H₀ W H .fr) f).cut lo hi
  rw [ec] at this
  exact this
 | lst m h r=>
  cases e
  exact .inl ⟨_,_,rfl,aH.of h,fun p hp=>k _ _ _ .fr (S.trans (b4 hp _)) (.lst (S.free hp) aU (((r.flat f).cut lo hi).same (b4 hp _) fun _ z=>z)) q3⟩
 | scr h=>
  cases e
  exact .inl ⟨_,_,rfl,h.sqL,fun p hp=>k _ _ _ .fr (S.trans (b4 hp _)) (.lst (S.free hp) aU (((Reps.intz _).cut lo hi).same (b4 hp _) fun _ z=>z)) q3⟩
 | _=>cases e
structure Df (P:Program) (w:World) (K:PySem.W.Frag) (mg:Str->Option Value) (base:Heap) (k:Nat) (x:Str) (ps:List Str) (p:bN):Prop where
 ex:∃ f fd,bZ P w K mg base cP k f fd ps (lB K p)/\fY K fd ps []/\PySem.W.keepIn K (.ref f)=true/\mg x=some (.ref f)
theorem bS {k j:Nat}{x:Str}{ps:List Str}{p:bN} (d:Df X.prog X.w X.K X.mg X.base k x ps p) (hr:bD j X.A) (ha:QA X (e :: es) tr) (hkj:k<=j:=by decide) (hg:Gl X x:=by rfl) (hdb:(x == ("__debug__" : Str))=false:=by decide)
  (he:starEach (e :: es) X.env=(false,eval e X.env) :: starEach es X.env:=by rfl) (hpl:(backTo pos (starEach es X.env)).any (·.1)=false:=by rfl):QE X (.Call (.Name x p2) (e :: es) [] pos) (aK p tr):=by
 obtain ⟨f,fd,F,b,kp,m⟩:=d.ex
 exact bG (pB F (hr.mono hkj) hg m kp b .nil R8 ha hdb he hpl) fun _ _ _=>Z4
theorem rY {K:PySem.W.Frag}{H:Hp}{N:List Str}{vs:List V}{xs:List PV} (r:Reps K (fun _=>True) H vs xs):PX K H (fun _=>False) (L2.eR N vs) (cS N xs) H:=by
 have lr:=r.length
 have own:∀ {i:Nat}{m:Slot},(cS N xs)[i]? = some (some m)->∃ x,xs[i]? = some x/\m = .sh (flat x) x:=fun {i m} h=>by
  unfold cS at h
  by_cases hi:i < xs.length
  ·rw [List.getElem?_append_left (by simpa using hi),aw8] at h
   rw [aw3 hi] at h ⊢
   cases h
   exact⟨_,rfl,rfl⟩
  ·rw [List.getElem?_append_right (by simpa using hi),List.getElem?_replicate] at h
   split at h <;> cases h
 refine⟨by unfold L2.eR cS; simp [lr],a9.refl _,fun a z=>z.elim,fun i m h=>?_,fun i j x y a h1=>?_⟩
 ·obtain ⟨x,hx,rfl⟩:=own h
  obtain ⟨v,hv,rx⟩:=r.at hx
  refine⟨v,?_,nH (g:=false) (rx.same (a9.refl _) fun _ _ z=>z)⟩
  have hi:i < vs.length:=(ax3.mp hv).1
  unfold L2.eR
  rw [List.getElem?_append_left (by simpa using hi),aw8,hv]; rfl
 ·obtain ⟨x,_,e⟩:=own h1
  cases e
theorem Df.of {P:Program}{w:World}{K:PySem.W.Frag}{mg:Str->Option Value}{base:Heap}{k:Nat}{x:Str}{ps N:List Str}{p:bN}{st:Stmt}{f:Addr}{fd:FuncData} (F:dH K x x st f fd) (m:mg x=some (.ref f)) (S:FnScope N ps (aT st))
  (hb:∀ (kV doc pm:Value) (an:Option Addr) (cdv ct:Value) (us:List Value),us.length=ps.length->bindArgs (PySem.W.fnOf x x (gO st) (dA st) (aT st) .none kV doc pm an cdv ct) ⟨us,[]⟩=pure (ps.zip us))
  (len:∀ xs Q,p xs Q->xs.length=ps.length)
  (body:∀ (cdv:Value) (A:Around) (outer:List Env) (s:Shared) (H:Hp) (E:XK),bD k (A.deeper (envOfC x (aT st) s.heap.objs.size f cdv))->
   ∃ t,dM (cE cP P w K mg base N x (aT st) f cdv A outer s H E).nox (dA st) t/\∀ xs Q,p xs Q->t { nx:=fun _=>Q .non,rt:=Q } (cS N xs)):Df P w K mg base (k+1) x ps p:=by
 refine⟨f,fd,F.ok S (fun vs H Q E h=>?_) (fun cdv A outer s H vs Q E hr h=>?_),F.binds hb,F.kp,m⟩
 ·obtain ⟨xs,Qp,r,q,_⟩:=h
  rw [r.length]; exact len xs Qp q
 ·obtain ⟨xs,Qp,r,q,k⟩:=h
  obtain ⟨t,ht,hq⟩:=body cdv A outer s H E hr
  refine⟨_,ht,fun _=>False,cS N xs,_,rY r,hq xs Qp q,?_,?_,?_,?_⟩
  ·exact fun W' σ' H' ρ' e px q=>k _ _ _ px.same .non q
  ·exact fun v H' x s r q=>k _ _ _ s r q
  ·exact fun W' σ' H' ρ' e px q=>q
  ·exact fun W' σ' H' ρ' e px q=>q
theorem fP (i:Nat) {x:Str}{tp:Pos}{body:List Stmt}{ti:dL} (hN:X.N.Nodup) (hi:QI X (.Name x tp) e ti) (hb:dM X body t) (hx:X.N[i]? = some x:=by rfl) (hl:gI X.env.scope x:=by first | exact Or.inl rfl | exact Or.inr rfl) (hf:X.fn x=true ∨ X.env.scope.names.lookup x=some .local:=by first | exact .inl rfl | exact .inr rfl)
  (hp:PassesOwn (model X.prog X.w) X.A X.env X.xe:=by exact PassesOwn.never) (hc:X.calm=true:=by rfl) (hs:∀ x,foldedSetIterable e X.env x=pure x:=by intro _; rfl):QS X (.For (.Name x tp) e body [] pos) (cR ti (cJ i) t):=
 xF hp hc hi (e9 hN hx hl hf) (nI _ i) hb hs
theorem rZ (i j:Nat) {x y:Str}{tp xp yp:Pos}{kt:Nat}{body:List Stmt}{ti:dL} (hN:X.N.Nodup) (hi:QI X (.Tuple [.Name x xp,.Name y yp] kt tp) e ti) (hb:dM X body t) (hx:X.N[i]? = some x:=by rfl) (hy:X.N[j]? = some y:=by rfl) (hlx:gI X.env.scope x:=by first | exact Or.inl rfl | exact Or.inr rfl) (hly:gI X.env.scope y:=by first | exact Or.inl rfl | exact Or.inr rfl)
  (hfx:X.fn x=true ∨ X.env.scope.names.lookup x=some .local:=by first | exact .inl rfl | exact .inr rfl) (hfy:X.fn y=true ∨ X.env.scope.names.lookup y=some .local:=by first | exact .inl rfl | exact .inr rfl)
  (hp:PassesOwn (model X.prog X.w) X.A X.env X.xe:=by exact PassesOwn.never) (hc:X.calm=true:=by rfl) (hs:∀ x,foldedSetIterable e X.env x=pure x:=by intro _; rfl):QS X (.For (.Tuple [.Name x xp,.Name y yp] kt tp) e body [] pos) (cR ti (iU i j) t):=
 xF hp hc hi (kF hc (fW (e9 hN hx hlx hfx) (fW (e9 hN hy hly hfy) kE))) (wZ _ i j) hb hs
abbrev cB:Value->Shared->Prop:=fun _ _=>False
section
variable {scope : Scope} {N : List Str} {fr : List (Option Nat)} {x y : Str} {tp xp yp : Pos} {kt : Nat} {iter elt : Expr} {ti : dL}
theorem sA {ifs:List Expr}{tcs:bM} (he:∀ (s:Shared) (H:Hp) (C:Addr) (fp:List Addr),QE (bA X scope N s H C fp cB) elt te) (hi:∀ (s:Shared) (H:Hp) (C:Addr) (fp:List Addr),iB (bA X scope N s H C fp cB) ifs (LT (bA X scope N s H C fp cB) tcs))
  (hN:N.Nodup) (h0:N[0]? = some x) (hl:∀ (s:Shared) (H:Hp) (C:Addr) (fp:List Addr),(bA X scope N s H C fp cB).env.scope.names.lookup x=some .local) (s:Shared) (H:Hp) :
  jE X scope N (.Name x tp) ifs elt s H (bY 0) (LT (X.frm H) tcs) (LE (X.frm H) te):=
 ⟨fun C fp=>e9 (X:=bA X scope N s H C fp cB) hN h0 (.inl (hl s H C fp)) (.inr (hl s H C fp)),fun C fp=>hi s H C fp,fun C fp=>he s H C fp⟩
theorem xM {Y:Cx}:iB Y [] (LT Y iE):=fun pins s σ H Q I h=>mI pins s σ H Q I (aa0 h)
theorem ae0 (hi:QI X (.Name x tp) iter ti) (he:∀ (s:Shared) (H:Hp) (C:Addr) (fp:List Addr),QE (bA X scope N s H C fp cB) elt te)
  (hc:X.calm=true:=by rfl) (S:cF X scope N fr:=by exact cF.of rfl rfl) (hN:N.Nodup:=by decide +kernel) (h0:N[0]? = some x:=by rfl) (hl:∀ (s:Shared) (H:Hp) (C:Addr) (fp:List Addr),(bA X scope N s H C fp cB).env.scope.names.lookup x=some .local:=by intro _ _ _ _; rfl) (hf:fr[0]? = some none:=by rfl)
  (hs:∀ x,foldedSetIterable iter X.env x=pure x:=by intro _; rfl):QE X (.ListComp elt [⟨.Name x tp,iter,[],0⟩] scope pos) (iV ti fr (cJ 0) iE te):=
 bG (vP (gh:=fun _=>bY 0) (tch:=fun H=>LT (X.frm H) iE) (teh:=fun H=>LE (X.frm H) te) hc S hi (sA he (fun _ _ _ _=>xM) hN h0 hl) hs) fun _ _ _=>r6 (nI _ 0) (fun i e=>by subst e; exact hf)
theorem ae1 {c:Expr}{tcs:bM} (hi:QI X (.Name x tp) iter ti) (ht:∀ (s:Shared) (H:Hp) (C:Addr) (fp:List Addr),QT (bA X scope N s H C fp cB) c tcs) (he:∀ (s:Shared) (H:Hp) (C:Addr) (fp:List Addr),QE (bA X scope N s H C fp cB) elt te)
  (hc:X.calm=true:=by rfl) (S:cF X scope N fr:=by exact cF.of rfl rfl) (hN:N.Nodup:=by decide +kernel) (h0:N[0]? = some x:=by rfl) (hl:∀ (s:Shared) (H:Hp) (C:Addr) (fp:List Addr),(bA X scope N s H C fp cB).env.scope.names.lookup x=some .local:=by intro _ _ _ _; rfl) (hf:fr[0]? = some none:=by rfl)
  (hs:∀ x,foldedSetIterable iter X.env x=pure x:=by intro _; rfl):QE X (.ListComp elt [⟨.Name x tp,iter,[c],0⟩] scope pos) (iV ti fr (cJ 0) tcs te):=
 bG (vP (gh:=fun _=>bY 0) (tch:=fun H=>LT (X.frm H) tcs) (teh:=fun H=>LE (X.frm H) te) hc S hi (sA he (fun s H C fp=>vM (ht s H C fp)) hN h0 hl) hs) fun _ _ _=>r6 (nI _ 0) (fun i e=>by subst e; exact hf)
end
end
end PP
namespace SO
open PySem PyProof.Rows
variable {rk : Keyed → Int}
section
variable {κ : SortKind} {a0 : Array Keyed} {pd : Array (Nat × Nat × Nat)} {st : SortSt} {prog : Program} {w : World} {A : Around} {E : Value → Shared → Prop} {s : Shared} {Ok : Keyed → Prop}
abbrev DS:=Option (Option Nat) × Nat × Nat
end
abbrev LS:=Option (Array Keyed) × Array Keyed × Nat × Nat × Nat × Nat × Nat
abbrev LO:=Option (Array Keyed) × Array Keyed × Nat × Nat × Nat
variable {rk : Keyed → Int} {xs ys o : List Keyed} {i j : Nat}
variable {rk : Keyed → Int} {xs ys o : List Keyed} {i j : Nat}
variable {rk : Keyed → Int}
def Ch:Nat->List (Nat × Nat)->Nat->Prop
 | a,[],b=>a=b
 | a,(p,n) :: r,b=>p=a/\0 < n/\Ch (a+n) r b
variable {rk : Keyed → Int} {κ : SortKind} {a0 : Array Keyed} {pd : Array (Nat × Nat × Nat)} {st : SortSt} {prog : Program} {w : World} {A : Around} {E : Value → Shared → Prop} {s : Shared} {Ok : Keyed → Prop}
end SO
namespace L2
open PySem PySem.Spec PyProof.Rows
theorem aZ.at {P:Program}{w:World}{H:Hp}{h:Heap}{a:Addr}{o:HO} (x:aZ P w H h a o):∃ ob,h.get? a=some ob:=by
 cases o with
 | lst xs=>obtain ⟨_,_,_,_,e⟩:=x; exact⟨_,e⟩
 | tup xs=>obtain ⟨_,_,_,⟨_,e,_⟩,_⟩:=x; exact⟨_,e⟩
 | dK kvs=>obtain ⟨_,_,_,_,_,_,_,e,_⟩:=x; exact⟨_,e⟩
 | dT kvs=>obtain ⟨_,_,_,_,_,_,_,e,_⟩:=x; exact⟨_,e⟩
 | set S n=>obtain ⟨_,_,_,_,e,_⟩:=x; exact⟨_,e⟩
 | ins C dx fs=>obtain ⟨_,_,_,e,_⟩:=x; exact⟨_,e⟩
 | own y=>exact x
 | xd fs=>obtain ⟨_,⟨_,_,_,e,_⟩,_⟩:=x; exact⟨_,e⟩
 | rng lo hi=>obtain ⟨_,_,_,e⟩:=x; exact⟨_,e⟩
 | frz ob u=>obtain ⟨e,_⟩:=x; exact⟨_,e⟩
 | tbl ps=>exact⟨_,x⟩
 | met f y=>exact⟨_,x⟩
 | ext φ=>exact x.2.1
structure j3 (P:Program) (w:World) (outer:List Env) (H:Hp) (s:Shared) (H':Hp) (B:Heap) (a C:Addr) (s':Shared):Prop where
 os:s'.os=s.os
 bare:AllBare s'.gens
 un:Un (b6 outer) [] H H' s.heap s'.heap
 hok:b9 P w H' s'.heap
 fly:∃ a0,Heap.FlyingW B outer a (.ref C) a0 s'.heap
 b0:∀ b o,s.heap.get? b=some o->b ∉ b6 outer->∃ o',B.get? b=some o'
 b1:∀ b o,s.heap.get? b=some o->H b=none->b ∉ b6 outer->B.get? b=some o
 b2:∀ b u o,H' b=some u->s'.heap.get? b=some o->B.get? b=some o
def cT (P:Program) (w:World):eQ:=fun outer H s E e s'=>∃ (H':Hp) (B:Heap) (a C:Addr),e = .ref a/\j3 P w outer H s H' B a C s'/\E (.ref C) none H'
section
variable {P : Program} {w : World} {outer : List Env} {H H' : Hp} {s s' : Shared} {B h2 : Heap} {a C : Addr}
theorem j3.fresh (f:j3 P w outer H s H' B a C s'):H' a=none:=by
 cases q:H' a with
 | none=>rfl
 | some u=>
  obtain ⟨ob,e⟩:=(f.hok a u q).at
  have z:=f.b2 a u ob q e
  obtain ⟨_,_,n,_⟩:=f.fly
  rw [n] at z; cases z
theorem j3.hok2 (f:j3 P w outer H s H' B a C s') (k:B.StaysIn h2):b9 P w H' h2:=fun b u e=>
 (f.hok b u e).stay (fun c v hc q=>by
  rcases hc with z | z
  ·subst z; exact k _ _ (f.b2 _ _ _ e q)
  ·exact k _ _ (f.b2 _ _ _ z q)) (fun _ q=>q) fun _ _ q=>q
end
section
variable {P : Program} {w : World} {K : PySem.W.Frag} {mg : Str → Option Value} {base : Heap} {N : List Str} {qual : Str} {scope : Scope} {f : Addr} {cd : Value} {A : Around} {outer : List Env} {s₀ : Shared} {H₀ : Hp} {E₀ E₁ : XK}
theorem nT {pins:List (Addr × Obj)}{σ:St}{H:Hp}{s:Shared} (I:a5 (cE (cT P w) P w K mg base N qual scope f cd A outer s₀ H₀ E₀) pins σ H s) {b:Addr}{o:Obj} (e:s₀.heap.get? b=some o) (n:b ∉ b6 outer) :
  b ∉ b6 (envOfC qual scope s₀.heap.objs.size f cd :: outer):=fun z=>by
 rcases aw7.mp (I.stkSub b z) with y | y
 ·have l:=ax2 e
  have y:b=s₀.heap.objs.size:=y
  exact absurd l (by rw [y]; exact az9 _)
 ·exact n y
theorem ae2 (hE:∀ c d H',E₁ c d H'->E₀ c d H'):kL (cT P w) (cE (cT P w) P w K mg base N qual scope f cd A outer s₀ H₀ E₀) E₁:=by
 intro pins σ H s e s' I hx
 obtain ⟨H',B,a,C,e1,fl,q⟩:=hx
 subst e1
 have I':=I.call' fl.os fl.un fl.hok fl.bare (ch:=[]) (fun b z=>absurd z (by simp))
 obtain ⟨a0,fly⟩:=fl.fly
 refine wpAny_leaves_onW I.ok.frames rfl fly fun h' fly' up=>?_
 have slot:∀ b o,s₀.heap.get? b=some o->b ∈ b6 outer->∃ sl,h'.get? b=some { o with slots:=sl }:=fun b o e hb=>by
  obtain ⟨sl,e1⟩:=I'.base.slot b o e (I.ok.frf b hb) hb (fun z=>nomatch z)
  obtain ⟨_,o2,e2,nf⟩:=I.ok.funs.mem hb
  rw [show (cE (cT P w) P w K mg base N qual scope f cd A outer s₀ H₀ E₀).s₀=s₀ from rfl,e] at e2
  cases e2
  obtain ⟨sl',e3⟩:=up b _ e1 nf
  exact⟨sl',e3⟩
 have old:∀ b o,s₀.heap.get? b=some o->H₀ b=none->b ∉ b6 outer->B.get? b=some o:=fun b o e n hb=>
  fl.b1 b o (I.base.keep b o e n hb (fun z=>nomatch z)) (I.base.free b o e n (fun z=>nomatch z)) (nT I e hb)
 have old0:∀ b o,s₀.heap.get? b=some o->b ∉ b6 outer->∃ o',B.get? b=some o':=fun b o e hb=>by
  obtain ⟨o1,e1⟩:=I.base.there b o e (fun z=>nomatch z)
  exact fl.b0 b o1 e1 (nT I e hb)
 refine⟨H',B,a,C,rfl,⟨I'.os,I'.bare,⟨fun b o e n hb _=>fly'.1 _ _ (old b o e n hb),fun b o e n hb _=>slot b o e hb,fun b o e n hx=>I'.base.free b o e n hx,fun b o e _=>?_,I'.base.tups,I'.base.frzs,I'.base.tbls⟩,fl.hok2 fly'.1,⟨a0,fly'⟩,old0,old,fun b u o e h=>?_⟩,hE _ _ _ q⟩
 ·by_cases hb:b ∈ b6 outer
  ·obtain ⟨sl,e1⟩:=slot b o e hb
   exact⟨_,e1⟩
  ·obtain ⟨o',e1⟩:=old0 b o e hb
   exact⟨o',fly'.1 _ _ e1⟩
 ·obtain ⟨ob,e1⟩:=(fl.hok b u e).at
  have e2:=fl.b2 b u ob e e1
  have e3:=fly'.1 _ _ e2
  have h:h'.get? b=some o:=h
  rw [h] at e3; cases e3; exact e2
theorem ae3 {pins:List (Addr × Obj)}{σ:St}{H:Hp}{s:Shared}{h':Heap}{e C:Addr}{args:List Value} (I:a5 (cE (cT P w) P w K mg base N qual scope f cd A outer s₀ H₀ E₀) pins σ H s) (mx:Heap.MadeExcOf s.heap h' e (.ref C) args) (q:E₀ (.ref C) none H) :
  (cE (cT P w) P w K mg base N qual scope f cd A outer s₀ H₀ E₀).xe (.ref e) { s with heap:=h' }:=by
 have tr:∀ b u,H b=some u->b ∉ b6 (envOfC qual scope s₀.heap.objs.size f cd :: outer):=fun b u z n=>by
  rw [I.stkFree b n] at z; cases z
 have inB:∀ b o,s.heap.get? b=some o->b ∉ b6 (envOfC qual scope s₀.heap.objs.size f cd :: outer)->(PySem.W.hideAll s.heap (b6 (envOfC qual scope s₀.heap.objs.size f cd :: outer))).get? b=some o:=fun b o z n=>PySem.W.hideAll_get _ z n
 refine wpAny_leaves_madeW (base:=PySem.W.hideAll s.heap (b6 (envOfC qual scope s₀.heap.objs.size f cd :: outer))) I.ok.frames rfl (fun b o z=>PySem.W.of_hideAll _ z) (PySem.W.funFrames_hide I.stack fun env he b hb=>List.mem_filterMap.mpr ⟨env,he,hb⟩) mx fun h'' t fly _ _ up=>?_
 have slot:∀ b o,s₀.heap.get? b=some o->b ∈ b6 outer->∃ sl,h''.get? b=some { o with slots:=sl }:=fun b o e hb=>by
  obtain ⟨sl,e1⟩:=I.base.slot b o e (I.ok.frf b hb) hb (fun z=>nomatch z)
  obtain ⟨_,o2,e2,nf⟩:=I.ok.funs.mem hb
  rw [show (cE (cT P w) P w K mg base N qual scope f cd A outer s₀ H₀ E₀).s₀=s₀ from rfl,e] at e2
  cases e2
  obtain ⟨sl',e3⟩:=up b _ (mx.keeps _ _ e1) nf
  exact⟨sl',e3⟩
 have old:∀ b o,s₀.heap.get? b=some o->H₀ b=none->b ∉ b6 outer->(PySem.W.hideAll s.heap (b6 (envOfC qual scope s₀.heap.objs.size f cd :: outer))).get? b=some o:=fun b o e n hb=>
  inB b o (I.base.keep b o e n hb (fun z=>nomatch z)) (nT I e hb)
 have old0:∀ b o,s₀.heap.get? b=some o->b ∉ b6 outer->∃ o',(PySem.W.hideAll s.heap (b6 (envOfC qual scope s₀.heap.objs.size f cd :: outer))).get? b=some o':=fun b o e hb=>by
  obtain ⟨o1,e1⟩:=I.base.there b o e (fun z=>nomatch z)
  exact⟨o1,inB b o1 e1 (nT I e hb)⟩
 refine⟨H,_,e,C,rfl,⟨I.os,I.bare,⟨fun b o e n hb _=>fly.1 _ _ (old b o e n hb),fun b o e n hb _=>slot b o e hb,fun b o e n hx=>I.base.free b o e n hx,fun b o e _=>?_,I.base.tups,I.base.frzs,I.base.tbls⟩,fun b u z=>?_,⟨_,fly⟩,old0,old,fun b u o z h=>?_⟩,q⟩
 ·by_cases hb:b ∈ b6 outer
  ·obtain ⟨sl,e1⟩:=slot b o e hb
   exact⟨_,e1⟩
  ·obtain ⟨o',e1⟩:=old0 b o e hb
   exact⟨o',fly.1 _ _ e1⟩
 ·refine (I.hok b u z).stay (fun c v hc y=>?_) (fun _ y=>y) fun _ _ y=>y
  rcases hc with z' | z'
  ·subst z'; exact fly.1 _ _ (inB _ _ y (tr _ _ z))
  ·exact fly.1 _ _ (inB _ _ y (tr _ _ z'))
 ·obtain ⟨ob,e1⟩:=(I.hok b u z).at
  have e2:=inB b ob e1 (tr b u z)
  have e3:=fly.1 _ _ e2
  have h:h''.get? b=some o:=h
  rw [h] at e3; cases e3; exact e2
end
structure jV (X:Cx) (E:XK):Prop where
 pass:kL (cT X.prog X.w) X E
 made:∀ (pins:List (Addr × Obj)) (σ:St) (H:Hp) (s:Shared) (h':Heap) (e C:Addr) (args:List Value),a5 X pins σ H s->Heap.MadeExcOf s.heap h' e (.ref C) args->E (.ref C) none H->X.xe (.ref e) { s with heap:=h' }
 own:PassesOwn (model X.prog X.w) X.A X.env X.xe
theorem ae4 {P:Program}{w:World}{K:PySem.W.Frag}{mg:Str->Option Value}{base:Heap}{N:List Str}{qual:Str}{scope:Scope}{f:Addr}{cd:Value}{A:Around}{outer:List Env}{s₀:Shared}{H₀:Hp}{E₀ E₁:XK} (hE:∀ c d H',E₁ c d H'->E₀ c d H') :
  jV (cE (cT P w) P w K mg base N qual scope f cd A outer s₀ H₀ E₀) E₁:=
 ⟨ae2 hE,fun _ _ _ _ _ _ _ _ I mx q=>ae3 I mx (hE _ _ _ q),PassesOwn.leaving⟩
def xN (E:XK) (C:Addr) (t:TA):TS:=fun _ σ H=>t σ H fun vs H1=>vs.length<=sizeLine/\E (.ref C) none H1
theorem ae5 {X:Cx}{E:XK}{x:Str}{C:Addr}{bm:List Value}{B newId initId:String}{np cpos pos:Pos}{e:Expr}{es:List Expr}{t:TA} (hX:jV X E) (hc:X.calm=true) (O:OwnCls x C bm newId X.mg X.base) (FB:ExcBaseFacts B newId initId bm) (ha:PA X (e :: es) t) (hg:Gl X x)
  (hd:(x == ("__debug__" : Str))=false:=by decide) (he:starEach (e :: es) X.env=(false,eval e X.env) :: starEach es X.env:=by rfl) (hpl:(backTo cpos (starEach es X.env)).any (·.1)=false:=by rfl) :
  PS X (.Raise (some (.Call (.Name x np) (e :: es) [] cpos)) none pos) (xN E C t):=by
 intro pins s σ H D I h
 obtain ⟨tl,Na,nm,qn,bs,hx,sn,sub,ab,col,dd,k0,k1,k2,k3,k5,mN,hC,hN,hni,T⟩:=O.obj
 refine wpAny_Raise_call_subT (nm:=nm) (q:=qn) (N:=Na) (bs:=bs) (bm:=tl) (hdct:=hx) (sn:=sn) (sub:=sub) (ab:=ab) (col:=col) (dd:=dd) (k0:=k0) (k1:=k1) (k2:=k2) (k3:=k3) (k5:=k5) FB (C:=C) (mN:=mN) (T.hasType FB.hasBase) (I.ok.hd hc) (by rw [he]; show (false || (backTo cpos (starEach es X.env)).any (·.1))=false; rw [hpl]; rfl) hni (kC I hg O.bound ⟨rfl,?_⟩ hd)
 have h1:=ha cpos pins s σ H _ I h
 rw [he] at h1 ⊢
 refine Calls.evalArgs_plain (aB5 h1 (fun us s2 h2=>?_) fun _ _ y=>y)
 obtain ⟨vs,H2,I2,r,hl,q⟩:=h2
 have r:aL vs us:=r
 exact⟨rfl,by show us.length<=sizeLine; rw [<- r.length]; exact hl,I2.bk _ _ hC,hN.keeps I2.bk,T.keeps I2.bk,fun h' e' mx=>hX.made pins σ H2 s2 h' e' C _ I2 mx q⟩
theorem dH.okX {P:Program}{w:World}{K:PySem.W.Frag}{mg:Str->Option Value}{base:Heap}{x qual:Str}{st:Stmt}{f:Addr}{fd:FuncData}{N ps:List Str}{k:Nat}{sp:Sp} (F:dH K x qual st f fd) (S:FnScope N ps (aT st)) (len:∀ vs H Q E,sp vs H Q E->vs.length=ps.length)
  (hbody:∀ (cdv:Value) (A:Around) (outer:List Env) (s:Shared) (H:Hp) (vs:List V) (Q:VK) (E:XK),bD k (A.deeper (envOfC qual (aT st) s.heap.objs.size f cdv))->sp vs H Q E->
   ∃ t,cO (cE (cT P w) P w K mg base N qual (aT st) f cdv A outer s H E) (dA st) t/\t { nx:=fun _ H'=>Q .non H',rt:=Q } (eR N vs) H):bZ P w K mg base (cT P w) (k+1) f fd ps sp:=by
 obtain ⟨oc,od,kV,doc,pm,an,cdv,ct,osl,rfl,lk,hcd⟩:=F.ex
 exact uN lk hcd S len fun A outer s H vs Q E hr hsp=>hbody cdv A outer s H vs Q E hr hsp
section
variable {X : Cx} {pins : List (Addr × Obj)} {σ : St} {H H1 H' : Hp} {s s1 s' : Shared} {B h2 : Heap} {a C : Addr}
theorem xO {oe:Obj} (I:a5 X pins σ H1 s1) (fl:j3 X.prog X.w X.stack H1 s1 H' B a C s') (st:B.StaysIn h2) (up:s'.heap.UpToSlots h2) (he:h2.get? a=some oe) :
  a5 X pins σ (upd H' a (.frz oe (.own a))) { s' with heap:=h2 }:=by
 obtain ⟨a0,fly⟩:=fl.fly
 have na:B.get? a=none:=fly.2.1
 have nf:a ∉ b6 X.stack:=fun z=>by
  obtain ⟨_,o,e,d⟩:=fly.2.2.1.mem z
  obtain ⟨o2,vs,e2,_,d2,_⟩:=fly.first
  rw [e] at e2; cases e2
  exact d vs d2
 have nb:∀ b o,s1.heap.get? b=some o->b ≠ a:=fun b o e z=>by
  subst z
  obtain ⟨o',e'⟩:=fl.b0 _ o e nf
  rw [na] at e'; cases e'
 have nt:∀ b u,H' b=some u->b ≠ a:=fun b u e z=>by
  subst z; rw [fl.fresh] at e; cases e
 have off:∀ b,b ≠ X.env.locals->b ∉ X.fs->b ∉ b6 X.stack:=fun b n1 n2 z=>(aw7.mp (I.stkSub b z)).elim n1 n2
 have slot:∀ b o,s1.heap.get? b=some o->b ∈ b6 X.stack->∃ sl,h2.get? b=some { o with slots:=sl }:=fun b o e hb=>by
  obtain ⟨sl,e1⟩:=fl.un.any e (I.stkFree b hb) (fun z=>nomatch z)
  obtain ⟨_,o2,e2,d⟩:=I.stack.mem hb
  rw [e] at e2; cases e2
  obtain ⟨sl',e3⟩:=up b _ e1 d
  exact⟨sl',e3⟩
 have ns:∀ m,s1.heap.Ns X.env.locals m->h2.Ns X.env.locals m:=fun m hm=>by
  obtain ⟨o,es,ep,e,r⟩:=hm
  obtain ⟨sl,e1⟩:=fl.un.any e I.free (fun z=>nomatch z)
  exact up.ns ⟨_,es,ep,e1,r⟩
 have hok:b9 X.prog X.w (upd H' a (.frz oe (.own a))) h2:=fun b u e=>by
  by_cases hb:b=a
  ·subst hb; rw [aU] at e; cases e; exact⟨he,_,he⟩
  ·rw [aB hb] at e
   exact (fl.hok2 st b u e).stay (fun _ _ _ q=>q) (fun c q=>by rw [aB (nt c _ q)]; exact q) fun c xs q=>by rw [aB (nt c _ q)]; exact q
 have bare:=fl.bare
 have un:=fl.un
 have b0:=fl.b0
 have b1:=fl.b1
 have os:=fl.os
 clear fl fly up
 obtain ⟨hh,g,d,t,os'⟩:=s'
 obtain rfl:os'=s1.os:=os
 show a5 X pins σ _ { s1 with heap:=h2,gens:=g,drawn:=d,toks:=t }
 refine I.step (h':=h2) (g':=g) (d':=d) (t':=t) (ch:=[]) (fun _ z=>nomatch z) (fun b o n1 n2 _ e n=>st _ _ (b1 b o e n (off b n1 n2))) (fun b o n1 hb _ e n=>?_) (fun b o _ e n=>by rw [aB (nb b o e)]; exact un.free b o e n (fun z=>nomatch z)) (fun b o _ e=>?_)
  (fun b xs q=>by rw [aB (nt b _ (un.tups b xs q))]; exact un.tups b xs q) (fun b o u q=>by rw [aB (nt b _ (un.frzs b o u q))]; exact un.frzs b o u q) (fun b ps q=>by
   obtain ⟨more,q'⟩:=un.tbls b ps q
   exact⟨more,by rw [aB (nt b _ q')]; exact q'⟩) ns hok bare
 ·by_cases hs:b ∈ b6 X.stack
  ·exact slot b o e hs
  ·exact⟨o.slots,st _ _ (b1 b o e n hs)⟩
 ·by_cases hb:b ∈ b6 X.stack
  ·obtain ⟨sl,e1⟩:=slot b o e hb
   exact⟨_,e1⟩
  ·obtain ⟨o',e1⟩:=b0 b o e hb
   exact⟨o',st _ _ e1⟩
abbrev Cx.suite (X:Cx) (a:Addr):Cx:={ X with A:=X.A.mark (some (.ref a)),calm:=false,xe:=fun _ _=>False }
theorem Cx.Ok.suite {X:Cx} (ok:X.Ok) (a:Addr):(X.suite a).Ok:=
 ⟨ok.mod,ok.kind,ok.glob,ok.blt,ok.above,ok.inj,ok.has,ok.cab,fun z=>Bool.noConfusion z,ok.frames,ok.stk,ok.exf,ok.bs,ok.bsz,ok.noex,ok.exfs,ok.funs,ok.frf⟩
theorem a5.suite (I:a5 X pins σ H s) (a:Addr):a5 (X.suite a) pins σ H s:=⟨I.ok.suite a,I.os,I.bare,I.base,I.loc,I.cell,I.free,I.freeC,I.pin,I.hok,I.len⟩
theorem a5.unsuite (I:a5 (X.suite a) pins σ H s) (ok:X.Ok):a5 X pins σ H s:=⟨ok,I.os,I.bare,I.base,I.loc,I.cell,I.free,I.freeC,I.pin,I.hok,I.len⟩
theorem nU {M:Model}{A:Around}{E:Value->Shared->Prop}{i:Nat}{x:Str}{pos:Pos}{Q:Unit->Shared->Prop} (I:a5 X pins σ H s) (hN:X.N.Nodup) (hi:X.N[i]? = some x) (hk:X.env.scope.names.lookup x=some .local)
  (h:∀ s',a5 X pins (σ.set i none) H s'->Q () s'):wpAny M A (do bindName X.env x .none; unbindBehindTheSuite X.env x pos) Q E s:=by
 obtain ⟨m,hn,hl⟩:=id I.loc
 obtain ⟨oL,_,_,hoL,_⟩:=id hn
 have ab:∀ b o,X.s₀.heap.get? b=some o->b ≠ X.env.locals:=fun b o e=>ay8 (ax0 (ax2 e) I.ok.above)
 refine wpAny_nameGoes_keeps hk hn (by rw [I.ok.kind]; rfl) fun h' v hn' hs=>?_
 refine h _ ⟨I.ok,I.os,I.bare,⟨fun b o e n hb hx=>(hs.2 b (ab b o e)).trans (I.base.keep b o e n hb hx),fun b o e n hb hx=>?_,I.base.free,fun b o e hx=>?_,I.base.tups,I.base.frzs,I.base.tbls⟩,⟨_,hn',fun j y v' e1 e2 e3=>?_⟩,fun y c e=>?_,I.free,I.freeC,fun p hp=>?_,fun b u e=>?_,by simpa using I.len⟩
 ·obtain ⟨sl,e1⟩:=I.base.slot b o e n hb hx
  exact⟨sl,(hs.2 b (ab b o e)).trans e1⟩
 ·obtain ⟨o',e1⟩:=I.base.there b o e hx
  exact⟨o',(hs.2 b (ab b o e)).trans e1⟩
 ·by_cases hj:j=i
  ·subst hj
   have hjl:j < σ.length:=by rw [I.len]; exact (ax3.mp hi).1
   rw [aC6 hjl] at e2
   cases e2
  ·rw [ay4 (Ne.symm hj)] at e2
   obtain ⟨u',r',q⟩:=hl j y v' e1 e2 e3
   refine⟨u',r',?_⟩
   rcases q with ⟨k,e⟩ | ⟨k,c,e,z⟩
   ·have ny:y ≠ x:=fun z=>hj (oR hN e1 (z ▸ hi))
    exact .inl ⟨k,by simp [ny,e]⟩
   ·exact .inr ⟨k,c,e,z.sameBut hs (I.cne y c e)⟩
 ·obtain ⟨w',z⟩:=I.cell y c e
  exact⟨w',z.sameBut hs (I.cne y c e)⟩
 ·obtain ⟨e,n,ne,nf,d⟩:=I.pin p hp
  exact⟨(hs.2 p.1 ne).trans e,n,ne,nf,d⟩
 ·refine (I.hok b u e).stay (fun c v hc q=>(hs.2 c fun z=>?_).trans q) (fun _ q=>q) fun _ _ q=>q
  subst z
  rcases hc with z | z
  ·subst z; rw [I.free] at e; cases e
  ·rw [I.free] at z; cases z
theorem ae6 {M:Model}{A:Around}{E:Value->Shared->Prop}{K:PySem.W.Frag}{e C D:Addr}{oe:Obj}{Q:Bool->Shared->Prop} (k:K.In s.heap) (he:s.heap.get? e=some oe) (hc:oe.cls = .ref C) (h1:(PySem.W.clsIn K D).isSome=true) (h2:PySem.W.typeIn K (.ref D)=some (.type "type"))
  (h3:PySem.W.subIn K (.ref D) (.type "BaseException")=some true) (h4:PySem.W.subIn K (.ref C) (.ref D)=some true) (hq:Q true s):wpAny M A (excMatches (.ref e) (.ref D)) Q E s:=by
 obtain ⟨h,g,d,t,os⟩:=s
 have k:K.In h:=k
 have he:h.get? e=some oe:=he
 have l1:PySem.W.Looks M h (isType (.ref D)) true:=by
  unfold PySem.W.clsIn at h1
  split at h1
  ·rename_i c' d' cd' sl' ho
   intro A' Q' E' s' kk q
   unfold isType loadHead
   exact aw1 (wpAny_loadPart (kk _ _ (k _ _ ho)) (aw5 q))
  ·cases h1
 have l2:PySem.W.Looks M h (typeOf (.ref D)) (.type "type"):=PySem.W.looks_typeIn k h2
 have l3:PySem.W.Looks M h (isSubtype (.ref D) (.type "BaseException")) true:=PySem.W.looks_subIn k h3
 have l4:PySem.W.Looks M h (isSubtype (.ref C) (.ref D)) true:=PySem.W.looks_subIn k h4
 have l5:PySem.W.Looks M h (typeOf (.ref e)) (.ref C):=hc ▸ (PySem.W.Looks.ld he).andThen .now
 have l6:PySem.W.Looks M h (isInstance (.ref D) (.type "tuple")) false:=l2.andThen (PySem.W.Looks.of_pure tc_notTuple)
 have l7:PySem.W.Looks M h (isExcClass (.ref D)) true:=by
  unfold isExcClass
  exact l1.andThen (by simpa using l3)
 have f:=tc_notTuple
 unfold excMatches
 repeat (first | exact hq | (with_reducible refine l2.at ?_) | (with_reducible refine l7.at ?_) | (with_reducible refine l1.at ?_) | (with_reducible refine l3.at ?_) | (with_reducible refine l5.at ?_) | (with_reducible refine l4.at ?_) | wp_step)
end
def sB (D:cH) (i:Nat):cH:={ nx:=fun σ H=>D.nx (σ.set i none) H,rt:=D.rt,bk:=fun σ H=>D.bk (σ.set i none) H,ct:=fun σ H=>D.ct (σ.set i none) H }
section
variable {X : Cx} {pins : List (Addr × Obj)} {σ : St} {H H1 H' : Hp} {s s1 s' : Shared} {B : Heap} {a C Ch : Addr} {i : Nat} {x n : Str} {np pos hpos : Pos} {b₀ : Stmt} {suite : List Stmt} {ts : TS} {D : cH} {bT : List ExceptHandler}
structure sC (K:PySem.W.Frag) (Ch:Addr):Prop where
 c1:(PySem.W.clsIn K Ch).isSome=true
 c2:PySem.W.typeIn K (.ref Ch)=some (.type "type")
 c3:PySem.W.subIn K (.ref Ch) (.type "BaseException")=some true
theorem ae7 (I:a5 X pins σ H1 s1) (fl:j3 X.prog X.w X.stack H1 s1 H' B a C s') (hstk:X.stack=X.env :: X.outer/\X.env.frame=some X.env.locals) (hg:Gl X x) (hm:X.mg x=some (.ref Ch)) (ct:sC X.K Ch) (sub:PySem.W.subIn X.K (.ref C) (.ref Ch)=some true)
  (hN:X.N.Nodup) (hi:X.N[i]? = some n) (hl:X.env.scope.names.lookup n=some .local) (hs:cO (X.suite a) (b₀ :: suite) ts) (q:∀ oe:Obj,oe.cls = .ref C->ts (sB D i) (σ.set i (some (.ref a))) (upd H' a (.frz oe (.own a)))) (hd:(x == ("__debug__" : Str))=false) :
  wpAny (model X.prog X.w) X.A (noteFrame (.ref a) X.env) (fun _ s₂=>wpAny (model X.prog X.w) X.A (setFlight (.ref a) none) (fun _ s₃=>wpAny (model X.prog X.w) X.A (handleBy (.ref a) X.env (.ExceptHandler (some (.Name x np)) (some n) (b₀ :: suite) hpos :: bT)) (SP X pins D) X.xe s₃) X.xe s₂) X.xe s':=by
 obtain ⟨a0,fly⟩:=fl.fly
 rw [hstk.1] at fly
 refine wpAny_looks_onW (outer:=X.outer) (L:=X.env.locals) (by rw [I.ok.frames,hstk.1]) hstk.2 fly fun h4 held up4=>wpAny_landsW held fun h5 fly5 up5=>?_
 obtain ⟨o5,v5,e5,c5,_⟩:=fly5.first
 have I5:=xO I fl fly5.1 (up4.trans up5) e5
 refine wpAny_handleBy_cons (codeAny_handlers_test (kC (I5.suite a) hg hm ?_ hd)) (by intro z; cases z)
 refine ae6 I5.kIn e5 c5 ct.c1 ct.c2 ct.c3 sub ?_
 show codeAny (model X.prog X.w) (X.A.mark (some (.ref a))) (.handlers (.ref a) [.ExceptHandler none (some n) (b₀ :: suite) hpos] X.env) _ _
 refine codeAny_handlers_suite_as (lands_againW fly5 fun h6 fly6 up6=>?_)
 obtain ⟨o6,v6,e6,c6,_⟩:=fly6.first
 have I6:=xO I fl fly6.1 ((up4.trans up5).trans up6) e6
 refine oT I6 hN hi (.inl hl) (v:=.ref a) rfl (fun s7 I7=>?_) (.inr hl)
 refine aB5 (hs pins s7 _ _ (sB D i) (I7.suite a) (q o6 c6)) (fun f s8 h8=>?_) fun _ _ z=>z.elim
 show wpAny (model X.prog X.w) X.A (do bindName X.env n .none; unbindBehindTheSuite X.env n hpos) (fun _ s9=>SP X pins D f s9) X.xe s8
 cases f with
 | next=>obtain ⟨σ',H',J,q⟩:=h8; exact nU (J.unsuite I.ok) hN hi hl fun s9 J9=>⟨_,_,J9,q⟩
 | brk=>obtain ⟨σ',H',J,q⟩:=h8; exact nU (J.unsuite I.ok) hN hi hl fun s9 J9=>⟨_,_,J9,q⟩
 | cont=>obtain ⟨σ',H',J,q⟩:=h8; exact nU (J.unsuite I.ok) hN hi hl fun s9 J9=>⟨_,_,J9,q⟩
 | ret u=>obtain ⟨v,σ',H',J,r,q⟩:=h8; exact nU (J.unsuite I.ok) hN hi hl fun s9 J9=>⟨v,_,_,J9,r,q⟩
end
abbrev TB:=cH->XK->St->Hp->Prop
def XB (X:Cx) (pins:List (Addr × Obj)) (σ:St) (Ex:XK):Value->Shared->Prop:=fun e s'=>∃ H1 s1,a5 X pins σ H1 s1/\cT X.prog X.w X.stack H1 s1 Ex e s'
def PB (X:Cx) (sts:List Stmt) (t:TB):Prop:=
 ∀ (pins:List (Addr × Obj)) (s:Shared) (σ:St) (H:Hp) (D:cH) (Ex:XK),a5 X pins σ H s->t D Ex σ H->wpAny (model X.prog X.w) X.A (execs sts X.env) (SP X pins D) (XB X pins σ Ex) s
def ae8 (sp:Sp) (t:TA):TB:=fun D Ex σ H=>t σ H fun vs H1=>sp vs H1 (fun _ H2=>D.nx σ H2) Ex
section
variable {X : Cx} {k : Nat} {f Ch : Addr} {fd : FuncData} {ps : List Str} {sp : Sp} {x n : Str} {p cp pos np hpos : Pos} {e c : Expr} {es : List Expr} {t : TA} {tb ub : TB} {tc : TT} {sa sb body : List Stmt} {i : Nat} {b₀ : Stmt} {suite : List Stmt} {ts : TS}
theorem ae9 (F:bZ X.prog X.w X.K X.mg X.base (cT X.prog X.w) k f fd ps sp) (hr:bD k X.A) (hg:Gl X x) (hm:X.mg x=some (.ref f)) (hk:PySem.W.keepIn X.K (.ref f)=true) (hb:fY X.K fd ps []) (ha:∀ E,PA (X.wish E) (e :: es) t)
  (hdb:(x == ("__debug__" : Str))=false:=by decide) (he:starEach (e :: es) X.env=(false,eval e X.env) :: starEach es X.env:=by rfl) (hpl:(backTo cp (starEach es X.env)).any (·.1)=false:=by rfl) (hsw:swapsWith (.Call (.Name x p) (e :: es) [] cp) none pos.line X.env=pure false:=by rfl) :
  PB X [.Expr (.Call (.Name x p) (e :: es) [] cp) pos] (ae8 sp t):=by
 intro pins s σ H D Ex I h
 refine wpAny_execs_cons (wpAny_Expr_any ?_ I.quiet hsw)
 refine wpAny_Call_Name_kw (kC I hg hm ?_ hdb)
 refine PySem.W.callWith_K (h₀:=X.base) I.ok.mod.kin hk (aJ (ha (XB X pins σ Ex) cp pins s σ H _ (I.wish _) h) fun us s1 h1=>⟨?_,?_⟩) he hpl
 ·obtain ⟨_,_,I1,_⟩:=h1
  exact I1.kIn
 ·obtain ⟨vs,H1,I1,r,q⟩:=h1
  have I1:=I1.unwish
  have hl:us.length=ps.length:=by rw [<- r.length]; exact F.len _ _ _ _ q
  have bd:=hb s1 us I1.kIn (by rw [aD9]; exact hl)
  rw [aD9] at bd
  refine wpAny_call (codeAny_mono (F.run X.A X.stack s1 H1 ⟨us,[]⟩ us vs _ Ex hr I1.env0 bd r q) fun rs s' hq=>?_)
  cases rs with
  | error ev=>exact⟨H1,s1,I1,hq⟩
  | ok fl=>
   cases fl with
   | ret u=>
    obtain ⟨v,H2,I2,_,q2⟩:=I1.after hq
    exact wpAny_execs_nil ⟨σ,H2,I2,q2⟩
   | next=>exact False.elim hq
   | brk=>exact False.elim hq
   | cont=>exact False.elim hq
def xP (K:PySem.W.Frag) (Ch:Addr) (i:Nat) (tb:TB) (ts:TS):TS:=fun D σ H=>
 tb D (fun c _ H'=>∀ (a C:Addr) (oe:Obj),c = .ref C->H' a=none->oe.cls = .ref C->PySem.W.subIn K (.ref C) (.ref Ch)=some true/\ts (sB D i) (σ.set i (some (.ref a))) (upd H' a (.frz oe (.own a)))) σ H
theorem af0 (hstk:X.stack=X.env :: X.outer/\X.env.frame=some X.env.locals) (hb:PB X body tb) (hg:Gl X x) (hm:X.mg x=some (.ref Ch)) (ct:sC X.K Ch) (hN:X.N.Nodup) (hi:X.N[i]? = some n) (hl:X.env.scope.names.lookup n=some .local) (hs:∀ a,cO (X.suite a) (b₀ :: suite) ts)
  (hd:(x == ("__debug__" : Str))=false:=by decide):PS X (.Try body [.ExceptHandler (some (.Name x np)) (some n) (b₀ :: suite) hpos] [] [] pos) (xP X.K Ch i tb ts):=by
 intro pins s σ H D I h
 refine wpAny_Try_except (aB5 (hb pins s σ H D _ I h) (fun fl s1 q=>?_) (fun ev s1 q=>?_))
 ·cases fl with
  | next=>exact wpAny_execs_nil q
  | _=>exact q
 ·obtain ⟨H1,s2,I1,H',B,a,C,e1,fl,q⟩:=q
  subst e1
  obtain ⟨a0,fly⟩:=fl.fly
  obtain ⟨o5,_,_,c5,_⟩:=fly.first
  exact ae7 I1 fl hstk hg hm ct (q a C o5 rfl fl.fresh c5).1 hN hi hl (hs a) (fun oe hc=>(q a C oe rfl fl.fresh hc).2) hd
end
end L2
namespace L2
open PySem PySem.Spec PyProof.Rows PySem.Calls Builtin Builtin.ObjectAttr Builtin.Getset_descriptor
structure gE (K:PySem.W.Frag) (D:Addr):Prop where
 cls:(PySem.W.clsIn K D).isSome=true
 ga:PySem.W.findIn K (.ref D) "__getattribute__" = some (some (.builtin "BaseException.__getattribute__"))
 gt:PySem.W.findIn K (.ref D) "__getattr__" = some none
 fc:PySem.W.findIn K (.ref D) "__class__" = some (some (.builtin "object.__class__"))
 fg:PySem.W.specialIn K (.builtin "object.__class__") "__get__" = some (some (.builtin "getset_descriptor.__get__"))
 ft:PySem.W.takesIn K (.builtin "object.__class__")=some true
 ob:PySem.W.mroIn K D (.type "object")=some true
 be:PySem.W.mroIn K D (.type "BaseException")=some true
def iJ (h:Heap) (x D:Addr):Prop:=∃ ox:Obj,h.get? x=some ox/\ox.cls = .ref D
theorem iJ.type {h:Heap}{x D:Addr}{M:Model} (I:iJ h x D):PySem.W.Looks M h (typeOf (.ref x)) (.ref D):=by
 obtain ⟨ox,e,c⟩:=I
 exact c ▸ (PySem.W.Looks.ld e).andThen .now
section
variable {prog : Program} {w : World} {A : Around} {E : Value → Shared → Prop} {K : PySem.W.Frag} {x D : Addr} {h : Heap} {g : Array GenState} {d : Drawn} {t : Nat} {os : OsState}
theorem af1 {M:Model} (F:gE K D) (k:K.In h):PySem.W.Looks M h (find (.ref x) (.ref D) "__class__") (.bind (.builtin "getset_descriptor.__get__") (.builtin "object.__class__")):=by
 have L1:=PySem.W.looks_findIn (M:=M) k F.fc
 have L2:=PySem.W.looks_specialIn (M:=M) k F.fg
 have L3:=PySem.W.looks_takesIn (M:=M) k F.ft
 unfold find
 refine L1.andThen (PySem.W.Looks.andThen (a:=some (Value.builtin "getset_descriptor.__get__")) L2 ?_)
 refine PySem.W.Looks.andThen (a:=some (Value.builtin "getset_descriptor.__get__",Value.builtin "object.__class__")) ?_ (PySem.W.Looks.tag .now)
 unfold dataDescriptor?
 exact L3.andThen .now
theorem af2 {tp:Value}{R:Result->Shared->Prop} (F:gE K D) (k:K.In h) (I:iJ h x D) (hq:R (.ok (.ret (.ref D))) ⟨h,g,d,t,os⟩):codeAny (model prog w) A (.call (.builtin "getset_descriptor.__get__") ⟨[.builtin "object.__class__",.ref x,tp],[]⟩) R ⟨h,g,d,t,os⟩:=by
 have L0:=I.type (M:=model prog w)
 have L1:=PySem.W.looks_mroIn (M:=model prog w) k F.ob
 refine codeAny_call_builtin PySem.W.KF.slot_gs.plain PySem.W.KF.entry_gs (PySem.W.KF.slot_gs.check _ _ _ _ _ _ _ _ PySem.W.KF.type_class (PySem.W.KF.args_gs _ _ _) ?_)
 unfold Builtin.«getset_descriptor.__get__» descrGet; rw [PySem.W.dga_obj]
 refine aw1 (aw5 ?_); unfold descrGetter descrCheckInstance descrNameAndClass isInstance
 simp only [PySem.W.KF.owner_class]
 repeat lk
 refine⟨Code.quiet_builtin _ (by decide +kernel),codeAny_builtin PySem.W.KF.entry_class ?_⟩; unfold Builtin.«object.__class__» shownTypeOf
 repeat lk
 exact hq
theorem af3 {M:Model}{nameV:Value}{Q:Unit->Shared->Prop} (F:gE K D) (k:K.In h) (I:iJ h x D) (hq:Q () ⟨h,g,d,t,os⟩):wpAny M A (checkBuiltinCall "BaseException.__getattribute__" ⟨[.ref x,nameV],[]⟩) Q E ⟨h,g,d,t,os⟩:=by
 have kd:builtinKind "BaseException.__getattribute__" = some .slot:=by decide +kernel
 have sp:splitId "BaseException.__getattribute__" = some ("BaseException","__getattribute__"):=by decide +kernel
 have L:PySem.W.Looks M h (isInstance (.ref x) (.type "BaseException")) true:=(I.type (M:=M)).andThen (PySem.W.looks_mroIn k F.be)
 have ha:=PySem.F.args_bexc_ga (.ref x) nameV
 simp only [checkBuiltinCall,kd,sp]
 refine aw1 (L.at ?_)
 repeat (any_goals (first | assumption | wp_step))
theorem af4 {tk:Tok}{Q:Fin->Shared->Prop} (F:gE K D) (k:K.In h) (I:iJ h x D) (hq:Q (.done (.ret (.ref D))) ⟨h,g,d,t,os⟩):wpAny (model prog w) A (Builtin.«object.__getattribute__» ⟨[.ref x,.str "__class__" tk],[]⟩) Q E ⟨h,g,d,t,os⟩:=by
 have L0:=I.type (M:=model prog w)
 have L1:=af1 (M:=model prog w) F k (x:=x)
 refine aw1 (aw5 (aw1 (aw5 (aw1 (L0.at (aw1 (L1.at ?_)))))))
 show wpAny _ _ (holding [_] (call _ _) >>= ret) _ _ _
 exact aw1 (aH5 (wpAny_call (af2 F k I (aw5 hq))))
theorem af5 {tk:Tok}{R:Result->Shared->Prop} (F:gE K D) (k:K.In h) (I:iJ h x D) (hq:R (.ok (.ret (.ref D))) ⟨h,g,d,t,os⟩):codeAny (model prog w) A (.call (.builtin "BaseException.__getattribute__") ⟨[.ref x,.str "__class__" tk],[]⟩) R ⟨h,g,d,t,os⟩:=
 codeAny_call_builtin PySem.F.excAttr_ValueError.ga.plain PySem.F.entry_bexc_ga (af3 F k I (af4 F k I hq))
theorem af6 {Q:Option Value->Shared->Prop} (F:gE K D) (k:K.In h) (I:iJ h x D) (hq:Q (some (.ref D)) ⟨h,g,d,t+1,os⟩):wpAny (model prog w) A (getAttr? (.ref x) "__class__") Q E ⟨h,g,d,t,os⟩:=by
 have L0:=I.type (M:=model prog w)
 have L1:=PySem.W.looks_findIn (M:=model prog w) k F.ga
 have L2:=PySem.W.looks_findIn (M:=model prog w) k F.gt
 have f3:=PySem.F.excAttr_ValueError.ga.bind (.ref x)
 unfold getAttr? getAttrBy? getAttrBy
 refine aw1 (wpAny_mkText (aw1 (wpAny_attempt (aH5 (aw1 (L0.at (aw1 (L1.at ?_))))))))
 have nx:(onTheHeap (Value.ref D) && Value.builtin "BaseException.__getattribute__" == Value.builtin "object.__getattribute__")=false:=by
  rw [show (Value.builtin "BaseException.__getattribute__" == Value.builtin "object.__getattribute__")=false by decide +kernel,aG6]
 dsimp only
 rw [if_neg (by rw [nx]; decide)]
 unfold getAttrByItsOwn hookBefore
 repeat (any_goals (first | assumption | (with_reducible refine L2.at ?_) | wp_step))
 exact af5 F k I (PySem.W.handed_on rfl (aw5 hq))
end
theorem af7 {K:PySem.W.Frag}{x D:Addr} (F:gE K D):PySem.W.KitX K (.ref x) (.ref D) (fun h=>iJ h x D) where
 ty:=fun _ _ _ I=>I.type
 it:=fun M h k _=>by
  have z:=F.cls
  unfold PySem.W.clsIn at z
  split at z
  ·rename_i c' d' cd' sl' ho
   intro A' Q' E' s' kk q
   unfold isType loadHead
   exact aw1 (wpAny_loadPart (kk _ _ (k _ _ ho)) (aw5 q))
  ·cases z
 ne:=fun h tp dd its n sl k htp=>by
  have z:=F.cls
  refine aE2.mpr fun q=>?_
  obtain rfl:D=tp:=Value.ref.inj (beq_iff_eq.mp q)
  unfold PySem.W.clsIn at z
  split at z
  ·rename_i ho
   have y:=(k _ _ ho).symm.trans htp
   cases y
  ·cases z
 ca:=fun {_ _ _ _ _ s} k I q=>by
  obtain ⟨h,g,d,t,os⟩:=s
  exact af6 F k I q
end L2
namespace L2
open PySem PySem.Spec PyProof.Rows
section
variable {X : Cx} {pins : List (Addr × Obj)} {σ : St} {H H' : Hp} {s : Shared} {a : Addr}
theorem a5.reH (I:a5 X pins σ H s) (d:∀ b,b ≠ a->H' b=H b) (ha:∃ x,H a=some x) (tup:∀ xs,H a ≠ some (.tup xs)) (frz:∀ o v,X.H₀ a ≠ some (.frz o v)) (tbl:∀ ps,H a ≠ some (.tbl ps)) (hok:b9 X.prog X.w H' s.heap):a5 X pins σ H' s:=by
 have none:∀ b,H b=none->H' b=none:=fun b e=>by
  rw [d b fun z=>?_]; exact e
  obtain ⟨x,hx⟩:=ha
  rw [z,hx] at e; cases e
 refine⟨I.ok,I.os,I.bare,⟨I.base.keep,I.base.slot,fun b o e n hx=>none b (I.base.free b o e n hx),I.base.there,fun b xs q=>?_,fun b o u q=>?_,fun b ps q=>?_⟩,I.loc,I.cell,none _ I.free,fun x c e=>none c (I.freeC x c e),fun p hp=>?_,hok,I.len⟩
 ·have e:=I.base.tups b xs q
  rw [d b fun z=>tup xs (by rw [<- z]; exact e)]; exact e
 ·rw [d b fun z=>frz o u (by rw [<- z]; exact q)]; exact I.base.frzs b o u q
 ·obtain ⟨more,e⟩:=I.base.tbls b ps q
  exact⟨more,by rw [d b fun z=>tbl _ (by rw [<- z]; exact e)]; exact e⟩
 ·obtain ⟨e,n,r⟩:=I.pin p hp
  exact⟨e,none _ n,r⟩
theorem a5.thaw {o:Obj}{u:HO} (I:a5 X pins σ H s) (h:H a=some (.frz o u)) (n:∀ o v,X.H₀ a ≠ some (.frz o v)):a5 X pins σ (upd H a u) s:=by
 have own:∀ {c:Addr}{y:Addr},H c=some (.own y)->c ≠ a:=fun {c y} q z=>by rw [z,h] at q; cases q
 have tp:∀ {c:Addr}{xs:List V},H c=some (.tup xs)->c ≠ a:=fun {c xs} q z=>by rw [z,h] at q; cases q
 refine I.reH (a:=a) (fun b n=>aB n) ⟨_,h⟩ (fun xs q=>by rw [h] at q; cases q) n (fun ps q=>by rw [h] at q; cases q) fun b v q=>?_
 by_cases hb:b=a
 ·subst hb
  rw [aU] at q; cases q
  exact aZ.stay (I.hok b _ h).2 (fun _ _ _ q=>q) (fun c q=>by rw [aB (own q)]; exact q) fun c xs q=>by rw [aB (tp q)]; exact q
 ·rw [aB hb] at q
  exact (I.hok b v q).stay (fun _ _ _ q=>q) (fun c q=>by rw [aB (own q)]; exact q) fun c xs q=>by rw [aB (tp q)]; exact q
end
def xQ (a:Addr) (o:Obj) (ys:List V):It:=
 ⟨fun i H=>(∃ u,H a=some (.frz o u))/\i < ys.length,fun i H v H'=>H'=H/\ys[i]? = some v,fun i H=>(∃ u,H a=some (.frz o u))/\i=ys.length⟩
theorem af8 {P:Program}{w:World}{K:PySem.W.Frag}{tg:Expr}{o:Obj}{es:Array DictEntry}{ep:Nat}{ys:List V} (a it:Addr) (od:o.ExactDict/\o.data = .dict es ep) (vl:aL ys (es.toList.map (·.key))) :
  fE P w K tg (xQ a o ys) [it] it (fun i h=>h.IsKeyIter it a i es.size ep):=by
 have hs:es.size=ys.length:=by
  have:=vl.length
  rw [aw9,az4] at this
  exact this.symm
 refine⟨by simp,fun i h st b hb=>?_,fun i h h' st k=>st.at fun o e=>k it (by simp) o e,?_,?_,fun _ _ _ _ _ st q=>wpAny_pyIter_keyiter st q⟩
 ·obtain rfl:b=it:=by simpa using hb
  obtain ⟨o,e,c,d⟩:=st
  exact⟨o,e,fun v z=>by rw [d] at z; cases z⟩
 ·intro X hP hw hK hc i pins s σ H E I hf st hg
  subst hP hw hK
  obtain ⟨⟨u,hu⟩,hi⟩:=hg
  obtain ⟨f0,f1,f2,f3,f4,f5⟩:=hf it (by simp)
  refine Raw.turn (I.ok.hd hc) st ⟨o,(I.hok a _ hu).1,od.1,od.2⟩ (fun lt h' again sb=>?_) (fun ge=>absurd ge (by omega))
  have I1:a5 X pins σ H { s with heap:=h' }:=I.turned (t':=s.toks) (fun b o hb e=>(sb.2 b hb).trans e) f0 f1 f3 f4 f5
  have hv:=aw3 hi
  obtain ⟨key,hk,rv⟩:=vl.get hv
  obtain rfl:key=es[i].key:=by
   rw [aw8] at hk
   simp [lt] at hk
   exact hk.symm
  obtain ⟨o',e,c,d⟩:=id again
  exact⟨es[i].key,rfl,lW (s:={ s with heap:=h' }) e c d (by decide) ⟨_,H,I1,rv,⟨rfl,hv⟩,again,fun b hb=>(hf b hb).1⟩⟩
 ·intro X hP hw hK hc i pins s σ H E I hf st hg
  subst hP hw hK
  obtain ⟨⟨u,hu⟩,hi⟩:=hg
  obtain ⟨f0,f1,f2,f3,f4,f5⟩:=hf it (by simp)
  exact Raw.turn (I.ok.hd hc) st ⟨o,(I.hok a _ hu).1,od.1,od.2⟩ (fun lt=>absurd lt (by omega)) fun _ h' eb=>⟨rfl,I.turned (t':=s.toks) (fun b o hb e=>eb b o hb e) f0 f1 f3 f4 f5⟩
section
variable {X : Cx} {tg l : Expr} {tl : TE}
def xR (X:Cx) (t:TE):TE:=fun σ H Q=>t σ H fun v H'=>∃ a o u,H' a=some (.frz o u)/\(∀ o' v',X.H₀ a ≠ some (.frz o' v'))/\Q v (upd H' a u)
end
end L2
namespace Core
open PySem L2 PP
def fQ (ns:List Int):Bool:=((ns.zip (ns.drop 1)).map fun p=>decide (p.1 < p.2)).all id
theorem nV {α β:Type}{l:List α}{f:α->β}{i:Nat}{x:α} (h:l[i]? = some x):(l.take (i+1)).map f=(l.take i).map f ++ [f x]:=by
 rw [aE4,h]; simp
theorem nW:∀ {ns:List Int},fQ ns=true->ns.Pairwise (· < ·)
 | [],_=>.nil
 | [x],_=>aD1 _ _
 | x :: y :: r,h=>by
  have e:fQ (x :: y :: r)=(decide (x < y) && fQ (y :: r)):=rfl
  rw [e,az2] at h
  have ih:=nW h.2
  refine List.pairwise_cons.mpr ⟨fun z hz=>?_,ih⟩
  rcases aw7.mp hz with rfl | hz
  ·exact of_decide_eq_true h.1
  ·exact Int.lt_trans (of_decide_eq_true h.1) (List.rel_of_pairwise_cons ih hz)
theorem sD:∀ {ns:List Int},ns.Pairwise (· < ·)->fQ ns=true
 | [],_=>rfl
 | [x],_=>rfl
 | x :: y :: r,h=>by
  have e:fQ (x :: y :: r)=(decide (x < y) && fQ (y :: r)):=rfl
  have h':=List.pairwise_cons.mp h
  rw [e,sD h'.2,Bool.and_true]
  exact ay0 (h'.1 y ax6)
def kin (ws:List Int) (ls:List (Int × Int)) (S:List Int) (h:Int):Bool:=!decide (h ∈ S) && decide (ws.getD h.toNat 0<=(((b8 ls h).filter fun x=>decide (x ∈ S)).length:Int))
def nextOf (ws:List Int) (ls:List (Int × Int)) (S:List Int):List Int:=((List.range ws.length).map fun (i:Nat)=>(i:Int)).filter (kin ws ls S)
def lG (ws:List Int) (ls:List (Int × Int)) (S:List Int):Nat->List Int
 | 0=>S
 | k+1=>lG ws ls S k ++ nextOf ws ls (lG ws ls S k)
def xS (ws:List Int) (S:List Int):Nat:=(((List.range ws.length).map fun (i:Nat)=>(i:Int)).filter fun x=>!decide (x ∈ S)).length
theorem xT {α:Type} (p q:α->Bool) (h:∀ x,q x=true->p x=false):∀ L:List α,(L.filter fun x=>!p x && !q x).length+(L.filter q).length=(L.filter fun x=>!p x).length
 | []=>rfl
 | x :: r=>by
  have ih:=xT p q h r
  cases e1:p x with
  | true=>
   have e2:q x=false:=by
    cases e:q x with
    | false=>rfl
    | true=>have:=h x e; rw [e1] at this; cases this
   simp only [List.filter_cons,e1,e2,Bool.not_true,Bool.false_and,ay3,aC4]
   exact ih
  | false=>
   cases e2:q x with
   | true=>
    simp only [List.filter_cons,e1,e2,Bool.not_true,Bool.not_false,aG6,ay3,aC4,if_true,aC9]
    omega
   | false=>
    simp only [List.filter_cons,e1,e2,Bool.not_false,Bool.and_true,ay3,aC4,if_true,aC9]
    omega
def after (ws:List Int) (ls:List (Int × Int)) (S:List Int) (m:Nat):List (List Int):=(List.range m).map fun k=>nextOf ws ls (lG ws ls S k)
theorem af9 {ws ns:List Int} (hu:ns.Pairwise (· < ·)) (hin:∀ x ∈ ns,0<=x/\x < (ws.length:Int)):ns.length+xS ws ns<=ws.length:=by
 have nd:ns.Nodup:=hu.imp fun h=>Int.ne_of_lt h
 have sub:ns ⊆ ((List.range ws.length).map fun (i:Nat)=>(i:Int)).filter fun x=>decide (x ∈ ns):=fun x hx=>by
  refine List.mem_filter.mpr ⟨aB9.mpr ⟨x.toNat,aG1.mpr ?_,?_⟩,ay0 hx⟩
  ·have:=hin x hx; omega
  ·have:=hin x hx; omega
 have h1:=nd.length_le_of_subset sub
 have h2:=xT (fun _=>false) (fun x=>decide (x ∈ ns)) (fun _ _=>rfl) ((List.range ws.length).map fun (i:Nat)=>(i:Int))
 have h3:(((List.range ws.length).map fun (i:Nat)=>(i:Int)).filter fun x=>!false && !decide (x ∈ ns)).length=xS ws ns:=rfl
 have h4:(((List.range ws.length).map fun (i:Nat)=>(i:Int)).filter fun x=>!false).length<=ws.length:=by
  refine aA3 (List.length_filter_le _ _) ?_
  rw [aw9,List.length_range]; exact aw6 _
 rw [h3] at h2
 omega
def cH (ws:List Int) (ls:List (Int × Int)) (ns:List Int) (m:Nat):Prop:=(∀ k < m,nextOf ws ls (lG ws ls ns k) ≠ [])/\nextOf ws ls (lG ws ls ns m) = []
theorem jW {ns:List Int}{i:Nat}{x:PV} (h:(intz ns)[i]? = some x):∃ n,x = .int n/\ns[i]? = some n:=by
 rw [aw8] at h
 cases e:ns[i]? with
 | none=>rw [e] at h; cases h
 | some n=>rw [e] at h; exact⟨n,(ay6 h).symm,rfl⟩
theorem hV {lo:Int}{n i:Nat}{x:PV} (h:(dX lo n)[i]? = some x):x = .int (lo+i)/\i < n:=by
 have hi:i < n:=by
  have:=(ax3.mp h).1
  rwa [eY] at this
 rw [wX hi] at h
 exact⟨(ay6 h).symm,hi⟩
def rng (n:Nat):List Int:=(List.range n).map fun (i:Nat)=>(i:Int)
theorem lH (n:Nat):(rng n).length=n:=by unfold rng; rw [aw9,List.length_range]
theorem j4 {n:Nat}{x:Int}:x ∈ rng n ↔ 0<=x/\x < (n:Int):=by
 unfold rng
 rw [aB9]
 constructor
 ·rintro ⟨i,hi,rfl⟩
  have:=aG1.mp hi
  omega
 ·intro h
  exact⟨x.toNat,aG1.mpr (by omega),by omega⟩
theorem xU {α:Type}{l:List α}{p:α->Bool}{i:Nat}{x:α} (h:l[i]? = some x):(l.take (i+1)).filter p=(l.take i).filter p ++ (if p x=true then [x] else []):=by
 rw [aE4,h,List.filter_append]
 congr 1
 cases e:p x <;> simp [e]
theorem fR (a b:List Int):intz (a ++ b)=intz a ++ intz b:=aC1
theorem bH (a:List Int):(intz a).length=a.length:=aw9 _
def b5 (ws:List Int) (ls:List (Int × Int)):PV:=.tup [.tup (intz ws),.tup (ls.map fun l=>.tup [.int l.1,.int l.2])]
structure Wb (ws:List Int) (ls:List (Int × Int)):Prop where
 few:ws.length<=40
 most:ls.length<=1700
 links:∀ l ∈ ls,(0<=l.1/\l.1 < ws.length)/\0<=l.2/\l.2 < ws.length
def cU (x:PV) (ns:List Int):Prop:=x = .tup (intz ns) ∨ x = .lst (intz ns)
theorem cU.seq {x:PV}{ns:List Int} (h:cU x ns):gU x=some (intz ns):=by rcases h with rfl | rfl <;> rfl
theorem cU.seqT {x:PV}{ns:List Int} (h:cU x ns):seqT x=some (intz ns):=by rcases h with rfl | rfl <;> rfl
theorem gF:∀ (ls:List (Int × Int)),flats (ls.map fun l=>PV.tup [.int l.1,.int l.2])=true
 | []=>rfl
 | l :: r=>by
  show (flat (.tup [.int l.1,.int l.2]) && flats (r.map fun l=>PV.tup [.int l.1,.int l.2]))=true
  rw [gF r]; rfl
theorem lI (ws:List Int) (ls:List (Int × Int)):flat (b5 ws ls)=true:=by
 show flats [.tup (intz ws),.tup (ls.map fun l=>PV.tup [.int l.1,.int l.2])]=true
 show (flat (.tup (intz ws)) && (flat (.tup (ls.map fun l=>PV.tup [.int l.1,.int l.2])) && true))=true
 show (flats (intz ws) && (flats (ls.map fun l=>PV.tup [.int l.1,.int l.2]) && true))=true
 rw [cI,gF]; rfl
theorem xV (ns:List Int):flat (.tup (intz ns))=true:=cI ns
def nX:bN:=fun xs Q=>∃ ws ls,xs = [b5 ws ls]/\Q (.int ws.length)
def xW:aO:=(bF (aK dC (a7 (bQ (a6 0) (qC (.int 0))) aE)))
abbrev dN (t:aO) (N:List Str) (p:bN):Prop:=∀ xs Q,p xs Q->t { nx:=fun _=>Q .non,rt:=Q } (cS N xs)
theorem ag0:dN xW ["web"] nX:=by
 rintro xs Q ⟨ws,ls,rfl,q⟩
 refine⟨_,rfl,_,_,_,rfl,rfl,rfl,_,_,rfl,rfl,trivial,?_⟩
 rw [bH]; exact q
def sE:bN:=fun xs Q=>∃ x ns,xs = [x]/\cU x ns/\ns.length<=1000/\Q (.bl (fQ ns))
def inB (n:Nat) (x:Int):Bool:=decide (0<=x) && decide (x < (n:Int))
def nY:bN:=fun xs Q=>∃ ws ls n,xs = [b5 ws ls,.int n]/\Q (.bl (inB ws.length n))
def xX:aO:=(bF (l0 (qGe (a6 1) (qC (.int 0))) (nP (a6 1) (aK nX (a7 (a6 0) aE)))))
theorem ag1:dN xX ["web","number"] nY:=by
 rintro xs Q ⟨ws,ls,n,rfl,q⟩
 refine⟨_,rfl,_,_,rfl,rfl,_,rfl,?_⟩
 unfold inB at q
 by_cases h:(0:Int)<=n
 ·rw [ay0 h] at q ⊢
  refine b7 ⟨_,rfl,_,rfl,ws,ls,rfl,_,_,rfl,rfl,trivial,?_⟩
  simpa using q
 ·rw [ax4 h] at q ⊢
  exact aR ⟨trivial,by simpa using q⟩
def bL (n:Nat) (ns:List Int):Bool:=fQ ns && (ns.map (inB n)).all id
def nZ:bN:=fun xs Q=>∃ ws ls x ns,xs = [b5 ws ls,x]/\cU x ns/\ns.length<=1000/\Q (.bl (bL ws.length ns))
def xY:aO:=(bF (l0 (aK sE (a7 (a6 1) aE)) (aK qZ (a7 (iV (gV (a6 1)) [none,some 0] (cJ 0) iE (aK nY (a7 (a6 1) (a7 (a6 0) aE)))) aE))))
theorem xZ {x:PV}{ns:List Int} (h:cU x ns):(Slot.sh (flat x) x).tag = .rd->flat x=true:=by
 cases flat x <;> intro z <;> cases z
theorem ag2:dN xY ["web","numbers"] nZ:=by
 rintro xs Q ⟨ws,ls,x,ns,rfl,hx,hl,q⟩
 refine⟨_,rfl,x,ns,rfl,hx,hl,_,rfl,?_⟩
 unfold bL at q
 cases h:fQ ns with
 | false=>rw [h] at q; exact aR ⟨trivial,q⟩
 | true=>
  rw [h] at q
  refine b7 ⟨_,rfl,_,hx.seq,xZ hx,by rw [bH]; omega,fun i acc=>acc=(((ns.take i).map (inB ws.length)).map PV.bl),rfl,?_,?_⟩
  ·rintro i y acc hy rfl
   obtain ⟨n,rfl,hn⟩:=jW hy
   have tk:((ns.take (i+1)).map (inB ws.length)).map PV.bl=((ns.take i).map (inB ws.length)).map PV.bl ++ [PV.bl (inB ws.length n)]:=by rw [nV hn,aC1]; rfl
   exact⟨_,rfl,_,rfl,ws,ls,n,rfl,trivial,tk.symm⟩
  ·rintro acc rfl
   rw [bH,az5]
   exact⟨_,rfl,trivial,by simpa using q⟩
theorem cU.noscr {x:PV}{ns:List Int} (h:cU x ns):∀ ms,([x]:List PV) ≠ [.scr ms]:=by
 rcases h with rfl | rfl <;> intro ms z <;> cases z
structure DS (ps:List (aD × PV)) (S:List Int):Prop where
 has:∀ i:Int,(eI ps (Sum.inl i:aD)).isSome=decide (i ∈ S)
 len:ps.length<=S.length
 fl:flats (ps.map (·.2))=true
section
variable {κ : Type} [DecidableEq κ]
theorem ag3 (kvs:List (κ × PV)) (k:κ) (v:PV):(cY kvs k v).length<=kvs.length+1:=by
 unfold cY
 split
 ·rw [aw9]; omega
 ·rw [ax9,aC9,List.length_nil]; omega
end
theorem y9:∀ (xs:List PV),flats xs=true ↔ ∀ x ∈ xs,flat x=true
 | []=>by simp [flats]
 | x :: r=>by
  unfold flats
  rw [az2,y9 r]; simp
theorem ag4 {κ:Type} [DecidableEq κ] {ps:List (κ × PV)}{k:κ}{v:PV}{p:κ × PV} (h:p ∈ cY ps k v):p.2=v ∨ p ∈ ps:=by
 unfold cY at h
 split at h
 ·obtain ⟨q,hq,e⟩:=aB9.mp h
  split at e
  ·subst e; exact .inl rfl
  ·subst e; exact .inr hq
 ·rcases aA8.mp h with h | h
  ·exact .inr h
  ·rw [ay2.mp h]; exact .inl rfl
theorem ag5 {κ:Type} [DecidableEq κ] {ps:List (κ × PV)}{k:κ}{v:PV} (h:flats (ps.map (·.2))=true) (hv:flat v=true):flats ((cY ps k v).map (·.2))=true:=by
 rw [y9] at h ⊢
 intro x hx
 obtain ⟨p,hp,rfl⟩:=aB9.mp hx
 rcases ag4 hp with e | e
 ·rw [e]; exact hv
 ·exact h _ (aB9.mpr ⟨p,e,rfl⟩)
def ag6:aO:=(bF (aK dC (a7 (iV (gV (a6 0)) [none,some 1] (cJ 0) (aV (lC false (a6 0) (a6 1))) (a6 0)) aE)))
def lJ (n:Nat) (ls:List (Int × Int)):List PV:=(List.range n).map fun (k:Nat)=>PV.lst (intz (b8 ls k))
def sF:bN:=fun xs Q=>∃ ws ls,xs = [b5 ws ls]/\Wb ws ls/\Q (.lst (lJ ws.length ls))
theorem ag7 {n:Nat}{ls:List (Int × Int)}{h:Int} (h0:0<=h) (h1:h < (n:Int)):atI (lJ n ls) h=some (.lst (intz (b8 ls h))):=by
 refine mR h0 ?_
 unfold lJ
 rw [aw8,List.getElem?_range (by omega)]
 show some (PV.lst (intz (b8 ls ((h.toNat:Nat):Int))))=_
 rw [show ((h.toNat:Nat):Int)=h by omega]
theorem sG {ws:List Int}{h:Int} (h0:0<=h) (h1:h < (ws.length:Int)):atI (intz ws) h=some (.int (ws.getD h.toNat 0)):=by
 refine mR h0 ?_
 have:h.toNat < ws.length:=by omega
 rw [aw8,ax8,aw3 this]; rfl
def tups (rs:List (List Int)):List PV:=rs.map fun r=>PV.tup (intz r)
theorem jX {n:Nat}{ns:List Int} (h:bL n ns=true):fQ ns=true/\∀ x ∈ ns,0<=x/\x < (n:Int):=by
 unfold bL at h
 rw [az2,aD6] at h
 refine⟨h.1,fun x hx=>?_⟩
 have:=h.2 _ (aB9.mpr ⟨x,hx,rfl⟩)
 unfold inB at this
 simpa using this
theorem yA {n:Nat}{ns:List Int} (h:bL n ns=true):ns.length<=n:=by
 obtain ⟨h1,h2⟩:=jX h
 have:=af9 (ws:=List.replicate n (0:Int)) (nW h1) (by rw [List.length_replicate]; exact h2)
 rw [List.length_replicate] at this
 omega
end Core
namespace PP
open PySem L2
def sH:List PV->(PV->Prop)->Prop:=fun xs Q=>∃ ys:List (List Int),xs = [.lst (ys.map fun r=>PV.tup (intz r))]/\ys.length < 64/\(∀ y ∈ ys,y ≠ [])/\∀ zs:List (List Int),zs.Perm ys->zs.Pairwise (fun u v=>HT.dR v u=false)->Q (.lst (zs.map fun r=>PV.tup (intz r)))
def sI:List PV->(PV->Prop)->Prop:=fun xs Q=>∃ ps:List (List aD × PV),xs = [.dT ps]/\Q (.lst (ps.map fun p=>PV.tup (p.1.map kP)))
end PP
namespace Core
open PySem L2 PP
theorem o0 (g:Tg) (n:Int):Nw g (.int n):=by cases g <;> first | exact trivial | rfl
def hZ (x:PV) (ns:List Int):Prop:=x = .scr ns ∨ x = .lst (intz ns)
theorem hZ.seq {x:PV}{ns:List Int} (h:hZ x ns):gU x=some (intz ns):=by rcases h with rfl | rfl <;> rfl
theorem hZ.len {x:PV}{ns:List Int} (h:hZ x ns):nF x=some ns.length:=by
 rcases h with rfl | rfl
 ·rfl
 ·show some (intz ns).length=_
  rw [bH]
def gG:bN:=fun xs Q=>∃ x ns k,xs = [x,.int k]/\hZ x ns/\0<=k/\Q (.int (ns.getD k.toNat 0))
def yB:aO:=(aP (c8 (aV (nP (a6 1) (aK dC (a7 (a6 0) aE)))) (bF (bQ (a6 0) (a6 1))) c7)
 (bF (qC (.int 0))))
theorem ag8:dN yB ["script","k"] gG:=by
 rintro xs Q ⟨x,ns,k,rfl,hx,h0,q⟩
 refine⟨_,rfl,_,rfl,_,_,rfl,hx.len,_,_,rfl,rfl,_,rfl,?_⟩
 by_cases h:k < (ns.length:Int)
 ·rw [ay0 h]
  exact b7 ⟨_,rfl,_,rfl,_,_,_,hx.seq,rfl,sG h0 h,o0 _ _,q⟩
 ·rw [ax4 h]
  rw [ax8,List.getElem?_eq_none (by omega)] at q
  exact aR ⟨trivial,q⟩
def aW (ls:List (Int × Int)):List PV:=ls.map fun l=>PV.tup [.int l.1,.int l.2]
theorem sJ (ls:List (Int × Int)):(aW ls).length=ls.length:=aw9 _
def i3 (l m:Int × Int):Prop:=l.1 < m.1 ∨ (l.1=m.1/\l.2 < m.2)
structure fB (n:Int) (ls:List (Int × Int)) (a b:Int):Prop where
 inn:∀ l ∈ ls,0<=l.1/\l.1 < l.2/\l.2 < n
 ord:ls.Pairwise i3
 low:∀ l ∈ ls,i3 l (a,b)
theorem fB.mono {n a b a' b':Int}{ls:List (Int × Int)} (h:fB n ls a b) (m:a < a' ∨ (a=a'/\b<=b')):fB n ls a' b':=
 ⟨h.inn,h.ord,fun l hl=>by have:=h.low l hl; unfold i3 at *; dsimp only at *; omega⟩
theorem fB.add {n a b:Int}{ls:List (Int × Int)} (h:fB n ls a b) (h0:0<=a/\a < b/\b < n):fB n (ls ++ [(a,b)]) a (b+1):=by
 refine⟨fun l hl=>?_,?_,fun l hl=>?_⟩
 ·rcases aA8.mp hl with hl | hl
  ·exact h.inn l hl
  ·rw [ay2.mp hl]; exact h0
 ·exact List.pairwise_append.mpr ⟨h.ord,aD1 _ _,fun l hl m hm=>by rw [ay2.mp hm]; exact h.low l hl⟩
 ·rcases aA8.mp hl with hl | hl
  ·have:=h.low l hl; unfold i3 at *; dsimp only at *; omega
  ·rw [ay2.mp hl]; unfold i3; dsimp only; omega
def ag9:aO:=(aP (eW 4 (dJ aE))
 (aP (cR (gW (a6 2)) (cJ 5)
  (aP (gA 4 (bO (a6 0) (a6 3)))
  (bB 0 (cM (a6 0) (a6 3)))))
 (aP (eW 6 (dJ aE))
 (aP (cR (gW (a6 2)) (cJ 7)
  (cR (nG (fN (a6 7) (qC (.int 1))) (a6 2)) (cJ 8)
   (aP (c8 (aV (iG (bO (a6 1) (qC (.int 2))) (qC (.int 1)))) (gA 6 (dI (a7 (a6 7) (a7 (a6 8) aE)))) c7)
   (bB 1 (cM (a6 1) (qC (.int 2)))))))
 (bF (dI (a7 (aK gC (a7 (a6 4) aE)) (a7 (aK gC (a7 (a6 6) aE)) aE))))))))
abbrev si (n:Int):Option Slot:=some (.sh true (.int n))
def o4:bN:=fun xs Q=>∃ i,xs = [.int i]/\Q (.bl true)
def yC (K:PySem.W.Frag):aO:=(bF (l0 (gY K "int" (a6 0)) (qS (gY K "bool" (a6 0)))))
def lK:bN:=fun xs Q=>∃ y ns ms,xs = [.tup (intz ns),y]/\cU y ms/\ns.length<=1000/\ms.length<=1000/\Q (.bl (decide (ns=ms)))
def yD (K:PySem.W.Frag):aO:=(aP (c8 (fJ (dW (aV (gY K "tuple" (a6 0)))) (aV (lD (aK dC (a7 (a6 0) aE)) (aK dC (a7 (a6 1) aE))))) (bF (qC (.bl false))) c7)
 (aP (cR (gW (aK dC (a7 (a6 1) aE))) (cJ 2)
  (c8 (fJ (dW (aV (aK o4 (a7 (bQ (a6 0) (a6 2)) aE)))) (aV (lD (bQ (a6 0) (a6 2)) (bQ (a6 1) (a6 2))))) (bF (qC (.bl false))) c7))
 (bF (qC (.bl true)))))
theorem cU.len {x:PV}{ns:List Int} (h:cU x ns):nF x=some ns.length:=by
 rcases h with rfl | rfl <;> (show some (intz ns).length=_; rw [bH])
theorem ah0 {K:PySem.W.Frag} (kt:PySem.W.kitOne K (.type "tuple") (.type "tuple")=some true):dN (yD K) ["found","due","k"] lK:=by
 rintro xs Q ⟨y,ns,ms,rfl,hy,hn,hm,q⟩
 refine⟨_,rfl,_,_,rfl,kt,_,rfl,aR ⟨_,rfl,_,_,rfl,rfl,_,rfl,_,_,rfl,hy.len,.inl ⟨_,_,rfl,rfl,_,rfl,?_⟩⟩⟩
 rw [bH]
 by_cases hl:ns.length=ms.length
 ·show if (!decide ((ns.length:Int)=(ms.length:Int)))=true then _ else _
  rw [ay0 (by omega)]
  refine aR ⟨_,rfl,_,_,rfl,hy.len,_,rfl,by omega,by omega,fun i ρ=>∃ z,ρ = [some (.sh true (.tup (intz ns))),some (.sh (flat y) y),z]/\ns.take i=ms.take i,⟨none,?_,rfl⟩,?_,?_⟩
  ·show cS _ _=_
   unfold cS
   show [some (Slot.sh (flat (.tup (intz ns))) (.tup (intz ns))),_,_]=_
   rw [xV]
  ·rintro i z ρ hz ⟨z0,rfl,e⟩
   obtain ⟨rfl,hi⟩:=hV hz
   have i1:i < ms.length:=by simpa using hi
   have i2:i < ns.length:=by omega
   have e0:(0:Int)+(i:Int)=(i:Int):=by omega
   have a1:atI (intz ns) ((0:Int)+(i:Int))=some (.int ns[i]):=by rw [e0]; exact kO (by rw [aw8,aw3 i2]; rfl)
   have a2:atI (intz ms) ((0:Int)+(i:Int))=some (.int ms[i]):=by rw [e0]; exact kO (by rw [aw8,aw3 i1]; rfl)
   refine⟨_,rfl,_,rfl,_,_,_,rfl,rfl,a1,_,rfl,_,rfl,aR ⟨_,rfl,_,rfl,_,_,_,rfl,rfl,a1,_,rfl,_,rfl,_,_,_,hy.seq,rfl,a2,.inl ⟨_,_,rfl,rfl,_,rfl,?_⟩⟩⟩
   by_cases h:ns[i]=ms[i]
   ·show if (!decide (ns[i]=ms[i]))=true then _ else _
    rw [ay0 h]
    refine aR ⟨_,rfl,?_⟩
    rw [aE4,aE4,e,aw3 i1,aw3 i2,h]
   ·show if (!decide (ns[i]=ms[i]))=true then _ else _
    rw [ax4 h]
    refine b7 ⟨trivial,?_⟩
    rw [ax4 (fun z=>h (by subst z; rfl))] at q
    exact q
  ·rintro ρ ⟨z,rfl,e⟩
   rw [eY] at e
   have:ns=ms:=by
    have h1:ns.take ((ms.length:Int).toNat)=ns:=List.take_of_length_le (by omega)
    have h2:ms.take ((ms.length:Int).toNat)=ms:=List.take_of_length_le (by omega)
    rw [h1,h2] at e; exact e
   rw [ay0 this] at q
   exact⟨trivial,q⟩
 ·show if (!decide ((ns.length:Int)=(ms.length:Int)))=true then _ else _
  rw [ax4 (by omega)]
  refine b7 ⟨trivial,?_⟩
  rw [ax4 (fun z=>hl (by rw [z]))] at q
  exact q
theorem ah1 {K:PySem.W.Frag} (k1:PySem.W.kitOne K (.type "int") (.type "int")=some true) (k2:PySem.W.kitOne K (.type "int") (.type "bool")=some false):dN (yC K) ["found"] o4:=by
 rintro xs Q ⟨i,rfl,q⟩
 exact⟨_,rfl,_,_,rfl,k1,_,rfl,b7 ⟨_,rfl,_,_,rfl,k2,_,rfl,trivial,q⟩⟩
theorem sK {ls:List (Int × Int)}{i:Nat}{x:PV} (h:(aW ls)[i]? = some x):∃ l,x = .tup [.int l.1,.int l.2]/\ls[i]? = some l:=by
 unfold aW at h
 rw [aw8] at h
 cases e:ls[i]? with
 | none=>rw [e] at h; cases h
 | some n=>rw [e] at h; exact⟨n,(ay6 h).symm,rfl⟩
end Core
namespace PP
open PySem L2 PyProof.Rows
section
variable {X : Cx} {a b e : Expr} {ta tb te : aC} {tr : c9} {pos p2 p3 pos2 : Pos}
theorem ah2 {tA:TA} (hg:Gl X "range") (hm:X.mg "range" = none) (ha:PA X [a] tA) (hs:starEach [a] X.env = [(false,eval a X.env)]:=by rfl) :
  PE X (.Call (.Name "range" p2) [a] [] pos) (fun σ H Q=>tA σ H fun vs H1=>∃ j:Int,vs = [.int j]/\∀ r,H1 r=none->Q (.ref r) (upd H1 r (.rng 0 j))):=by
 intro pins s σ H Q I h
 refine Call_ (gJ I hg hm boot_range (aB8 (aJ (ha pos pins s σ H _ I h) fun us s1 ⟨vs,H1,I1,r1,q1⟩=>?_) hs rfl))
 obtain ⟨j,e,q⟩:=q1
 subst e
 cases r1 with
 | cons r rr=>
  cases rr
  obtain ⟨t,rfl⟩:=r
  refine call_range_1 ?_
  exact⟨.ref s1.heap.objs.size,_,I1.laid (o:=.rng 0 j) (fun b ob q=>aw2 _ q) (aw6 _) ⟨_,_,_,ax5 _ rfl⟩,rfl,q _ (I1.hok.fresh (aw6 _))⟩
theorem yE:∀ {xs:List V}{us:List Value},xs.length=us.length->(∀ (i:Nat) x u,xs[i]? = some x->us[i]? = some u->aN x u)->aL xs us
 | [],[],_,_=>.nil
 | x :: xs,u :: us,hl,h=>.cons (h 0 x u rfl rfl) (yE (by simpa using hl) fun i y w h1 h2=>h (i+1) y w (by rw [aA6]; exact h1) (by rw [aA6]; exact h2))
theorem ah3 {n:Nat}{acc:Array Value} (h:ItemsOf (fun i v=>∃ t,v = .int (0+(i:Int) * 1) t) acc n):aL (gQ 0 n) acc.toList:=by
 obtain ⟨h1,h2⟩:=h
 refine yE (by rw [pY]; simp [h1]) fun i x u hx hu=>?_
 have hi:i < n:=by
  have:=(ax3.mp hx).1
  rwa [pY] at this
 unfold gQ at hx
 rw [aw8,List.getElem?_range hi] at hx
 cases hx
 obtain ⟨t,rfl⟩:=h2 i u (by rw [<- Array.getElem?_toList]; exact hu)
 exact⟨t,by congr 1; omega⟩
theorem ah4 {K:PySem.W.Frag}{M:Addr->Prop}{H:Hp} (lo:Int) (n:Nat):Reps K M H (gQ lo n) (dX lo n):=by
 unfold gQ dX
 generalize List.range n=l
 induction l with
 | nil=>exact .nil
 | cons a r ih=>exact .cons (.int _) ih
theorem ah5:fL X sI (fun xs H Q=>∃ a kvs,xs = [.ref a]/\H a=some (.dT kvs)/\∀ l ys,H l=none->Paired (jF H) ys (kvs.map (·.1))->Q (.ref l) (upd H l (.lst ys))):=by
 rintro H vs xs Q Q' r ⟨ps,rfl,q⟩ k
 obtain ⟨v,rfl,r1⟩:=r.one
 cases r1 with
 | @dT a kvs _ m h e r2=>
  refine⟨a,kvs,rfl,h,fun l ys hl pr=>k _ _ _ (b4 hl _) (.lst hl aU ?_) q⟩
  have kv:∀ (k:List aD),Reps X.K (fun a=>H a=none) H (k.map kV) (k.map kP):=fun k=>by
   induction k with
   | nil=>exact .nil
   | cons a r ih=>exact .cons (by cases a <;> constructor) ih
  have go:∀ {ys:List V}{ks:List (List aD)},Paired (jF H) ys ks->Reps X.K (fun a=>H a=none) H ys (ks.map fun k=>PV.tup (k.map kP)):=fun {ys ks} pr=>by
   induction pr with
   | nil=>exact .nil
   | cons h t ih=>
    obtain ⟨q,rfl,hq⟩:=h
    exact .cons (.tup hq (kv _)) ih
  have e2:(ps.map fun p=>PV.tup (p.1.map kP))=(kvs.map (·.1)).map fun k=>PV.tup (k.map kP):=by rw [e,aF7]; rfl
  rw [e2]
  exact (go pr).same (b4 hl _) fun _ z=>z
theorem ah6 (B:Bt X.mg) (hc:X.calm=true) (ha:QA X [e] tr) (hg:Gl X "list":=by rfl) (he:starEach [e] X.env=(false,eval e X.env) :: starEach [] X.env:=by rfl) (hpl:(backTo pos (starEach [] X.env)).any (·.1)=false:=by rfl):QE X (.Call (.Name "list" p2) [e] [] pos) (aK sI tr):=
 rP (U3 hc) ah5 hg B.list PyProof.Rows.boot_list ha (he:=he) (hpl:=hpl)
def sL:V->Int
 | .int i=>i
 | _=>0
def j5 (H:Hp):V->List Int
 | .ref a=>match H a with
  | some (.tup us)=>us.map sL
  | _=>[]
 | _=>[]
theorem ah7 {H:Hp}{a:Addr}{ns:List Int} (h:H a=some (.tup (ns.map V.int))):j5 H (.ref a)=ns:=by
 show (match H a with | some (.tup us)=>us.map sL | _=>[])=ns
 rw [h]
 show (ns.map V.int).map sL=ns
 rw [aF7]
 exact List.map_id _
theorem yF {K:PySem.W.Frag}{M:Addr->Prop}{H:Hp}:∀ {us:List V}{ys:List (List Int)},Reps K M H us (ys.map fun r=>PV.tup (intz r))->us.map (j5 H)=ys/\∀ u ∈ us,∃ b,u = .ref b/\H b=some (.tup ((j5 H u).map V.int))
 | _,[],.nil=>⟨rfl,fun u h=>nomatch h⟩
 | _,y :: ys,.cons r t=>by
  obtain ⟨a,us,rfl,h,r1⟩:=r.sqT
  obtain rfl:=r1.ofInts
  obtain ⟨h1,h2⟩:=yF t
  have hk:=ah7 h
  refine⟨by rw [aA0,h1,hk],fun u hu=>?_⟩
  rcases aw7.mp hu with rfl | hu
  ·exact⟨a,rfl,by rw [hk]; exact h⟩
  ·exact h2 u hu
theorem yG {K:PySem.W.Frag}{M:Addr->Prop}{H:Hp}:∀ {us:List V},(∀ u ∈ us,∃ b,u = .ref b/\H b=some (.tup ((j5 H u).map V.int)))->Reps K M H us ((us.map (j5 H)).map fun r=>PV.tup (intz r))
 | [],_=>.nil
 | u :: us,h=>by
  obtain ⟨b,rfl,hb⟩:=h u ax6
  exact .cons (.tup hb (Reps.intz _)) (yG fun v hv=>h v (ax7 _ hv))
theorem ah8:fL X sH (w9 X.K):=by
 rintro H vs xs Q Q' r ⟨ys,rfl,hl,hne,q⟩ k
 obtain ⟨v,rfl,r1⟩:=r.one
 obtain ⟨a,us,rfl,_,h,r2⟩:=r1.sqL
 obtain ⟨h1,h2⟩:=yF r2
 have lr:=r2.length
 rw [aw9] at lr
 refine⟨a,us,j5 H,rfl,aH.of h,by omega,fun y hy=>?_,fun l zs hl' pm so=>?_⟩
 ·obtain ⟨b,rfl,hb⟩:=h2 y hy
  refine⟨b,rfl,aI.of hb,hne _ ?_⟩
  rw [<- h1]; exact aB9.mpr ⟨_,hy,rfl⟩
 ·have hz:∀ u ∈ zs,∃ b,u = .ref b/\H b=some (.tup ((j5 H u).map V.int)):=fun u hu=>h2 u (pm.mem_iff.mp hu)
  refine k _ _ _ (b4 hl' _) (.lst hl' aU ((yG hz).same (b4 hl' _) fun _ z=>z)) (q _ ?_ ?_)
  ·rw [<- h1]; exact pm.map _
  ·rw [aH2]; exact so
theorem ah9 (B:Bt X.mg) (ha:QA X [e] tr) (hg:Gl X "sorted":=by rfl) (he:starEach [e] X.env=(false,eval e X.env) :: starEach [] X.env:=by rfl) (hpl:(backTo pos (starEach [] X.env)).any (·.1)=false:=by rfl):QE X (.Call (.Name "sorted" p2) [e] [] pos) (aK sH tr):=
 lF T8 ah8 hg B.sorted PyProof.Rows.boot_sorted ha (he:=he) (hpl:=hpl)
end
def yH (K:PySem.W.Frag):Sp:=fun vs H Q _=>∃ (a:Addr) (ns:List Int),vs = [.ref a]/\(aI K H a (ns.map V.int) ∨ aH K H a (ns.map V.int))/\ns.length<=1000/\∀ H',a9 H H'->Q (.bl (Core.fQ ns)) H'
def yI:Sp:=fun vs H Q _=>∃ v ws ls,vs = [v]/\wC H v ws ls/\ws.length<=1000/\ls.length<=2000/\(∀ l ∈ ls,(0<=l.1/\l.1 < ws.length)/\0<=l.2/\l.2 < ws.length)/\
 ∀ (r:Addr) (bs:List Addr) (H':Hp),bs.length=ws.length->gR H H' r bs (fun k=>b8 ls k)->Q (.ref r) H'
section
variable {P : Program} {w : World} {K : PySem.W.Frag} {mg : Str → Option Value} {base : Heap} {f : Addr} {fd : FuncData} {k : Nat}
theorem ai0 (F:bZ P w K mg base cP k f fd ["things"] (yH K)) (b:fY K fd ["things"] []) (kp:PySem.W.keepIn K (.ref f)=true) (m:mg "rises" = some (.ref f)):Df P w K mg base k "rises" ["things"] Core.sE:=by
 refine⟨f,fd,F.imp fun vs H Q E h=>?_,b,kp,m⟩
 obtain ⟨xs,Qp,r,⟨x,ns,rfl,hx,hl,q⟩,k⟩:=h
 obtain ⟨v,rfl,r1⟩:=r.one
 rcases hx with rfl | rfl
 ·obtain ⟨a,us,rfl,h,r2⟩:=r1.sqT
  obtain rfl:=r2.ofInts
  exact⟨a,ns,rfl,.inl (aI.of h),hl,fun H' s=>k _ H' _ s (.bl _) q⟩
 ·obtain ⟨a,us,rfl,_,h,r2⟩:=r1.sqL
  obtain rfl:=r2.ofInts
  exact⟨a,ns,rfl,.inr (aH.of h),hl,fun H' s=>k _ H' _ s (.bl _) q⟩
theorem mU {M:Addr->Prop}{H:Hp}:∀ {us:List V}{ls:List (Int × Int)},Reps K M H us (ls.map fun l=>PV.tup [.int l.1,.int l.2])->jG H us ls
 | _,[],.nil=>.nil
 | _,l :: ls,.cons r t=>by
  obtain ⟨a,us,rfl,h,r1⟩:=r.sqT
  obtain ⟨u1,u2,rfl,q1,q2⟩:=r1.two
  cases q1; cases q2
  exact .cons ⟨a,rfl,h⟩ (mU t)
theorem ai1 {M:Addr->Prop}{H:Hp}{v:V}{ws:List Int}{ls:List (Int × Int)} (r:aA K M H v (Core.b5 ws ls)):wC H v ws ls:=by
 obtain ⟨a,us,rfl,h,r1⟩:=aA.sqT r
 obtain ⟨u1,u2,rfl,q1,q2⟩:=r1.two
 obtain ⟨p,up,rfl,hp,rp⟩:=q1.sqT
 obtain ⟨q,uq,rfl,hq,rq⟩:=q2.sqT
 obtain rfl:=rp.ofInts
 exact⟨a,p,q,uq,rfl,h,hp,hq,mU rq⟩
theorem yJ {M:Addr->Prop}{H:Hp}:∀ {bs:List Addr}{ls:List (Int × Int)} (off:Nat),(∀ b ∈ bs,M b)->(∀ (k:Nat) b,bs[k]? = some b->H b=some (.lst ((b8 ls ((off+k:Nat):Int)).map V.int)))->Reps K M H (bs.map V.ref) ((List.range' off bs.length).map fun (k:Nat)=>PV.lst (intz (b8 ls k)))
 | [],_,_,_,_=>.nil
 | b :: bs,ls,off,hm,h=>by
  refine .cons (.lst (hm b ax6) (h 0 b rfl) (Reps.intz _)) (yJ (off+1) (fun c hc=>hm c (ax7 _ hc)) fun k c hk=>?_)
  have:=h (k+1) c (by rw [aA6]; exact hk)
  rw [show off+1+k=off+(k+1) by omega]; exact this
theorem ai2 (F:bZ P w K mg base cP k f fd ["web"] yI) (b:fY K fd ["web"] []) (kp:PySem.W.keepIn K (.ref f)=true) (m:mg "near_lists" = some (.ref f)):Df P w K mg base k "near_lists" ["web"] Core.sF:=by
 refine⟨f,fd,F.imp fun vs H Q E h=>?_,b,kp,m⟩
 obtain ⟨xs,Qp,r,⟨ws,ls,rfl,wb,q⟩,k⟩:=h
 obtain ⟨v,rfl,r1⟩:=r.one
 have:=wb.few
 have:=wb.most
 refine⟨v,ws,ls,rfl,ai1 r1,by omega,by omega,wb.links,fun t bs H' hb R=>k _ H' _ R.same (.lst R.new R.row ?_) q⟩
 have:=yJ (K:=K) (M:=fun a=>H a=none) (H:=H') (bs:=bs) (ls:=ls) 0 (fun b hb=>(R.news b hb).1) fun k b hk=>by rw [Nat.zero_add]; exact R.rows k b hk
 rw [hb,<- List.range_eq_range'] at this
 exact this
end
end PP
namespace Core
open PySem L2 PP
theorem ai3 (n:Nat):dX 0 n=intz (rng n):=by
 unfold dX rng
 show _=List.map PV.int (List.map (fun (i:Nat)=>(i:Int)) (List.range n))
 rw [aF7]
 refine List.map_congr_left fun i _=>?_
 show PV.int (0+(i:Int))=PV.int (i:Int)
 rw [Int.zero_add]
def two (l:Int × Int):List Int:=[l.1,l.2]
def lM (r:List Int):Int × Int:=(r.getD 0 0,r.getD 1 0)
theorem yK (ls:List (Int × Int)):aW ls=(ls.map two).map fun r=>PV.tup (intz r):=by
 unfold aW
 rw [aF7]; rfl
theorem ai4 {zs:List (List Int)}{ls:List (Int × Int)} (h:zs.Perm (ls.map two)):∃ ls':List (Int × Int),zs=ls'.map two/\ls'.Perm ls:=by
 refine⟨zs.map lM,?_,?_⟩
 ·rw [aF7]
  have:∀ z ∈ zs,(two ∘ lM) z=z:=fun z hz=>by
   obtain ⟨l,_,rfl⟩:=aB9.mp (h.mem_iff.mp hz)
   rfl
  rw [List.map_congr_left this,List.map_id']
 ·have:=h.map lM
  rw [aF7] at this
  have e:ls.map (lM ∘ two)=ls:=by
   have:∀ l ∈ ls,(lM ∘ two) l=id l:=fun l _=>rfl
   rw [List.map_congr_left this,List.map_id]
  rw [e] at this
  exact this
theorem ai5 {ls:List (Int × Int)} (so:(ls.map two).Pairwise fun u v=>HT.dR v u=false) (nd:ls.Nodup):ls.Pairwise i3:=by
 rw [aH2] at so
 refine (List.pairwise_and_iff.mpr ⟨so,nd⟩).imp fun {a b} h=>?_
 obtain ⟨h1,h2⟩:=h
 unfold two at h1
 rw [HT.kN] at h1
 unfold i3
 by_cases e:b.1=a.1
 ·rw [if_pos e,HT.kN] at h1
  by_cases e2:b.2=a.2
  ·exact absurd (Prod.ext e.symm e2.symm) h2
  ·rw [if_neg e2] at h1
   have:=of_decide_eq_false h1
   omega
 ·rw [if_neg e] at h1
  have:=of_decide_eq_false h1
  omega
theorem ai6 (ws:List Int) (ls:List (Int × Int)):flats [.tup (intz ws),.tup (aW ls)]=true:=lI ws ls
def yL:aO:=(aP (eW 3 (dJ aE))
 (aP (cR (gW (a6 1)) (cJ 4)
  (aP (bB 5 (aK gG (a7 (a6 0) (a7 (a6 4) aE))))
  (gA 3 (bQ (dJ (a7 (bO (cM (a6 5) (qC (.int 5))) (qC (.int 4))) (a7 (bO (cM (a6 5) (qC (.int 5))) (qC (.int 3))) (a7 (bO (cM (a6 5) (qC (.int 5))) (qC (.int 6))) (a7 (bO (cM (a6 5) (qC (.int 5))) (qC (.int 61))) aE))))) (bO (a6 2) (qC (.int 4)))))))
 (aP (eW 6 (qC (.dT [])))
 (aP (cR (gV (a6 0)) (cJ 5)
  (c8 (aV (rG (a6 1) (qC (.int 1)))) (aP (bB 7 (bO (a6 5) (a6 1)))
   (aP (bB 8 (bO (cM (bO (jP (bO (a6 5) (qC (.int 1000000007))) (qC (.int 48271))) (qC (.int 2147483647))) (qC (.int 89))) (a6 1)))
   (c8 (aV (lD (a6 7) (a6 8))) (rD 6 (dI (a7 (aK r0 (a7 (a6 7) (a7 (a6 8) aE))) (a7 (aK lA (a7 (a6 7) (a7 (a6 8) aE))) aE))) (qC (.bl true))) c7))) c7))
 (bF (dI (a7 (aK gC (a7 (a6 3) aE)) (a7 (aK gC (a7 (aK sH (a7 (aK sI (a7 (a6 6) aE)) aE)) aE)) aE))))))))
theorem ai7 {a b c d:PV}{i:Int} (h0:0<=i) (h1:i < 4):∃ z,atI [a,b,c,d] i=some z/\(z=a ∨ z=b ∨ z=c ∨ z=d):=by
 have:i=0 ∨ i=1 ∨ i=2 ∨ i=3:=by omega
 rcases this with rfl | rfl | rfl | rfl
 ·exact⟨a,rfl,.inl rfl⟩
 ·exact⟨b,rfl,.inr (.inl rfl)⟩
 ·exact⟨c,rfl,.inr (.inr (.inl rfl))⟩
 ·exact⟨d,rfl,.inr (.inr (.inr rfl))⟩
theorem yM {a b c d:Int}{i:Int} (h0:0<=i) (h1:i < 4):∃ z:Int,atI [PV.int a,PV.int b,PV.int c,PV.int d] i=some (.int z)/\(z=a ∨ z=b ∨ z=c ∨ z=d):=by
 obtain ⟨z,h,e⟩:=ai7 (a:=PV.int a) (b:=PV.int b) (c:=PV.int c) (d:=PV.int d) h0 h1
 rcases e with rfl | rfl | rfl | rfl
 ·exact⟨a,h,.inl rfl⟩
 ·exact⟨b,h,.inr (.inl rfl)⟩
 ·exact⟨c,h,.inr (.inr (.inl rfl))⟩
 ·exact⟨d,h,.inr (.inr (.inr rfl))⟩
def j6 (l:Int × Int):List aD:=[Sum.inl l.1,Sum.inl l.2]
structure DL (n:Int) (ps:List (List aD × PV)) (i:Nat):Prop where
 key:∀ p ∈ ps,∃ l:Int × Int,p.1=j6 l/\0<=l.1/\l.1 < l.2/\l.2 < n
 len:ps.length<=i
 fl:flats (ps.map (·.2))=true
 nd:(ps.map (·.1)).Nodup
theorem ai8 {κ:Type} [DecidableEq κ] {ps:List (κ × PV)} (k:κ) (v:PV) (h:(ps.map (·.1)).Nodup):((cY ps k v).map (·.1)).Nodup:=by
 unfold cY
 split
 ·rw [aF7]
  have:((fun x:κ × PV=>x.1) ∘ fun kv:κ × PV=>if kv.1=k then (kv.1,v) else kv)=fun x=>x.1:=by
   funext x
   show (if x.1=k then (x.1,v) else x).1=x.1
   split <;> rfl
  rw [this]; exact h
 ·rename_i hn
  rw [aC1]
  refine List.nodup_append.mpr ⟨h,aD1 _ _,fun x hx y hy e=>hn ?_⟩
  obtain ⟨p,hp,rfl⟩:=aB9.mp hx
  rw [ay2.mp hy] at e
  exact List.any_eq_true.mpr ⟨p,hp,ay0 e⟩
theorem ai9 {κ:Type} [DecidableEq κ] {ps:List (κ × PV)}{k:κ}{v:PV}{p:κ × PV} (h:p ∈ cY ps k v):p.1=k ∨ ∃ q ∈ ps,q.1=p.1:=by
 unfold cY at h
 split at h
 ·obtain ⟨q,hq,e⟩:=aB9.mp h
  split at e
  ·subst e; exact .inr ⟨q,hq,rfl⟩
  ·subst e; exact .inr ⟨q,hq,rfl⟩
 ·rcases aA8.mp h with h | h
  ·exact .inr ⟨p,h,rfl⟩
  ·rw [ay2.mp h]; exact .inl rfl
theorem DL.put {n:Int}{ps:List (List aD × PV)}{i:Nat} (h:DL n ps i) (l:Int × Int) (hl:0<=l.1/\l.1 < l.2/\l.2 < n):DL n (cY ps (j6 l) (.bl true)) (i+1):=by
 refine⟨fun p hp=>?_,?_,ag5 h.fl rfl,ai8 _ _ h.nd⟩
 ·rcases ai9 hp with e | ⟨q,hq,e⟩
  ·exact⟨l,e,hl⟩
  ·obtain ⟨l',e',h'⟩:=h.key q hq
   exact⟨l',e ▸ e',h'⟩
 ·have:=ag3 ps (j6 l) (.bl true)
  have:=h.len
  omega
theorem DL.links {n:Int}:∀ {ps:List (List aD × PV)},(∀ p ∈ ps,∃ l:Int × Int,p.1=j6 l/\0<=l.1/\l.1 < l.2/\l.2 < n)->∃ ls:List (Int × Int),(ps.map fun p=>PV.tup (p.1.map kP))=aW ls/\(∀ l ∈ ls,0<=l.1/\l.1 < l.2/\l.2 < n)/\ls.length=ps.length/\ps.map (·.1)=ls.map j6
 | [],_=>⟨[],rfl,(fun _ h=>nomatch h),rfl,rfl⟩
 | p :: ps,h=>by
  obtain ⟨l,e,hl⟩:=h p ax6
  obtain ⟨ls,h1,h2,h3,h4⟩:=DL.links (ps:=ps) fun q hq=>h q (ax7 _ hq)
  refine⟨l :: ls,?_,fun m hm=>?_,by rw [aC9,aC9,h3],by rw [aA0,aA0,h4,e]⟩
  ·rw [aA0,h1,e]; rfl
  ·rcases aw7.mp hm with rfl | hm
   ·exact hl
   ·exact h2 m hm
theorem aj0 {x:PV}{ns:List Int} (h:hZ x ns):(Slot.sh (flat x) x).tag = .rd->flat x=true:=by
 cases flat x <;> intro z <;> cases z
theorem yN (ns:List Int) {k:Int} (h:0<=k):fM (intz ns) (some k) none=intz (ns.drop k.toNat):=by
 unfold fM
 have e1:HT.aM (intz ns).length 0 (some k)=min k.toNat (intz ns).length:=by
  have:=HT.uP (intz ns).length 0 k.toNat
  rw [show ((k.toNat:Nat):Int)=k by omega] at this
  exact this
 have e2:HT.aM (intz ns).length (intz ns).length none=(intz ns).length:=rfl
 rw [e1,e2,bH]
 rw [List.take_of_length_le (by rw [aC2,bH]; omega)]
 show _=List.map PV.int _
 rw [List.map_drop]
 by_cases hk:k.toNat<=ns.length
 ·rw [Nat.min_eq_left hk]
 ·rw [Nat.min_eq_right (by omega),List.drop_of_length_le (by rw [bH]; omega),List.drop_of_length_le (by rw [bH]; omega)]
structure sM (i:Int) (ms:List Int):Prop where
 up:ms.Pairwise (· < ·)
 inn:∀ x ∈ ms,0<=x/\x < i
 len:(ms.length:Int)<=i
theorem sM.set {n:Nat}{ms:List Int} (h:sM (n:Int) ms):bL n ms=true:=by
 unfold bL
 rw [sD h.up,Bool.true_and,aD6]
 intro b hb
 obtain ⟨x,hx,rfl⟩:=aB9.mp hb
 have:=h.inn x hx
 unfold inB
 simp [this]
def yO:bN:=fun xs Q=>∃ ns:List Int,xs = [.scr ns]/\ns.length<=63/\Q (.bl true)
structure aj1 (K:PySem.W.Frag):Prop where
 ii:PySem.W.kitOne K (.type "int") (.type "int")=some true
 ib:PySem.W.kitOne K (.type "int") (.type "bool")=some false
 tt:PySem.W.kitOne K (.type "tuple") (.type "tuple")=some true
 ll:PySem.W.kitOne K (.type "list") (.type "list")=some true
 bb:PySem.W.kitOne K (.type "bool") (.type "bool")=some true
theorem o7 (K:PySem.W.Frag):aj1 K:=by
 have same:∀ n:String,PySem.W.kitMeta n=true->True:=fun _ _=>trivial
 refine⟨?_,?_,?_,?_,?_⟩
 ·unfold PySem.W.kitOne; rw [if_pos (by decide)]
 ·have e:(if PySem.W.kitMeta "bool" = true then (fastBuiltinMro "int").map (·.contains (Value.type "bool")) else none)=some false:=by decide +kernel
  unfold PySem.W.kitOne
  rw [if_neg (by decide)]
  exact e
 ·unfold PySem.W.kitOne; rw [if_pos (by decide)]
 ·unfold PySem.W.kitOne; rw [if_pos (by decide)]
 ·unfold PySem.W.kitOne; rw [if_pos (by decide)]
end Core
namespace PP
open PySem L2 PyProof.Rows
theorem aj2 {P:Program}{w:World}{K:PySem.W.Frag}{mg:Str->Option Value}{base:Heap}{k:Nat}{x:Str}{ps N:List Str}{p:bN}{st:Stmt}{f:Addr}{fd:FuncData} (F:dH K x x st f fd) (S:FnScope N ps (aT st))
  (len:∀ xs Q,p xs Q->xs.length=ps.length)
  (body:∀ (cdv:Value) (A:Around) (outer:List Env) (s:Shared) (H:Hp) (E:XK),bD k (A.deeper (envOfC x (aT st) s.heap.objs.size f cdv))->
   ∃ t,dM (cE cP P w K mg base N x (aT st) f cdv A outer s H E).nox (dA st) t/\∀ xs Q,p xs Q->t { nx:=fun _=>Q .non,rt:=Q } (cS N xs)):bZ P w K mg base cP (k+1) f fd ps (lB K p):=by
 refine F.ok S (fun vs H Q E h=>?_) (fun cdv A outer s H vs Q E hr h=>?_)
 ·obtain ⟨xs,Qp,r,q,_⟩:=h
  rw [r.length]; exact len xs Qp q
 ·obtain ⟨xs,Qp,r,q,k⟩:=h
  obtain ⟨t,ht,hq⟩:=body cdv A outer s H E hr
  refine⟨_,ht,fun _=>False,cS N xs,_,rY r,hq xs Qp q,?_,?_,?_,?_⟩
  ·exact fun W' σ' H' ρ' e px q=>k _ _ _ px.same .non q
  ·exact fun v H' x s r q=>k _ _ _ s r q
  ·exact fun W' σ' H' ρ' e px q=>q
  ·exact fun W' σ' H' ρ' e px q=>q
def o8 (K:PySem.W.Frag):Sp:=fun vs H Q _=>∃ (a:Addr) (ns:List Int),vs = [.ref a]/\gS K H a ns/\ns.length<=63/\∀ H',Q (.bl true) H'
theorem aj3 {P:Program}{w:World}{K:PySem.W.Frag}{mg:Str->Option Value}{base:Heap}{k:Nat}{f:Addr}{fd:FuncData} (F:bZ P w K mg base cP k f fd ["script"] (lB K Core.yO)):bZ P w K mg base cP k f fd ["script"] (o8 K):=
 F.imp fun vs H Q E h=>by
  obtain ⟨a,ns,rfl,hs,hl,q⟩:=h
  refine⟨[.scr ns],fun z=>z = .bl true,.cons (.scr hs) .nil,⟨ns,rfl,hl,rfl⟩,?_⟩
  rintro v H' x _ r rfl
  cases r
  exact q H'
theorem aj4 {K:PySem.W.Frag}{H:Hp}{a:Addr}{ns:List Int} (hO:mC H) (h:aH K H a (ns.map V.int)):gS K H a ns:=by
 rcases h with (h | ⟨o,h⟩) | h
 ·rcases hO a with e | ⟨o,xs,e⟩ <;> (rw [h] at e; cases e)
 ·exact .inl ⟨o,h⟩
 ·exact .inr h
end PP
namespace PyProof.Rows
open PySem
end PyProof.Rows
namespace PP
open PySem L2 PyProof.Rows
section
variable {X : Cx} {a b e : Expr} {ta tb te : aC} {tr : c9} {pos p2 : Pos}
def o9:PV->Tg->PV->Tg->PK->Prop:=fun x _ y _ Q=>∃ xs ys,x = .lst xs/\y = .lst ys/\flats xs=true/\flats ys=true/\xs.length+ys.length<=16000000/\Q (.lst (xs ++ ys)) .fr
abbrev lN (ta tb:aC):aC:=q2 o9 ta tb
theorem aj5:eD X o9 v4:=by
 rintro W Hs H u v x y g g' Q Q' s n r1 r2 ⟨xs,ys,rfl,rfl,f1,f2,hl,q⟩ k
 obtain ⟨a,us,rfl,_,h1,q1⟩:=r1.sqL
 obtain ⟨b,ws,rfl,_,h2,q2⟩:=r2.sqL
 have l1:=q1.length
 have l2:=q2.length
 refine⟨a,b,us,ws,rfl,rfl,h1,h2,lim (by omega),fun p hp=>k _ _ _ .fr (b4 hp _) (.lst (s.free hp) aU (((q1.flat f1).append (q2.flat f2)).same (b4 hp _) fun _ z=>z)) q⟩
theorem oA (ha:QE X a ta) (hb:QE X b tb):QE X (.BinOp a .Add b pos) (lN ta tb):=iW P4 aj5 ha hb
end
end PP
namespace L2
open PySem PySem.Spec PyProof.Rows
def sN (K:PySem.W.Frag) (a:Addr):It:=
  ⟨fun i H=>∃ xs x,aH K H a xs/\xs[i]? = some x,
   fun i H v H'=>∃ T x,H T=none/\v = .ref T/\H'=upd H T (.tup [.int i,x])/\∀ xs,aH K H a xs->xs[i]? = some x,
   fun i H=>∃ xs,aH K H a xs/\xs.length<=i⟩
structure aj6 (e it a:Addr) (i:Nat) (h:Heap):Prop where
 ee:∃ old,IsEnum h e it i old
 s1:h.IsListIter it a i
theorem aj7 {P:Program}{w:World}{K:PySem.W.Frag}{elts:List Expr}{k:Nat}{pos:Pos} (a e it:Addr) (d:e ≠ it) :
  fE P w K (.Tuple elts k pos) (sN K a) [e,it] e (aj6 e it a):=by
 refine⟨by simp,fun i h st c hc=>?_,fun i h h' st kp=>?_,?_,?_,fun A i s Q E st q=>?_⟩
 ·simp only [aw7,ax1,az3] at hc
  obtain ⟨old,ee⟩:=st.ee
  obtain ⟨o1,f1,g1,d1⟩:=st.s1
  rcases hc with rfl | rfl
  ·exact⟨_,ee,fun v q=>by cases q⟩
  ·exact⟨_,f1,fun v q=>by rw [d1] at q; cases q⟩
 ·obtain ⟨old,ee⟩:=st.ee
  exact⟨⟨old,kp e (by simp) _ ee⟩,st.s1.at fun o z=>kp it (by simp) o z⟩
 ·intro X hP hw hK hc i pins s σ H E I hf st hg
  subst hP hw hK
  obtain ⟨xs,x,ha,hx⟩:=hg
  obtain ⟨us,ru,pu,lu⟩:=I.list ha
  obtain ⟨ux,eux,rux⟩:=ru.get hx
  obtain ⟨old,ee⟩:=st.ee
  refine wpAny_pyNext_enum_item ee st.s1 pu.isList (by simpa using eux) d fun h' eo it' pr sz kp=>⟨_,rfl,?_⟩
  refine wpAny_letOwnedTupleGo_enum (s:={ s with heap:=h',toks:=s.toks+1 }) eo fun g zz sb=>?_
  have hzl:e < s.heap.objs.size:=ax2 ee
  have up:∀ c o,c ≠ e->c ≠ it->s.heap.get? c=some o->g.get? c=some o:=fun c o c1 c2 z=>sb.extBut c o c1 (kp c o c1 c2 z)
  have hT:H s.heap.objs.size=none:=I.hok.fresh (aw6 _)
  have prG:g.get? s.heap.objs.size=some { cls:=.type "tuple",data:=.seq #[.int i s.toks,ux] }:=sb.extBut _ _ (aD5 hzl) pr
  have fpn:∀ c u,H c=some u->c ∉ [e,it]:=fun c u z hm=>by rw [(hf c hm).1] at z; cases z
  have upH:∀ c o u,H c=some u->s.heap.get? c=some o->g.get? c=some o:=fun c o u q z=>by
   have:=fpn c u q
   simp only [aw7,ax1,az3,not_or] at this
   exact up c o this.1 this.2 z
  have ns:∀ m,s.heap.Ns X.env.locals m->g.Ns X.env.locals m:=fun m hm=>by
   obtain ⟨o,es,ep,e1,e2⟩:=hm
   exact⟨o,es,ep,up _ o (Ne.symm (hf e (by simp)).2.1) (Ne.symm (hf it (by simp)).2.1) e1,e2⟩
  have I2:a5 X pins σ (upd H s.heap.objs.size (.tup [.int i,x])) { s with heap:=g,toks:=s.toks+1 }:=by
   refine I.step (g':=s.gens) (d':=s.drawn) (ch:=[e,it]) (fun c hc'=>?_) (fun c o _ _ hc' z _=>?_) (fun c o _ _ hc' z _=>⟨o.slots,?_⟩) (fun c o _ z n=>?_) (fun c o hc' z=>⟨o,?_⟩)
    (fun c zs z=>by rw [aB (bI z hT)]; exact z) (fun c u zs z=>by rw [aB (bI z hT)]; exact z) (fun c ps z=>⟨#[],by rw [aB (bI z hT),z]; simp⟩) ns (fun c u z=>?_) I.bare
   ·exact⟨(hf c hc').2.2.2.1,(hf c hc').2.1,(hf c hc').2.2.2.2.1,(hf c hc').2.2.2.2.2⟩
   ·simp only [aw7,ax1,az3,not_or] at hc'
    exact up c o hc'.1 hc'.2 z
   ·simp only [aw7,ax1,az3,not_or] at hc'
    exact up c o hc'.1 hc'.2 z
   ·rw [aB (ay8 (ax2 z))]; exact n
   ·simp only [aw7,ax1,az3,not_or] at hc'
    exact up c o hc'.1 hc'.2 z
   ·by_cases hcT:c=s.heap.objs.size
    ·subst hcT
     rw [aU] at z; cases z
     exact⟨by show 2<=sizeLine; decide,[.int i s.toks,ux],.cons ⟨_,rfl⟩ (.cons rux .nil),⟨_,prG,rfl,_,rfl⟩,fun u e=>by rw [prG] at e; cases e; rfl⟩
    ·rw [aB hcT] at z
     refine (I.hok c u z).stay (fun c' o' hc2 q'=>?_) (fun c' q'=>by rw [aB (bI q' hT)]; exact q') fun c' zs q'=>by rw [aB (bI q' hT)]; exact q'
     rcases hc2 with rfl | hc2
     ·exact upH _ _ _ z q'
     ·exact upH _ _ _ hc2 q'
  refine⟨.ref s.heap.objs.size,_,I2,rfl,⟨_,x,hT,rfl,rfl,fun xs' ha'=>?_⟩,⟨⟨ux,by push_cast; exact zz⟩,it'.at fun o z=>sb.extBut _ o (Ne.symm d) z⟩,fun c hc'=>?_⟩
  ·rw [I.list_inj ha' ha]; exact hx
  ·obtain ⟨o,z⟩:∃ o,s.heap.get? c=some o:=by
    simp only [aw7,ax1,az3] at hc'
    obtain ⟨o1,f1,_⟩:=st.s1
    rcases hc' with rfl | rfl
    ·exact⟨_,ee⟩
    ·exact⟨_,f1⟩
   rw [aB (ay8 (ax2 z))]; exact (hf c hc').1
 ·intro X hP hw hK hc i pins s σ H E I hf st hg
  subst hP hw hK
  obtain ⟨xs,ha,hi⟩:=hg
  obtain ⟨us,ru,pu,lu⟩:=I.list ha
  obtain ⟨old,ee⟩:=st.ee
  have hh:X.A.handled=none:=I.ok.hd hc
  have e1:=ru.length
  refine wpAny_pyNext_enum_end hh ee st.s1 pu.isList (by rw [Array.getElem?_eq_none]; simp only [aw4]; omega) fun g kp=>⟨rfl,?_⟩
  have fpn:∀ c u,H c=some u->c ∉ [e,it]:=fun c u z hm=>by rw [(hf c hm).1] at z; cases z
  have upH:∀ c o u,H c=some u->s.heap.get? c=some o->g.get? c=some o:=fun c o u q z=>by
   have:=fpn c u q
   simp only [aw7,ax1,az3,not_or] at this
   exact kp c o this.2 z
  have ns:∀ m,s.heap.Ns X.env.locals m->g.Ns X.env.locals m:=fun m hm=>by
   obtain ⟨o,es,ep,e1,e2⟩:=hm
   exact⟨o,es,ep,kp _ o (Ne.symm (hf it (by simp)).2.1) e1,e2⟩
  refine I.step (g':=s.gens) (d':=s.drawn) (ch:=[it]) (fun c hc'=>?_) (fun c o _ _ hc' z _=>?_) (fun c o _ _ hc' z _=>⟨o.slots,?_⟩) (fun c o _ z n=>n) (fun c o hc' z=>⟨o,?_⟩)
   (fun c zs z=>z) (fun c u zs z=>z) (fun c ps z=>⟨#[],by rw [z]; simp⟩) ns (fun c u z=>?_) I.bare
  ·have hm:c ∈ [e,it]:=ax7 _ hc'
   exact⟨(hf c hm).2.2.2.1,(hf c hm).2.1,(hf c hm).2.2.2.2.1,(hf c hm).2.2.2.2.2⟩
  ·exact kp c o (fun y=>hc' (by rw [y]; simp)) z
  ·exact kp c o (fun y=>hc' (by rw [y]; simp)) z
  ·exact kp c o (fun y=>hc' (by rw [y]; simp)) z
  ·refine (I.hok c u z).stay (fun c' o' hc2 q'=>?_) (fun _ q'=>q') fun _ _ q'=>q'
   rcases hc2 with rfl | hc2
   ·exact upH _ _ _ z q'
   ·exact upH _ _ _ hc2 q'
 ·obtain ⟨old,ee⟩:=st.ee
  exact wpAny_pyIter_enum ee q
end L2
namespace Zp
open PySem PyProof.Rows
section
variable {prog : Program} {w : World} {A : Around} {E : Value → Shared → Prop} {s : Shared}
theorem aj8 {e it t:Addr}{i:Nat}{items:Array Value}{x old:Value}{Q:Option Value->Shared->Prop} (he:IsEnum s.heap e it i old) (hi:s.heap.IsTupleIter it t i) (ht:s.heap.IsTuple t items) (hx:items[i]? = some x) (ne:e ≠ it)
  (q:∀ h',IsEnumOut h' e it ((i:Int)+1) x s.heap.objs.size->h'.IsTupleIter it t (i+1)->h'.get? s.heap.objs.size=some { cls:=.type "tuple",data:=.seq #[.int i s.toks,x] }->h'.objs.size=s.heap.objs.size+1->
   (∀ b o,b ≠ e->b ≠ it->s.heap.get? b=some o->h'.get? b=some o)->Q (some (.ref s.heap.objs.size)) { s with heap:=h',toks:=s.toks+1 }):wpAny (model prog w) A (pyNext (.ref e)) Q E s:=by
 have T:s.TypeIs (.ref e) "enumerate":=⟨_,he,rfl⟩
 have slot:=PySem.F.slot_enumerate_next
 unfold pyNext
 apply aw1
 apply wpAny_attempt
 apply aA5 (name:=Str.ofString "__next__") T slot
 apply aC8 slot T PySem.F.entry_enumerate_next _ (PySem.F.args_enumerate_next_1 _)
 change wpAny _ _ (field (.ref e) 2 >>= _) _ _ _
 apply aw1
 refine aA4 he rfl (x:=.ref it) rfl ?_
 apply aw1
 refine wE hi ht hx fun g1 it1 sb1=>?_
 have e1:IsEnum g1 e it i old:=sb1.extBut _ _ ne he
 change wpAny _ _ (field (.ref e) 3 >>= _) _ _ _
 apply aw1
 refine aA4 e1 rfl (x:=rawInt i) rfl ?_
 change wpAny _ _ (field (.ref e) 4 >>= _) _ _ _
 apply aw1
 refine aA4 e1 rfl (x:=.none) rfl ?_
 change wpAny _ _ (mkInt i >>= _) _ _ _
 apply aw1
 refine wpAny_mkInt ?_
 change wpAny _ _ (setField (.ref e) 3 (rawInt ((i:Int)+1)) >>= _) _ _ _
 apply aw1
 refine aB6 e1 (by simp) fun g2 e2 sb2=>?_
 apply aw1
 refine aB6 e2 (by simp) fun g3 e3 sb3=>?_
 have e3:IsEnum g3 e it ((i:Int)+1) old:=e3
 apply aw1
 refine wpAny_newTuple ?_ (by show 2<=sizeLine; decide)
 have e4:IsEnum (g3.push { cls:=.type "tuple",data:=.seq #[.int i s.toks,x] }) e it ((i:Int)+1) old:=aw2 _ e3
 have size:g3.objs.size=s.heap.objs.size:=by rw [sb3.1,sb2.1,sb1.1]
 change wpAny _ _ (Builtin.SmallTypes.ownedTupleIsFree (.ref e) >>= _) _ _ _
 apply aw1
 unfold Builtin.SmallTypes.ownedTupleIsFree
 apply aw1
 refine aA4 e4 rfl (x:=.none) rfl (aw5 ?_)
 simp only [if_true]
 apply aw1
 apply wpAny_rule
 apply aw1
 refine aA4 e4 rfl (x:=old) rfl ?_
 apply aw1
 refine aB6 e4 (by simp) fun g5 e5 sb5=>?_
 apply aw1
 unfold Builtin.SmallTypes.ownedTupleHandOut
 apply aw1
 refine aB6 e5 (by simp) fun g6 e6 sb6=>?_
 refine aB6 e6 (by simp) fun g7 e7 sb7=>?_
 have e7:IsEnumOut g7 e it ((i:Int)+1) x g3.objs.size:=e7
 have elt:e < g3.objs.size:=ax2 e3
 have up:∀ c o,c ≠ e->(g3.push { cls:=.type "tuple",data:=.seq #[.int i s.toks,x] }).get? c=some o->g7.get? c=some o:=fun c o c1 z=>sb7.extBut c o c1 (sb6.extBut c o c1 (sb5.extBut c o c1 z))
 have up3:∀ c o,c ≠ e->g1.get? c=some o->g7.get? c=some o:=fun c o c1 z=>up c o c1 (aw2 _ (sb3.extBut c o c1 (sb2.extBut c o c1 z)))
 have p7:g7.get? g3.objs.size=some { cls:=.type "tuple",data:=.seq #[.int i s.toks,x] }:=up _ _ (aD5 elt) (ax5 _ rfl)
 have s7:g7.objs.size=g3.objs.size+1:=by rw [sb7.1,sb6.1,sb5.1,aE3]
 apply aw1
 apply wpAny_letGo
 apply aw5
 rw [size] at e7 p7 s7
 refine⟨_,rfl,aw5 ?_⟩
 change Q (some (.ref g3.objs.size)) _
 rw [size]
 exact q g7 e7 (it1.at fun o z=>up3 it o (Ne.symm ne) z) p7 s7 fun b o b1 b2 z=>up3 b o b1 (sb1.extBut b o b2 z)
theorem aj9 {e it t:Addr}{i:Nat}{items:Array Value}{old:Value}{Q:Option Value->Shared->Prop} (hh:A.handled=none) (he:IsEnum s.heap e it i old) (hi:s.heap.IsTupleIter it t i) (ht:s.heap.IsTuple t items) (hx:items[i]? = none)
  (q:∀ h',Heap.ExtBut it s.heap h'->Q none { s with heap:=h' }):wpAny (model prog w) A (pyNext (.ref e)) Q E s:=by
 have T:s.TypeIs (.ref e) "enumerate":=⟨_,he,rfl⟩
 have slot:=PySem.F.slot_enumerate_next
 unfold pyNext
 apply aw1
 apply wpAny_attempt
 apply aA5 (name:=Str.ofString "__next__") T slot
 apply aC8 slot T PySem.F.entry_enumerate_next _ (PySem.F.args_enumerate_next_1 _)
 change wpAny _ _ (field (.ref e) 2 >>= _) _ _ _
 apply aw1
 refine aA4 he rfl (x:=.ref it) rfl ?_
 apply aw1
 refine wF hh hi ht hx fun g2 ex eb exo=>?_
 obtain ⟨oe,eo,co⟩:=exo
 apply aw1
 refine wpAny_isInstance (T:="StopIteration") (b:=true) ⟨oe,eo,co⟩ isSubtype_stop ?_
 exact aw5 (q g2 eb)
theorem ak0 {M:Model}{A:Around}{E:Value->Shared->Prop}{s:Shared}{α:Type}{c:Prop} [Decidable c] {m n:Sem α}{Q:α->Shared->Prop} (h1:wpAny M A m Q E s) (h2:wpAny M A n Q E s):wpAny M A (if c then m else n) Q E s:=by
 split
 ·exact h1
 ·exact h2
theorem ak1 (t:Addr) (xs:Array Value):Meets (Builtin.«enumerate.__new__» ⟨[.type "enumerate",.ref t],[]⟩) (fun _ R s=>s.heap.IsTuple t xs/\R (.ok (.ret (.ref (s.heap.objs.size+1)))) { s with heap:=(s.heap.push { cls:=.type "tuple_iterator",data:=.fields #[.ref t,.int 0 0] }).push { cls:=.type "enumerate",data:=.fields #[.none,.bool false,.ref s.heap.objs.size,rawInt 0,.none,.none] } }):=
 .of_wp fun prog w A R s h=>by
  obtain ⟨hp,g,d,tk,os⟩:=s
  obtain ⟨ht,h⟩:=h
  have sub:=sub_enumerate
  have a1:Heap.IsTuple (Shared.heap ⟨hp,g,d,tk,os⟩) t xs:=ht
  wp_walk using aG2 a1
  refine wpAny_stack_any fun st=>aw5 ?_
  refine ak0 ?_ ?_
  all_goals
   apply aw1
   refine wpAny_of_eq (a:=(Value.ref t,none)) rfl ?_
   wp_walk using aG2 a1
   have e:∀ (o:Obj) (k:Heap),(k.push o).objs.size=k.objs.size+1:=fun o k=>aE3 ..
   refine⟨_,rfl,?_⟩
   simp only [e] at h ⊢
   exact h
theorem ak2 {t:Addr}{xs:Array Value}{Q:Value->Shared->Prop} (ht:s.heap.IsTuple t xs)
  (q:∀ h',IsEnum h' (s.heap.objs.size+1) s.heap.objs.size 0 .none->h'.IsTupleIter s.heap.objs.size t 0->h'.objs.size=s.heap.objs.size+2->(∀ c o,s.heap.get? c=some o->h'.get? c=some o)->Q (.ref (s.heap.objs.size+1)) { s with heap:=h' }) :
  wpAny (model prog w) A (call (.type "enumerate") [.ref t]) Q E s:=by
 refine callType_new PySem.F.called_enumerate (by decide) (PySem.F.typeCall_enumerate_1 _) (PySem.F.newCall_enumerate_1 _) (fun obj=>PySem.F.args_object_init_2 obj _) PySem.F.entry_enumerate_new (ak1 t xs) ⟨ht,?_⟩
 have e:∀ (o:Obj) (k:Heap),(k.push o).objs.size=k.objs.size+1:=fun o k=>aE3 ..
 have g0:((s.heap.push { cls:=.type "tuple_iterator",data:=.fields #[.ref t,.int 0 0] }).push { cls:=.type "enumerate",data:=.fields #[.none,.bool false,.ref s.heap.objs.size,rawInt 0,.none,.none] }).get? s.heap.objs.size=some { cls:=.type "tuple_iterator",data:=.fields #[.ref t,.int 0 0] }:=aw2 _ (ax5 _ rfl)
 have g1:((s.heap.push { cls:=.type "tuple_iterator",data:=.fields #[.ref t,.int 0 0] }).push { cls:=.type "enumerate",data:=.fields #[.none,.bool false,.ref s.heap.objs.size,rawInt 0,.none,.none] }).get? (s.heap.objs.size+1)=some { cls:=.type "enumerate",data:=.fields #[.none,.bool false,.ref s.heap.objs.size,rawInt 0,.none,.none] }:=by
  have:=ax5 (h:=s.heap.push { cls:=.type "tuple_iterator",data:=.fields #[.ref t,.int 0 0] }) (o:={ cls:=.type "enumerate",data:=.fields #[.none,.bool false,.ref s.heap.objs.size,rawInt 0,.none,.none] }) rfl
  rw [e] at this; exact this
 exact⟨⟨_,g1,rfl⟩,q _ g1 ⟨_,g0,rfl,rfl⟩ (by rw [e,e]) fun c o z=>aw2 _ (aw2 _ z)⟩
end
end Zp
namespace L2
open PySem PySem.Spec PyProof.Rows
def sO (K:PySem.W.Frag) (a:Addr):It:=
  ⟨fun i H=>∃ xs x,aI K H a xs/\xs[i]? = some x,
   fun i H v H'=>∃ T x,H T=none/\v = .ref T/\H'=upd H T (.tup [.int i,x])/\∀ xs,aI K H a xs->xs[i]? = some x,
   fun i H=>∃ xs,aI K H a xs/\xs.length<=i⟩
structure ak3 (e it a:Addr) (i:Nat) (h:Heap):Prop where
 ee:∃ old,IsEnum h e it i old
 s1:h.IsTupleIter it a i
theorem ak4 {P:Program}{w:World}{K:PySem.W.Frag}{elts:List Expr}{k:Nat}{pos:Pos} (a e it:Addr) (d:e ≠ it) :
  fE P w K (.Tuple elts k pos) (sO K a) [e,it] e (ak3 e it a):=by
 refine⟨by simp,fun i h st c hc=>?_,fun i h h' st kp=>?_,?_,?_,fun A i s Q E st q=>?_⟩
 ·simp only [aw7,ax1,az3] at hc
  obtain ⟨old,ee⟩:=st.ee
  obtain ⟨o1,f1,g1,d1⟩:=st.s1
  rcases hc with rfl | rfl
  ·exact⟨_,ee,fun v q=>by cases q⟩
  ·exact⟨_,f1,fun v q=>by rw [d1] at q; cases q⟩
 ·obtain ⟨old,ee⟩:=st.ee
  exact⟨⟨old,kp e (by simp) _ ee⟩,st.s1.at fun o z=>kp it (by simp) o z⟩
 ·intro X hP hw hK hc i pins s σ H E I hf st hg
  subst hP hw hK
  obtain ⟨xs,x,ha,hx⟩:=hg
  obtain ⟨us,ru,pu,lu⟩:=I.tuple ha
  obtain ⟨ux,eux,rux⟩:=ru.get hx
  obtain ⟨old,ee⟩:=st.ee
  refine Zp.aj8 ee st.s1 pu (by simpa using eux) d fun h' eo it' pr sz kp=>⟨_,rfl,?_⟩
  refine wpAny_letOwnedTupleGo_enum (s:={ s with heap:=h',toks:=s.toks+1 }) eo fun g zz sb=>?_
  have hzl:e < s.heap.objs.size:=ax2 ee
  have up:∀ c o,c ≠ e->c ≠ it->s.heap.get? c=some o->g.get? c=some o:=fun c o c1 c2 z=>sb.extBut c o c1 (kp c o c1 c2 z)
  have hT:H s.heap.objs.size=none:=I.hok.fresh (aw6 _)
  have prG:g.get? s.heap.objs.size=some { cls:=.type "tuple",data:=.seq #[.int i s.toks,ux] }:=sb.extBut _ _ (aD5 hzl) pr
  have fpn:∀ c u,H c=some u->c ∉ [e,it]:=fun c u z hm=>by rw [(hf c hm).1] at z; cases z
  have upH:∀ c o u,H c=some u->s.heap.get? c=some o->g.get? c=some o:=fun c o u q z=>by
   have:=fpn c u q
   simp only [aw7,ax1,az3,not_or] at this
   exact up c o this.1 this.2 z
  have ns:∀ m,s.heap.Ns X.env.locals m->g.Ns X.env.locals m:=fun m hm=>by
   obtain ⟨o,es,ep,e1,e2⟩:=hm
   exact⟨o,es,ep,up _ o (Ne.symm (hf e (by simp)).2.1) (Ne.symm (hf it (by simp)).2.1) e1,e2⟩
  have I2:a5 X pins σ (upd H s.heap.objs.size (.tup [.int i,x])) { s with heap:=g,toks:=s.toks+1 }:=by
   refine I.step (g':=s.gens) (d':=s.drawn) (ch:=[e,it]) (fun c hc'=>?_) (fun c o _ _ hc' z _=>?_) (fun c o _ _ hc' z _=>⟨o.slots,?_⟩) (fun c o _ z n=>?_) (fun c o hc' z=>⟨o,?_⟩)
    (fun c zs z=>by rw [aB (bI z hT)]; exact z) (fun c u zs z=>by rw [aB (bI z hT)]; exact z) (fun c ps z=>⟨#[],by rw [aB (bI z hT),z]; simp⟩) ns (fun c u z=>?_) I.bare
   ·exact⟨(hf c hc').2.2.2.1,(hf c hc').2.1,(hf c hc').2.2.2.2.1,(hf c hc').2.2.2.2.2⟩
   ·simp only [aw7,ax1,az3,not_or] at hc'
    exact up c o hc'.1 hc'.2 z
   ·simp only [aw7,ax1,az3,not_or] at hc'
    exact up c o hc'.1 hc'.2 z
   ·rw [aB (ay8 (ax2 z))]; exact n
   ·simp only [aw7,ax1,az3,not_or] at hc'
    exact up c o hc'.1 hc'.2 z
   ·by_cases hcT:c=s.heap.objs.size
    ·subst hcT
     rw [aU] at z; cases z
     exact⟨by show 2<=sizeLine; decide,[.int i s.toks,ux],.cons ⟨_,rfl⟩ (.cons rux .nil),⟨_,prG,rfl,_,rfl⟩,fun u e=>by rw [prG] at e; cases e; rfl⟩
    ·rw [aB hcT] at z
     refine (I.hok c u z).stay (fun c' o' hc2 q'=>?_) (fun c' q'=>by rw [aB (bI q' hT)]; exact q') fun c' zs q'=>by rw [aB (bI q' hT)]; exact q'
     rcases hc2 with rfl | hc2
     ·exact upH _ _ _ z q'
     ·exact upH _ _ _ hc2 q'
  refine⟨.ref s.heap.objs.size,_,I2,rfl,⟨_,x,hT,rfl,rfl,fun xs' ha'=>?_⟩,⟨⟨ux,by push_cast; exact zz⟩,it'.at fun o z=>sb.extBut _ o (Ne.symm d) z⟩,fun c hc'=>?_⟩
  ·rw [I.tuple_inj ha' ha]; exact hx
  ·obtain ⟨o,z⟩:∃ o,s.heap.get? c=some o:=by
    simp only [aw7,ax1,az3] at hc'
    obtain ⟨o1,f1,_⟩:=st.s1
    rcases hc' with rfl | rfl
    ·exact⟨_,ee⟩
    ·exact⟨_,f1⟩
   rw [aB (ay8 (ax2 z))]; exact (hf c hc').1
 ·intro X hP hw hK hc i pins s σ H E I hf st hg
  subst hP hw hK
  obtain ⟨xs,ha,hi⟩:=hg
  obtain ⟨us,ru,pu,lu⟩:=I.tuple ha
  obtain ⟨old,ee⟩:=st.ee
  have hh:X.A.handled=none:=I.ok.hd hc
  have e1:=ru.length
  refine Zp.aj9 hh ee st.s1 pu (by rw [Array.getElem?_eq_none]; simp only [aw4]; omega) fun g kp=>⟨rfl,?_⟩
  have fpn:∀ c u,H c=some u->c ∉ [e,it]:=fun c u z hm=>by rw [(hf c hm).1] at z; cases z
  have upH:∀ c o u,H c=some u->s.heap.get? c=some o->g.get? c=some o:=fun c o u q z=>by
   have:=fpn c u q
   simp only [aw7,ax1,az3,not_or] at this
   exact kp c o this.2 z
  have ns:∀ m,s.heap.Ns X.env.locals m->g.Ns X.env.locals m:=fun m hm=>by
   obtain ⟨o,es,ep,e1,e2⟩:=hm
   exact⟨o,es,ep,kp _ o (Ne.symm (hf it (by simp)).2.1) e1,e2⟩
  refine I.step (g':=s.gens) (d':=s.drawn) (ch:=[it]) (fun c hc'=>?_) (fun c o _ _ hc' z _=>?_) (fun c o _ _ hc' z _=>⟨o.slots,?_⟩) (fun c o _ z n=>n) (fun c o hc' z=>⟨o,?_⟩)
   (fun c zs z=>z) (fun c u zs z=>z) (fun c ps z=>⟨#[],by rw [z]; simp⟩) ns (fun c u z=>?_) I.bare
  ·have hm:c ∈ [e,it]:=ax7 _ hc'
   exact⟨(hf c hm).2.2.2.1,(hf c hm).2.1,(hf c hm).2.2.2.2.1,(hf c hm).2.2.2.2.2⟩
  ·exact kp c o (fun y=>hc' (by rw [y]; simp)) z
  ·exact kp c o (fun y=>hc' (by rw [y]; simp)) z
  ·exact kp c o (fun y=>hc' (by rw [y]; simp)) z
  ·refine (I.hok c u z).stay (fun c' o' hc2 q'=>?_) (fun _ q'=>q') fun _ _ q'=>q'
   rcases hc2 with rfl | hc2
   ·exact upH _ _ _ z q'
   ·exact upH _ _ _ hc2 q'
 ·obtain ⟨old,ee⟩:=st.ee
  exact wpAny_pyIter_enum ee q
section
variable {X : Cx}
def yP (K:PySem.W.Frag) (ta:TA):TI:=fun σ H R=>ta σ H fun vs H1=>∃ a,vs = [.ref a]/\((∃ xs,aH K H1 a xs/\R (sN K a) H1) ∨ (∃ xs,aI K H1 a xs/\R (sO K a) H1))
theorem ak5 {elts:List Expr}{kt:Nat}{pt:Pos}{a:Expr}{ta:TA}{p pos:Pos} (hg:Gl X "enumerate") (hm:X.mg "enumerate" = none) (ha:PA X [a] ta) (hs:starEach [a] X.env = [(false,eval a X.env)]:=by rfl) :
  PI X (.Tuple elts kt pt) (.Call (.Name "enumerate" p) [a] [] pos) (yP X.K ta):=by
 intro pins s σ H R I h
 refine Call_ (gJ I hg hm PyProof.Rows.boot_enumerate (aB8 (aJ (ha pos pins s σ H _ I h) fun us s1 ⟨vs,H1,I1,r1,q1⟩=>?_) (by rw [hs]; rfl) (by rfl)))
 obtain ⟨a',e,q⟩:=q1
 subst e
 have fresh:∀ k,H1 (s1.heap.objs.size+k)=none:=fun k=>I1.hok.fresh (aB2 _ _)
 cases r1 with
 | cons r rr=>
  cases rr
  cases r
  rcases q with ⟨xs,h1,q⟩ | ⟨xs,h1,q⟩
  ·obtain ⟨us,_,p1,_⟩:=I1.list h1
   refine call_enumerate_list p1.isList fun h' z s1' sz kp=>wpAny_pyIter_enum z ?_
   refine⟨s1.heap.objs.size+1,[s1.heap.objs.size+1,s1.heap.objs.size],_,_,H1,rfl,I1.kept (t':=s1.toks) kp,
    aj7 a' _ _ (Nat.succ_ne_self _),⟨⟨_,z⟩,s1'⟩,fun c hc=>?_,q⟩
   simp only [aw7,ax1,az3] at hc
   rcases hc with rfl | rfl
   ·exact I1.fpOk (aB2 _ _) (fresh 1)
   ·exact I1.fpOk (aw6 _) (fresh 0)
  ·obtain ⟨us,_,p1,_⟩:=I1.tuple h1
   refine Zp.ak2 p1 fun h' z s1' sz kp=>wpAny_pyIter_enum z ?_
   refine⟨s1.heap.objs.size+1,[s1.heap.objs.size+1,s1.heap.objs.size],_,_,H1,rfl,I1.kept (t':=s1.toks) kp,
    ak4 a' _ _ (Nat.succ_ne_self _),⟨⟨_,z⟩,s1'⟩,fun c hc=>?_,q⟩
   simp only [aw7,ax1,az3] at hc
   rcases hc with rfl | rfl
   ·exact I1.fpOk (aB2 _ _) (fresh 1)
   ·exact I1.fpOk (aw6 _) (fresh 0)
end
end L2
namespace PP
open PySem L2 PyProof.Rows
def i4 (xs:List PV):List PV:=xs.mapIdx fun i x=>PV.tup [.int (i:Int),x]
theorem sP (xs:List PV):(i4 xs).length=xs.length:=by unfold i4; rw [List.length_mapIdx]
theorem yQ {xs:List PV}{i:Nat}{x:PV} (h:xs[i]? = some x):(i4 xs)[i]? = some (.tup [.int (i:Int),x]):=by
 unfold i4; rw [List.getElem?_mapIdx,h]; rfl
theorem ak6 {xs:List PV}{i:Nat}{z:PV} (h:(i4 xs)[i]? = some z):∃ x,xs[i]? = some x/\z = .tup [.int (i:Int),x]:=by
 unfold i4 at h
 rw [List.getElem?_mapIdx] at h
 cases e:xs[i]? with
 | none=>rw [e] at h; cases h
 | some x=>rw [e] at h; exact⟨x,rfl,(ay6 h).symm⟩
def sQ (te:aC):dL:=fun ρ Q=>te ρ fun x g=>∃ xs,(x = .lst xs ∨ x = .tup xs)/\(g = .rd->flat x=true)/\Q (i4 xs) (iT g xs)
theorem ak7 {K:PySem.W.Frag}{H0:Hp}{W:Addr->Prop}{g:Bool}{H1:Hp}{a:Addr}{us:List V}{xs:List PV} (tw:∀ a,W a->∃ o,H1 a=some o/\fH o=true) (ha:∀ W' H',Ev W H1 W' H'->aH K H' a us) (r:Reps K (Ms H0 W g) H1 us xs):jK K H0 W g H1 (sN K a) (i4 xs):=by
 have lr:=r.length
 have ll:=sP xs
 refine⟨fun W' H' i e hi=>⟨us,us[i]'(by omega),ha W' H' e,by simp⟩,fun W' H' i v H2 e y hi=>?_,fun W' H' e=>⟨us,ha W' H' e,by omega⟩⟩
 obtain ⟨T,x,hT,rfl,rfl,y⟩:=y
 obtain ⟨z,hz,rz⟩:=r.get (y us (ha W' _ e))
 have sm:=b4 hT (HO.tup [.int (i:Int),x])
 exact⟨sm,_,yQ hz,.tup aU (.cons (.int _) (.cons ((rz.keep (e.keep tw)).same sm fun _ q=>q) .nil))⟩
theorem ak8 {K:PySem.W.Frag}{H0:Hp}{W:Addr->Prop}{g:Bool}{H1:Hp}{a:Addr}{us:List V}{xs:List PV} (tw:∀ a,W a->∃ o,H1 a=some o/\fH o=true) (ha:∀ W' H',Ev W H1 W' H'->aI K H' a us) (r:Reps K (Ms H0 W g) H1 us xs):jK K H0 W g H1 (sO K a) (i4 xs):=by
 have lr:=r.length
 have ll:=sP xs
 refine⟨fun W' H' i e hi=>⟨us,us[i]'(by omega),ha W' H' e,by simp⟩,fun W' H' i v H2 e y hi=>?_,fun W' H' e=>⟨us,ha W' H' e,by omega⟩⟩
 obtain ⟨T,x,hT,rfl,rfl,y⟩:=y
 obtain ⟨z,hz,rz⟩:=r.get (y us (ha W' _ e))
 have sm:=b4 hT (HO.tup [.int (i:Int),x])
 exact⟨sm,_,yQ hz,.tup aU (.cons (.int _) (.cons ((rz.keep (e.keep tw)).same sm fun _ q=>q) .nil))⟩
section
variable {X : Cx} {σ : L2.St} {H : Hp} {te : aC} {R : It → Hp → Prop}
theorem ak9 (h:LI X (sQ te) σ H R):yP X.K (i8 (LE X te) iO) σ H R:=by
 obtain ⟨W,ρ,Q,px,q,k⟩:=h
 refine⟨W,ρ,_,px,q,?_⟩
 rintro v H1 x g s r ⟨xs,hx,hg,q⟩
 have px1:=px.mono s
 have tw:∀ a,W a->∃ o,H1 a=some o/\fH o=true:=fun a z=>(px1.wm a z).2
 rcases hx with rfl | rfl
 ·obtain ⟨a,us,rfl,m,h,r⟩:=r.sqL
  have wa : ¬ W a:=by
   cases g with
   | fr=>exact (px.new m).1
   | nw=>exact m.1
   | sh=>exact m
   | rd=>have:=hg rfl; unfold flat at this; cases this
  exact⟨a,rfl,.inl ⟨us,aH.of h,k _ _ _ _ s (ak7 tw (fun W' H' e=>aH.of (e _ _ h wa).1) (jL px (fun z=>by have:=hg z; unfold flat at this; cases this) r)) q⟩⟩
 ·obtain ⟨a,us,rfl,h,r⟩:=r.sqT
  refine⟨a,rfl,.inr ⟨us,aI.of h,k _ _ _ _ s (ak8 tw (fun W' H' e=>aI.of (e _ _ h fun z=>?_).1) (jL px (fun z=>by have:=hg z; unfold flat at this; exact this) r)) q⟩⟩
  obtain ⟨o,h',mu⟩:=tw _ z; rw [h] at h'; cases h'; cases mu
theorem al0 {elts:List Expr}{kt:Nat}{pt p2 pos:Pos}{a:Expr}{ta:aC} (hg:Gl X "enumerate") (hm:X.mg "enumerate" = none) (ha:QE X a ta) (hs:starEach [a] X.env = [(false,eval a X.env)]:=by rfl):QI X (.Tuple elts kt pt) (.Call (.Name "enumerate" p2) [a] [] pos) (sQ ta):=
 nR (ak5 hg hm (cD ha cV hs) hs) fun _ _ _=>ak9
end
section
variable {X : Cx} {e : Expr} {te : aC} {pos p2 : Pos} {scope : Scope} {N : List Str} {fr : List (Option Nat)} {x y : Str} {tp xp yp : Pos} {kt : Nat} {iter elt : Expr} {ti : dL}
abbrev oB (x y:Str) (xp yp:Pos) (kt:Nat) (tp:Pos):Expr:=.Tuple [.Name x xp,.Name y yp] kt tp
theorem al1 {ifs:List Expr}{tcs:bM} (hc:X.calm=true) (he:∀ (s:Shared) (H:Hp) (C:Addr) (fp:List Addr),QE (bA X scope N s H C fp cB) elt te) (hi:∀ (s:Shared) (H:Hp) (C:Addr) (fp:List Addr),iB (bA X scope N s H C fp cB) ifs (LT (bA X scope N s H C fp cB) tcs))
  (hN:N.Nodup) (h0:N[0]? = some x) (h1:N[1]? = some y) (hl:∀ (s:Shared) (H:Hp) (C:Addr) (fp:List Addr),(bA X scope N s H C fp cB).env.scope.names.lookup x=some .local) (hl2:∀ (s:Shared) (H:Hp) (C:Addr) (fp:List Addr),(bA X scope N s H C fp cB).env.scope.names.lookup y=some .local) (s:Shared) (H:Hp) :
  jE X scope N (oB x y xp yp kt tp) ifs elt s H (jC X.K 2 (fD (bY 0) (fD (bY 1) jB))) (LT (X.frm H) tcs) (LE (X.frm H) te):=
 ⟨fun C fp=>kF (X:=bA X scope N s H C fp cB) hc (fW (e9 hN h0 (.inl (hl s H C fp)) (.inr (hl s H C fp))) (fW (e9 hN h1 (.inl (hl2 s H C fp)) (.inr (hl2 s H C fp))) kE)),fun C fp=>hi s H C fp,fun C fp=>he s H C fp⟩
theorem al2 {c:Expr}{tcs:bM}{i:Nat}{z:Str}{zp:Pos} (nd:X.N.Nodup) (hi:QI X (oB x y xp yp kt tp) iter ti) (ht:∀ (s:Shared) (H:Hp) (C:Addr) (fp:List Addr),QT (bA X scope N s H C fp cB) c tcs) (he:∀ (s:Shared) (H:Hp) (C:Addr) (fp:List Addr),QE (bA X scope N s H C fp cB) elt te)
  (hz:X.N[i]? = some z:=by rfl) (hzl:X.env.scope.names.lookup z=some .local:=by rfl) (hsw:swapsWith (.ListComp elt [⟨oB x y xp yp kt tp,iter,[c],0⟩] scope p2) (some (.Name z zp)) pos.line X.env=pure true:=by rfl)
  (hc:X.calm=true:=by rfl) (S:cF X scope N fr:=by exact cF.of rfl rfl) (hN:N.Nodup:=by decide +kernel) (h0:N[0]? = some x:=by rfl) (h1:N[1]? = some y:=by rfl) (hl:∀ (s:Shared) (H:Hp) (C:Addr) (fp:List Addr),(bA X scope N s H C fp cB).env.scope.names.lookup x=some .local:=by intro _ _ _ _; rfl) (hl2:∀ (s:Shared) (H:Hp) (C:Addr) (fp:List Addr),(bA X scope N s H C fp cB).env.scope.names.lookup y=some .local:=by intro _ _ _ _; rfl) (hf:fr[0]? = some none:=by rfl) (hf2:fr[1]? = some none:=by rfl)
  (hs:∀ x,foldedSetIterable iter X.env x=pure x:=by intro _; rfl):QS X (.Assign [.Name z zp] (.ListComp elt [⟨oB x y xp yp kt tp,iter,[c],0⟩] scope p2) pos) (bB i (iV ti fr (iU 0 1) tcs te)):=
 eJ (vQ (gh:=fun _=>jC X.K 2 (fD (bY 0) (fD (bY 1) jB))) (tch:=fun H=>LT (X.frm H) tcs) (teh:=fun H=>LE (X.frm H) te) hc S hi (al1 hc he (fun s H C fp=>vM (ht s H C fp)) hN h0 h1 hl hl2) nd hz hzl hsw hs) fun D σ H h=>r6 (wZ _ 0 1) (fun i e=>by rcases e with e | e <;> (subst e; assumption)) (qW h)
end
end PP
namespace Core
open PySem L2 PP
section
variable {ws : List Int} {ls : List (Int × Int)} {os ns : List Int}
def al3 (ws:List Int) (ls:List (Int × Int)) (T:List Int):Prop:=∀ h ∈ rng ws.length,kin ws ls T h=false
end
theorem al4 {i:Nat}{h:Int}{g:Bool}{ρ:aX}{Q:aX->Prop} (q:Q (ρ.set i (some (.sh true (.int h))))):cJ i (.int h) g ρ Q:=by
 show Q (ρ.set i (some (.sh (g || true) (.int h))))
 rw [Bool.or_true]; exact q
def bW (ns S:List Int):Int:=(ns.length:Int) - (((ns.filter fun x=>decide (x ∈ S)).length:Nat):Int)
def al5 (ws:List Int) (ls:List (Int × Int)) (S:List Int) (h:Int):Bool:=decide (bW (b8 ls h) S < ws.getD h.toNat 0)
def stay (ws:List Int) (ls:List (Int × Int)) (S:List Int):List Int:=S.filter (al5 ws ls S)
section
variable {ws : List Int} {ls : List (Int × Int)} {ns : List Int}
theorem al6 (wb:Wb ws ls) {h x:Int} (hx:x ∈ b8 ls h):x ∈ rng ws.length:=by
 unfold b8 at hx
 obtain ⟨l,hl,hx⟩:=List.mem_flatMap.mp hx
 have:=wb.links l hl
 rcases aA8.mp hx with hx | hx
 ·split at hx
  ·rw [ay2.mp hx]; exact j4.mpr this.2
  ·cases hx
 ·split at hx
  ·rw [ay2.mp hx]; exact j4.mpr this.1
  ·cases hx
end
theorem al7 {xs:List PV}{w:Int} (h:0<=w):fM xs none (some w)=xs.take w.toNat:=by
 unfold fM
 rw [HT.M4,List.drop_zero,Nat.sub_zero]
 have:HT.aM xs.length xs.length (some w)=min w.toNat xs.length:=by
  show (if w < 0 then (w+(xs.length:Int)).toNat else min w.toNat xs.length)=_
  rw [if_neg (by omega)]
 rw [this,<- List.take_take,az5]
theorem qG {ls:List (Int × Int)}{wts:List Int} (e:wts.length=ls.length):(ls.zip wts).map (·.2)=wts:=by
 rw [List.map_snd_zip]; omega
theorem al8 (n:Nat):(rng n).Pairwise (· < ·):=by
 unfold rng
 rw [aH2]
 exact (List.pairwise_lt_range (n:=n)).imp fun h=>by omega
section
variable {ws : List Int} {ls : List (Int × Int)} {ns wts : List Int} {m : Nat}
def loose (ls:List (Int × Int)) (wts ns:List Int):List ((Int × Int) × Int):=(ls.zip wts).filter fun z=>!(decide (z.1.1 ∈ ns) && decide (z.1.2 ∈ ns))
end
end Core
set_option maxHeartbeats 1000000
set_option maxHeartbeats 1000000
set_option maxHeartbeats 1000000
set_option maxHeartbeats 1000000
namespace PP
open PySem L2 PyProof.Rows
abbrev eN:=(Str->Prop)->bN
def EX (K:PySem.W.Frag) (H0:Hp) (Ep:Str->Prop):XK:=fun c d H'=>d=none/\a9 H0 H'/\∃ n C,c = .ref C/\PySem.W.nsIn K mainGlobals n=some (some (.ref C))/\Ep n
def yR (K:PySem.W.Frag) (p:eN):Sp:=fun vs H Q E=>∃ xs Qp Ep,Reps K (fun _=>True) H vs xs/\p Ep xs Qp/\(∀ v H' x,a9 H H'->aA K (fun a=>H a=none) H' v x->Qp x->Q v H')/\
 ∀ n C H',a9 H H'->PySem.W.nsIn K mainGlobals n=some (some (.ref C))->Ep n->E (.ref C) none H'
structure dO (P:Program) (w:World) (K:PySem.W.Frag) (mg:Str->Option Value) (base:Heap) (k:Nat) (x:Str) (ps:List Str) (p:eN):Prop where
 ex:∃ f fd,bZ P w K mg base (cT P w) k f fd ps (yR K p)/\fY K fd ps []/\PySem.W.keepIn K (.ref f)=true/\mg x=some (.ref f)
section
variable {X : Cx} {σ : L2.St} {H : Hp} {D : cH} {tr : c9} {Q' : VK} {a b c e : Expr} {es : List Expr} {pos p2 cp np hp : Pos} {t : aO} {te : aC} {tc : bM}
def sR (Ep:Str->Prop) (p:eN) (t:c9):aC:=aK (p Ep) t
theorem yS {p:eN}{Ep:Str->Prop} (h:LE X (sR Ep p tr) σ H Q'):pA (yR X.K p) [] (EX X.K X.H₀ Ep) (LA X tr) σ H Q':=by
 obtain ⟨W,ρ,Q,px,q,k⟩:=h
 refine⟨W,ρ,_,px,q,fun vs H1 xs s1 r1 q1=>⟨_,_,Ep,by rw [aD9]; exact r1.any,q1,fun v H' x s2 r2 q2=>k v H' x .fr (s1.trans s2) (r2.same (a9.refl _) fun _ z=>s1.free z) q2,fun n C H' s2 z1 z2=>⟨rfl,(px.same.trans s1).trans s2,n,C,rfl,z1,z2⟩⟩⟩
theorem al9 {Ep:Str->Prop}{k j:Nat}{x:Str}{ps:List Str}{p:eN} (hX:jV X (EX X.K X.H₀ Ep)) (d:dO X.prog X.w X.K X.mg X.base k x ps p) (hr:bD j X.A) (ha:QA X (e :: es) tr) (hkj:k<=j:=by decide) (hg:Gl X x:=by rfl) (hdb:(x == ("__debug__" : Str))=false:=by decide)
  (he:starEach (e :: es) X.env=(false,eval e X.env) :: starEach es X.env:=by rfl) (hpl:(backTo pos (starEach es X.env)).any (·.1)=false:=by rfl):QE X (.Call (.Name x p2) (e :: es) [] pos) (sR Ep p tr):=by
 obtain ⟨f,fd,F,b,kp,m⟩:=d.ex
 exact bG (pB F (hr.mono hkj) hg m kp b .nil hX.pass ha hdb he hpl) fun _ _ _=>yS
theorem sS {k j:Nat}{x:Str}{ps:List Str}{p:eN} (d:dO X.prog X.w X.K X.mg X.base k x ps p) (hr:bD j X.A) (ha:QA X (e :: es) tr) (hkj:k<=j:=by decide) (hg:Gl X x:=by rfl) (hdb:(x == ("__debug__" : Str))=false:=by decide)
  (he:starEach (e :: es) X.env=(false,eval e X.env) :: starEach es X.env:=by rfl) (hpl:(backTo pos (starEach es X.env)).any (·.1)=false:=by rfl):QE X (.Call (.Name x p2) (e :: es) [] pos) (aK (p fun _=>False) tr):=by
 obtain ⟨f,fd,F,b,kp,m⟩:=d.ex
 refine bG (pB F (E:=EX X.K X.H₀ fun _=>False) (hr.mono hkj) hg m kp b .nil (fun _ _ _ _ _ _ _ h=>?_) ha hdb he hpl) fun _ _ _ h=>yS (Ep:=fun _=>False) h
 obtain ⟨_,_,_,_,_,_,_,_,_,_,_,_,z⟩:=h
 exact z.elim
def sT (Ep:Str->Prop) (n:Str) (t:c9):aO:=fun _ ρ=>t ρ fun xs=>xs.length<=1000/\Ep n
theorem am0 {Ep:Str->Prop}{n:Str}{C:Addr} (hn:PySem.W.nsIn X.K mainGlobals n=some (some (.ref C))) (h:LS X (sT Ep n tr) D σ H):xN (EX X.K X.H₀ Ep) C (LA X tr) D σ H:=by
 obtain ⟨W,ρ,D',px,q,k⟩:=h
 exact⟨W,ρ,_,px,q,fun vs H1 xs s1 r z=>⟨by rw [r.length]; exact nC z.1,rfl,px.same.trans s1,n,C,rfl,hn,z.2⟩⟩
structure Xc (K:PySem.W.Frag) (mg:Str->Option Value) (base:Heap) (n:Str):Prop where
 ex:∃ C B newId initId bm,OwnCls n C bm newId mg base/\ExcBaseFacts B newId initId bm/\PySem.W.nsIn K mainGlobals n=some (some (.ref C))
theorem am1 {Ep:Str->Prop}{n:Str} (hX:jV X (EX X.K X.H₀ Ep)) (x:Xc X.K X.mg X.base n) (ha:QA X (e :: es) tr) (hc:X.calm=true:=by rfl) (hg:Gl X n:=by rfl) (hd:(n == ("__debug__" : Str))=false:=by decide)
  (he:starEach (e :: es) X.env=(false,eval e X.env) :: starEach es X.env:=by rfl) (hpl:(backTo cp (starEach es X.env)).any (·.1)=false:=by rfl):QS X (.Raise (some (.Call (.Name n np) (e :: es) [] cp)) none pos) (sT Ep n tr):=by
 obtain ⟨C,B,newId,initId,bm,O,FB,hn⟩:=x.ex
 exact eJ (ae5 hX hc O FB ha hg hd he hpl) fun _ _ _=>am0 hn
abbrev jY:=iD->(Str->Prop)->aX->Prop
def LB (X:Cx) (t:jY):TB:=fun D Ex σ H=>∃ (W:Addr->Prop) (ρ:aX) (D':iD) (Ep:Str->Prop),PX X.K X.H₀ W σ ρ H/\t D' Ep ρ/\l8 X W H D' D/\∀ n C H',a9 H H'->PySem.W.nsIn X.K mainGlobals n=some (some (.ref C))->Ep n->Ex (.ref C) none H'
def QB (X:Cx) (sts:List Stmt) (t:jY):Prop:=PB X sts (LB X t)
theorem pbI {sts:List Stmt}{t t':TB} (h:PB X sts t) (m:∀ D Ex σ H,t' D Ex σ H->t D Ex σ H):PB X sts t':=fun pins s σ H D Ex I q=>h pins s σ H D Ex I (m D Ex σ H q)
def yT (p:eN) (t:c9):jY:=fun D Ep ρ=>t ρ fun xs=>p Ep (xs.map (·.1)) fun _=>D.nx ρ
theorem am2 {k j:Nat}{x:Str}{ps:List Str}{p:eN} (d:dO X.prog X.w X.K X.mg X.base k x ps p) (hr:bD j X.A) (ha:∀ E,QA (X.wish E) (e :: es) tr) (hkj:k<=j:=by decide) (hg:Gl X x:=by rfl) (hdb:(x == ("__debug__" : Str))=false:=by decide)
  (he:starEach (e :: es) X.env=(false,eval e X.env) :: starEach es X.env:=by rfl) (hpl:(backTo cp (starEach es X.env)).any (·.1)=false:=by rfl) (hsw:swapsWith (.Call (.Name x p2) (e :: es) [] cp) none pos.line X.env=pure false:=by rfl):QB X [.Expr (.Call (.Name x p2) (e :: es) [] cp) pos] (yT p tr):=by
 obtain ⟨f,fd,F,b,kp,m⟩:=d.ex
 refine pbI (ae9 (t:=LA X tr) F (hr.mono hkj) hg m kp b (fun E=>ha E) hdb he hpl hsw) fun D Ex σ H h=>?_
 obtain ⟨W,ρ,D',Ep,px,q,k,ke⟩:=h
 exact⟨W,ρ,_,px,q,fun vs H1 xs s1 r q1=>⟨_,_,Ep,r.any,q1,fun v H' x s2 r2 q2=>k.nx W σ H' ρ (Ev.same (s1.trans s2)) (px.mono (s1.trans s2)) q2,fun n C H' s2 z1 z2=>ke n C H' (s1.trans s2) z1 z2⟩⟩
def yU (D:iD) (i:Nat):iD:={ nx:=fun ρ=>D.nx (ρ.set i none),rt:=D.rt,bk:=fun ρ=>D.bk (ρ.set i none),ct:=fun ρ=>D.ct (ρ.set i none) }
def oC:List Str:=["BadWeb","BadSet","BadOrder","BadPrices","BadBoard","BadDeed","NotWood","NoPaper","NoSuch","TooMany","NoText","OddRound"]
def j7 (n m:Str):Option Bool:=if oC.contains n then some (n == m || m == "HearthError" || m == "ValueError") else none
def sU (m:Str) (i:Nat) (tb:jY) (ts:aO):aO:=fun D ρ=>tb D (fun n=>j7 n m=some true/\ts (yU D i) (ρ.set i (some (.sh true (.exc n))))) ρ
theorem am3 {m:Str}{Ch:Addr}{i:Nat}{tb:jY}{ts:aO} (hs:∀ n C,j7 n m=some true->PySem.W.nsIn X.K mainGlobals n=some (some (.ref C))->PySem.W.subIn X.K (.ref C) (.ref Ch)=some true) (h:LS X (sU m i tb ts) D σ H):xP X.K Ch i (LB X tb) (LS X ts) D σ H:=by
 obtain ⟨W,ρ,D',px,q,k⟩:=h
 refine⟨W,ρ,D',_,px,q,k,fun n C H' s z1 z2 a C' oe hc na hcl=>?_⟩
 cases hc
 refine⟨hs n C z2.1 z1,W,_,yU D' i,(px.mono (s.trans (b4 na _))).setSh (g:=true) (.exc aU z1 hcl),z2.2,?_⟩
 have k':=k.step (Ev.same (W:=W) (s.trans (b4 na (.frz oe (.own a)))))
 exact⟨fun W' σ' H2 ρ' ev px' q'=>k'.nx W' _ H2 _ ev px'.setNone q',k'.rt,fun W' σ' H2 ρ' ev px' q'=>k'.bk W' _ H2 _ ev px'.setNone q',fun W' σ' H2 ρ' ev px' q'=>k'.ct W' _ H2 _ ev px'.setNone q'⟩
structure sV (K:PySem.W.Frag) (mg:Str->Option Value) (m:Str):Prop where
 ex:∃ Ch,mg m=some (.ref Ch)/\sC K Ch/\∀ n C,j7 n m=some true->PySem.W.nsIn K mainGlobals n=some (some (.ref C))->PySem.W.subIn K (.ref C) (.ref Ch)=some true
theorem am4 (i:Nat) {m n:Str}{b₀:Stmt}{suite body:List Stmt}{tb:jY}{ts:aO} (ct:sV X.K X.mg m) (hN:X.N.Nodup) (hb:QB X body tb) (hs:∀ a,dM (X.suite a) (b₀ :: suite) ts) (hstk:X.stack=X.env :: X.outer/\X.env.frame=some X.env.locals:=by exact⟨rfl,rfl⟩) (hi:X.N[i]? = some n:=by rfl) (hl:X.env.scope.names.lookup n=some .local:=by rfl) (hg:Gl X m:=by rfl)
  (hd:(m == ("__debug__" : Str))=false:=by decide):QS X (.Try body [.ExceptHandler (some (.Name m np)) (some n) (b₀ :: suite) hp] [] [] pos) (sU m i tb ts):=by
 obtain ⟨Ch,hm,c,sub⟩:=ct.ex
 exact eJ (af0 (ts:=LS X ts) hstk hb hg hm c hN hi hl (fun a=>rH (hs a) fun _ _ _ ⟨W,ρ,D',px,q,k⟩=>⟨W,ρ,D',px,q,⟨k.nx,k.rt,k.bk,k.ct⟩⟩) hd) fun _ _ _=>am3 sub
def fG:V->Value
 | .ref a=>.ref a
 | .ty n=>.type n
 | _=>.none
def am5 (K:PySem.W.Frag):List V->Hp->VK->Prop:=fun xs H Q=>∃ v v2 b,xs = [v,v2]/\fG v2 ≠ .none/\((∃ a o C,v = .ref a/\H a=some (.frz o (.own a))/\o.cls = .ref C/\gE K C/\PySem.W.kitOne K (.ref C) (fG v2)=some b) ∨ (v = .non/\PySem.W.kitOne K (.type "NoneType") (fG v2)=some b))/\Q (.bl b) H
theorem am6:cC X (.builtin "isinstance") (am5 X.K):=by
 intro pins s σ H xs us Q I r h
 obtain ⟨v,v2,b,rfl,hv,hk,q⟩:=h
 obtain ⟨u,u',rfl,ru,ru'⟩:=kK r
 obtain rfl:u'=fG v2:=by
  cases v2 <;> first | exact ru' | exact absurd rfl hv
 rcases hk with ⟨a,o,C,rfl,hH,hc,F,e⟩ | ⟨rfl,e⟩
 ·obtain ⟨h1,_⟩:=I.hok a _ hH
  cases (show u=Value.ref a from ru)
  exact aA9 (af7 F) I.kIn ⟨o,h1,hc⟩ e (fun z=>nomatch z) fun tk=>⟨.bl b,H,I.tok tk,rfl,q⟩
 ·cases (show u=Value.none from ru)
  exact aA9 PySem.W.kitx_none I.kIn trivial e (fun z=>nomatch z) fun tk=>⟨.bl b,H,I.tok tk,rfl,q⟩
def am7 (m:Str):PV->Option Bool
 | .exc n=>j7 n m
 | .non=>some false
 | _=>none
def sW (m:Str) (te:aC):aC:=fun ρ Q=>te ρ fun x _=>∃ b,am7 m x=some b/\Q (.bl b) .fr
structure yV (K:PySem.W.Frag) (m:Str) (v2:V):Prop where
 nn:fG v2 ≠ .none
 ex:∀ n C b,PySem.W.nsIn K mainGlobals n=some (some (.ref C))->j7 n m=some b->gE K C/\PySem.W.kitOne K (.ref C) (fG v2)=some b
 no:PySem.W.kitOne K (.type "NoneType") (fG v2)=some false
theorem am8 {x:Str}{v2:V}{px:Pos} (B:Bt X.mg) (A:yV X.K x v2) (hx:PE X (.Name x px) (tC v2)) (ha:QE X a te) (hg:Gl X "isinstance":=by rfl)
  (he:starEach [a,.Name x px] X.env=(false,eval a X.env) :: starEach [.Name x px] X.env:=by rfl) (he2:starEach [.Name x px] X.env=(false,eval (.Name x px) X.env) :: starEach [] X.env:=by rfl) (hpl:(backTo pos (starEach [.Name x px] X.env)).any (·.1)=false:=by rfl):QE X (.Call (.Name "isinstance" p2) [a,.Name x px] [] pos) (sW x te):=
 bG (kM am6 hg B.isinst PyProof.Rows.boot_isinstance (cD ha (cD hx cV he2) he) (he:=he) (hpl:=hpl)) fun σ H Q' h=>by
  obtain ⟨W,ρ,Q,px,q,k⟩:=h
  refine⟨W,ρ,_,px,q,?_⟩
  rintro v H1 y g s r ⟨b,e,q⟩
  refine⟨v,v2,b,rfl,A.nn,?_,k _ _ _ .fr s (.bl _) q⟩
  cases r with
  | exc h z c=>
   obtain ⟨F,kt⟩:=A.ex _ _ _ z e
   exact .inl ⟨_,_,_,rfl,h,c,F,kt⟩
  | non=>cases e; exact .inr ⟨rfl,A.no⟩
  | _=>cases e
end
section
variable {X : Cx} {a : Expr} {pos p2 px : Pos} {te : aC}
structure sX (K:PySem.W.Frag) (mg:Str->Option Value) (m:Str):Prop where
 ex:∃ C,mg m=some (.ref C)/\yV K m (.ref C)
theorem am9 {x:Str} (B:Bt X.mg) (A:sX X.K X.mg x) (ha:QE X a te) (hgx:Gl X x:=by rfl) (hdx:(x == ("__debug__" : Str))=false:=by decide) (hg:Gl X "isinstance":=by rfl)
  (he:starEach [a,.Name x px] X.env=(false,eval a X.env) :: starEach [.Name x px] X.env:=by rfl) (he2:starEach [.Name x px] X.env=(false,eval (.Name x px) X.env) :: starEach [] X.env:=by rfl) (hpl:(backTo pos (starEach [.Name x px] X.env)).any (·.1)=false:=by rfl):QE X (.Call (.Name "isinstance" p2) [a,.Name x px] [] pos) (sW x te):=by
 obtain ⟨C,m,i⟩:=A.ex
 exact am8 B i (F1 hgx m rfl hdx) ha hg he he2 hpl
end
structure lO (K:PySem.W.Frag) (C:Addr):Prop where
 cls:PySem.W.isClsIn K C=true
 ty:PySem.W.typeIn K (.ref C)=some (.type "type")
 ga:PySem.W.findIn K (.ref C) "__getattribute__" = some (some (.builtin "BaseException.__getattribute__"))
 gt:PySem.W.findIn K (.ref C) "__getattr__" = some none
 fc:PySem.W.findIn K (.ref C) "__class__" = some (some (.builtin "object.__class__"))
 fg:PySem.W.specialIn K (.builtin "object.__class__") "__get__" = some (some (.builtin "getset_descriptor.__get__"))
 ft:PySem.W.takesIn K (.builtin "object.__class__")=some true
 ob:PySem.W.mroIn K C (.type "object")=some true
 be:PySem.W.mroIn K C (.type "BaseException")=some true
theorem lO.exc {K:PySem.W.Frag}{C:Addr} (h:lO K C):gE K C:=⟨h.cls,h.ga,h.gt,h.fc,h.fg,h.ft,h.ob,h.be⟩
theorem an0 {K:PySem.W.Frag}{h₀:Heap}{mg:Str->Option Value}{x:Str}{C:Addr}{bmB:List Value}{newId:String} (X:K.In h₀) (m:mg x=some (.ref C)) (q:PySem.W.excIn K C bmB newId=true):OwnCls x C bmB newId mg h₀:=by
 refine⟨m,?_⟩
 unfold PySem.W.excIn at q
 split at q
 case h_2=>cases q
 rename_i dd cd sl ho
 split at q
 case h_2=>cases q
 rename_i C' bm k0 k1 k2 k3 n k5 hm hs
 simp only [az2,beq_iff_eq,Bool.not_eq_true'] at q
 obtain ⟨⟨⟨⟨⟨rfl,rfl⟩,dl⟩,ht⟩,hok⟩,hni⟩:=q
 obtain ⟨nm,bs,mro,ns,qn,hd,sn,sub,ab,col,del⟩:=cd
 dsimp only at hm dl hok hni
 subst hm dl
 obtain rfl:sl = #[k0,k1,k2,k3,some (.builtin n),k5]:=by
  obtain ⟨l⟩:=sl
  exact congrArg Array.mk hs
 exact⟨bm,ns,nm,qn,bs,hd,sn,sub,ab,col,dd,k0,k1,k2,k3,k5,_,X _ _ ho,.of_isNs (PySem.W.isNs_of_in X hok),PySem.W.nsMap_none_of_in X hok hni,PySem.W.tail_of_in X ht⟩
theorem yW {n m:Str}{b:Bool} (h:j7 n m=some b):n ∈ oC/\b=(n == m || m == "HearthError" || m == "ValueError"):=by
 unfold j7 at h
 split at h
 ·rename_i z
  exact⟨by simpa using z,by cases h; rfl⟩
 ·cases h
theorem an1 {K:PySem.W.Frag}{C:Addr}:PySem.W.kitOne K (.ref C) (.ref C)=some true:=by
 unfold PySem.W.kitOne
 rw [if_pos (aC3 _)]
theorem an2 {K:PySem.W.Frag}{D:Addr} (hd:lO K D) (s:PySem.W.subIn K (.type "NoneType") (.ref D)=some false):PySem.W.kitOne K (.type "NoneType") (.ref D)=some false:=by
 have c:=hd.cls
 unfold PySem.W.isClsIn at c
 unfold PySem.W.kitOne PySem.W.kitCls
 rw [if_neg (fun z=>by cases beq_iff_eq.mp z)]
 dsimp only
 rw [if_pos (by rw [c,hd.ty]; decide)]
 exact s
theorem dO.of {P:Program}{w:World}{K:PySem.W.Frag}{mg:Str->Option Value}{base:Heap}{k:Nat}{x:Str}{ps N:List Str}{p:eN}{st:Stmt}{f:Addr}{fd:FuncData} (F:dH K x x st f fd) (m:mg x=some (.ref f)) (S:FnScope N ps (aT st))
  (hb:∀ (kV doc pm:Value) (an:Option Addr) (cdv ct:Value) (us:List Value),us.length=ps.length->bindArgs (PySem.W.fnOf x x (gO st) (dA st) (aT st) .none kV doc pm an cdv ct) ⟨us,[]⟩=pure (ps.zip us))
  (t:(Str->Prop)->aO) (len:∀ Ep xs Q,p Ep xs Q->xs.length=ps.length) (rd:∀ Ep xs Q,p Ep xs Q->t Ep { nx:=fun _=>Q .non,rt:=Q } (cS N xs))
  (body:∀ (cdv:Value) (A:Around) (outer:List Env) (s:Shared) (H:Hp) (E:XK) (Ep:Str->Prop),bD k (A.deeper (envOfC x (aT st) s.heap.objs.size f cdv))->jV (cE (cT P w) P w K mg base N x (aT st) f cdv A outer s H E) (EX K H Ep)->
   dM (cE (cT P w) P w K mg base N x (aT st) f cdv A outer s H E) (dA st) (t Ep)):dO P w K mg base (k+1) x ps p:=by
 refine⟨f,fd,F.okX S (fun vs H Q E h=>?_) (fun cdv A outer s H vs Q E hr h=>?_),F.binds hb,F.kp,m⟩
 ·obtain ⟨xs,Qp,Ep,r,q,_⟩:=h
  rw [r.length]; exact len Ep xs Qp q
 ·obtain ⟨xs,Qp,Ep,r,q,k,ke⟩:=h
  have ht:=body cdv A outer s H E Ep hr (ae4 fun c d H' z=>?_)
  ·refine⟨_,ht,fun _=>False,cS N xs,_,rY r,rd Ep xs Qp q,?_,?_,?_,?_⟩
   ·exact fun W' σ' H' ρ' e px q=>k _ _ _ px.same .non q
   ·exact fun v H' x s r q=>k _ _ _ s r q
   ·exact fun W' σ' H' ρ' e px q=>q
   ·exact fun W' σ' H' ρ' e px q=>q
  ·obtain ⟨rfl,s1,n,C,rfl,z1,z2⟩:=z
   exact ke n C H' s1 z1 z2
end PP
namespace Core
open PySem L2 PP
abbrev yX (t:(Str->Prop)->aO) (N:List Str) (p:eN):Prop:=∀ Ep xs Q,p Ep xs Q->t Ep { nx:=fun _=>Q .non,rt:=Q } (cS N xs)
def oD:eN:=fun Ep xs Q=>∃ ws ls x ns,xs = [b5 ws ls,x]/\cU x ns/\ns.length<=1000/\(bL ws.length ns=true->Q (.tup (intz ns)))/\(bL ws.length ns=false->Ep "BadSet")
def yY (Ep:Str->Prop):aO:=(aP (c8 (dW (aV (aK nZ (a7 (a6 0) (a7 (a6 1) aE))))) (sT Ep "BadSet" (a7 (qC (.str "a set is of rising hearths of the web")) aE)) c7)
 (bF (aK gC (a7 (a6 1) aE))))
theorem an3:yX yY ["web","hearths"] oD:=by
 rintro Ep xs Q ⟨ws,ls,x,ns,rfl,hx,hl,q1,q2⟩
 refine⟨_,rfl,_,rfl,ws,ls,x,ns,rfl,hx,hl,_,rfl,?_⟩
 cases h:bL ws.length ns with
 | true=>exact aR ⟨_,rfl,⟨_,_,rfl,hx.seqT,cI _,trivial,q1 h⟩,hx.noscr⟩
 | false=>exact b7 ⟨by decide,q2 h⟩
theorem an4 (ns:List Int) {k:Int} (h:0<=k):fM (intz ns) none (some k)=intz (ns.take k.toNat):=by
 rw [al7 h]
 exact (List.map_take).symm
theorem yZ {n:Nat}{ys:List Int} (h:bL n ys=true->False):bL n ys=false:=by
 cases e:bL n ys with
 | false=>rfl
 | true=>exact (h e).elim
theorem an5 {n k:Nat}{s:List Int}{x:Int} (hx:x ∈ s):bL n (s.take k ++ [x] ++ s.drop k)=false:=yZ fun e=>by
 have p:=nW (jX e).1
 rw [List.append_assoc,List.pairwise_append] at p
 rw [<- List.take_append_drop k s] at hx
 rcases aA8.mp hx with h | h
 ·exact absurd (p.2.2 x h x ax6) (Int.lt_irrefl x)
 ·exact absurd (List.rel_of_pairwise_cons p.2.1 h) (Int.lt_irrefl x)
theorem z9 {n k:Nat}{s:List Int}{x:Int} (hx:x < 0 ∨ (n:Int)<=x):bL n (s.take k ++ [x] ++ s.drop k)=false:=yZ fun e=>by
 have:=(jX e).2 x (by simp)
 omega
theorem an6 {s:List Int}{a:Int}{xs:List Int}{g g':Tg}{R:PK} (ha:0<=a) (hl:s.length<=40) (xl:xs.length<=2) (r:R (.lst (intz (s.take a.toNat ++ xs))) .fr):o9 (.lst (fM (intz s) none (some a))) g (.lst (intz xs)) g' R:=by
 rw [an4 s ha]
 refine⟨_,_,rfl,rfl,cI _,cI _,?_,?_⟩
 ·rw [bH,bH,aB0]; omega
 ·rw [<- fR]; exact r
end Core
namespace PP
open PySem L2
theorem Reps.keys {K:PySem.W.Frag}{M:Addr->Prop}{H:Hp}:∀ (k:List aD),Reps K M H (k.map kV) (k.map kP)
 | []=>.nil
 | .inl i :: r=>.cons (.int i) (Reps.keys r)
 | .inr x :: r=>.cons (.str x) (Reps.keys r)
theorem zA {α β:Type}{F:α->β->Prop}:∀ {l:List α}{m:List β}{i:Nat}{x:α},Paired F l m->l[i]? = some x->∃ y,m[i]? = some y/\F x y
 | _,_,_,_,.nil,e=>by simp at e
 | _,_,0,_,.cons r _,e=>by simp at e; subst e; exact⟨_,rfl,r⟩
 | _,_,i+1,x,.cons _ t,e=>by
  rw [aA6] at e
  obtain ⟨y,h1,h2⟩:=zA t e
  exact⟨y,by rw [aA6]; exact h1,h2⟩
theorem zB:∀ {xs:List PV}{y:PV},flats xs=true->flat y=true->flats (xs ++ [y])=true
 | [],y,_,f=>by show (flat y && flats [])=true; rw [f]; rfl
 | x :: r,y,h,f=>by
  unfold flats at h
  rw [az2] at h
  show (flat x && flats (r ++ [y]))=true
  rw [h.1,zB h.2 f]; rfl
theorem lP {us:List Value} (h:us.length=1):∃ a,us = [a]:=List.length_eq_one_iff.mp h
theorem sY {us:List Value} (h:us.length=2):∃ a b,us = [a,b]:=by
 cases us with
 | nil=>cases h
 | cons a r=>
  obtain ⟨b,rfl⟩:=lP (us:=r) (by simpa using h)
  exact⟨a,b,rfl⟩
theorem sZ {us:List Value} (h:us.length=3):∃ a b c,us = [a,b,c]:=by
 cases us with
 | nil=>cases h
 | cons a r=>
  obtain ⟨b,c,rfl⟩:=sY (us:=r) (by simpa using h)
  exact⟨a,b,c,rfl⟩
theorem zC {us:List Value} (h:us.length=4):∃ a b c d,us = [a,b,c,d]:=by
 cases us with
 | nil=>cases h
 | cons a r=>
  obtain ⟨b,c,d,rfl⟩:=sZ (us:=r) (by simpa using h)
  exact⟨a,b,c,d,rfl⟩
end PP
namespace Core
open PySem L2 PP
def t0 (i:Nat) (S:List Int):Prop:=S.Pairwise (· < ·)/\∀ x ∈ S,0<=x/\x < (i:Int)
theorem t0.set {i:Nat}{S:List Int} (h:t0 i S):bL i S=true:=by
 unfold bL
 rw [sD h.1,Bool.true_and,aD6]
 intro b hb
 obtain ⟨x,hx,rfl⟩:=aB9.mp hb
 have:=h.2 x hx
 unfold inB
 simp only [id,az2,decide_eq_true_eq]
 exact this
structure WL (n:Int) (ws:List Int) (ls:List (Int × Int)):Prop where
 many:(ws.length:Int)=n
 inn:∀ l ∈ ls,0<=l.1/\l.1 < l.2/\l.2 < n
 most:ls.length<=1700
 ord:ls.Pairwise i3
 pos:∀ w ∈ ws,0<=w
theorem WL.wb {n:Int}{ws:List Int}{ls:List (Int × Int)} (h:WL n ws ls) (hn:n<=40):Wb ws ls:=
 ⟨by have:=h.many; omega,h.most,fun l hl=>by have:=h.inn l hl; have:=h.many; omega⟩
section
variable {ws : List Int} {ls : List (Int × Int)}
def cne (ws:List Int) (ls:List (Int × Int)) (S:List Int):Bool:=!decide (S = []) && decide (stay ws ls S=S)
end
def far (ns S:List Int):Bool:=decide (((S.filter fun x=>decide (x ∈ ns)).length:Int)=0)
def zD (ws:List Int) (ls:List (Int × Int)):List Int->List Int->Bool
 | _,[]=>true
 | B,h :: R=>inB ws.length h && (kin ws ls B h && zD ws ls (B ++ [h]) R)
end Core
namespace Raw
open PySem PySem.W PySem.Calls PyProof.Rows
theorem t4 {xs:List Nat} (a:xs.Pairwise (· < ·)) {i k:Nat} (hk:k < xs.length) (h:i<=k):xs.getD i 0<=xs.getD k 0:=by
 rcases Nat.lt_or_ge i k with z | z
 ·have:=List.pairwise_iff_getElem.mp a i k (by omega) hk z
  rw [ax8,ax8,aw3 (by omega),aw3 hk]
  exact aD8 this
 ·rw [Nat.le_antisymm h z]; exact aw6 _
theorem an7 {xs:Array Nat}{i j:Nat} (h:i < xs.size):xs.getD i j=xs.toList.getD i 0:=by
 rw [ax8,Array.getElem?_toList,aE1,Array.getElem?_eq_getElem h]; rfl
theorem t5 {xs:Array Nat}{j:Nat} (a:xs.toList.Pairwise (· < ·)):∀ (fuel lo hi:Nat),lo<=hi->hi<=xs.size->hi - lo<=fuel->(∀ i,i < lo->xs.toList.getD i 0 < j)->(∀ i,hi<=i->i < xs.size->j<=xs.toList.getD i 0)->
  SetTable.below.go xs j fuel lo hi<=xs.size/\(∀ i,i < SetTable.below.go xs j fuel lo hi->xs.toList.getD i 0 < j)/\∀ i,SetTable.below.go xs j fuel lo hi<=i->i < xs.size->j<=xs.toList.getD i 0
 | 0,lo,hi,h1,h2,h3,h4,h5=>by
  have e:lo=hi:=by omega
  subst e
  exact⟨h2,h4,h5⟩
 | fuel+1,lo,hi,h1,h2,h3,h4,h5=>by
  have sz:xs.toList.length=xs.size:=az4
  unfold SetTable.below.go
  by_cases lt:lo < hi
  ·rw [if_pos lt]
   dsimp only
   have m1:lo<=(lo+hi) / 2:=by omega
   have m2:(lo+hi) / 2 < hi:=by omega
   rw [an7 (by omega)]
   by_cases c:xs.toList.getD ((lo+hi) / 2) 0 < j
   ·rw [if_pos c]
    exact t5 a fuel _ _ (by omega) h2 (by omega) (fun i hi'=>Nat.lt_of_le_of_lt (t4 a (by omega) (by omega)) c) h5
   ·rw [if_neg c]
    exact t5 a fuel _ _ (by omega) (by omega) (by omega) h4 fun i h6 h7=>aA3 (aF9 c) (t4 a (by omega) h6)
  ·rw [if_neg lt]
   have e:lo=hi:=by omega
   subst e
   exact⟨h2,h4,h5⟩
theorem an8 {xs:Array Nat}{j:Nat} (a:xs.toList.Pairwise (· < ·)):SetTable.below xs j<=xs.size/\(∀ i,i < SetTable.below xs j->xs.toList.getD i 0 < j)/\∀ i,SetTable.below xs j<=i->i < xs.size->j<=xs.toList.getD i 0:=
 t5 a xs.size 0 xs.size (az7 _) (aw6 _) (by omega) (fun i h=>absurd h (Nat.not_lt_zero _)) fun i h1 h2=>absurd h2 (by omega)
theorem an9 {α:Type} (xs:Array α) (p:Nat) (x:α):(SetTable.insertAt xs p x).toList=xs.toList.take p ++ x :: xs.toList.drop p:=by
 unfold SetTable.insertAt
 simp
 exact List.take_of_length_le (by simp)
theorem ao0 {xs:Array Nat}{j:Nat} (a:xs.toList.Pairwise (· < ·)) (ne:xs[SetTable.below xs j]? ≠ some j):(SetTable.insertAt xs (SetTable.below xs j) j).toList.Pairwise (· < ·):=by
 obtain ⟨b1,b2,b3⟩:=an8 (j:=j) a
 have sz:xs.toList.length=xs.size:=az4
 rw [an9]
 refine List.pairwise_append.mpr ⟨a.sublist (List.take_sublist _ _),List.pairwise_cons.mpr ⟨fun x hx=>?_,a.sublist (List.drop_sublist _ _)⟩,fun x hx y hy=>?_⟩
 ·obtain ⟨i,hi,e⟩:=List.getElem_of_mem hx
  rw [aC2] at hi
  rw [List.getElem_drop] at e
  have h1:=b3 (SetTable.below xs j) (aw6 _) (by omega)
  have h2:=t4 a (i:=SetTable.below xs j) (k:=SetTable.below xs j+i) (by omega) (by omega)
  have h3:xs.toList.getD (SetTable.below xs j+i) 0=x:=by rw [ax8,aw3 (by omega),e]; rfl
  rcases Nat.lt_or_ge j x with z | z
  ·exact z
  ·exfalso
   have h4:xs.toList.getD (SetTable.below xs j) 0=j:=by omega
   rw [ax8,aw3 (by omega)] at h4
   refine ne ?_
   rw [<- Array.getElem?_toList,aw3 (by omega)]
   exact congrArg some h4
 ·have hx':x < j:=by
   obtain ⟨i,hi,e⟩:=List.getElem_of_mem hx
   rw [aB0] at hi
   rw [List.getElem_take] at e
   have:=b2 i (by omega)
   rw [ax8,aw3 (by omega),e] at this
   exact this
  rcases aw7.mp hy with e | hy
  ·rw [e]; exact hx'
  ·obtain ⟨i,hi,e⟩:=List.getElem_of_mem hy
   rw [aC2] at hi
   rw [List.getElem_drop] at e
   have:=b3 (SetTable.below xs j+i) (by omega) (by omega)
   rw [ax8,aw3 (by omega),e] at this
   exact ax0 hx' this
structure fS (b:Bool) (t:SetTable):Prop where
 asc:t.place.toList.Pairwise (· < ·)
 dm:t.dummies = #[]
 led:t.led=b
theorem zE (j:Nat):SetTable.has #[] j=false:=by
 unfold SetTable.has
 simp
theorem zF {t:SetTable} (dm:t.dummies = #[]) {h:Int}{j:Nat}{d:Option Nat}:∀ (fuel:Nat) (p:SetTable.Probe),p.dummy=none->SetTable.probe.go t (fun _=>h+1) h fuel p=some (.empty j d)->d=none/\t.slot j = .empty
 | 0,p,_,e=>by cases e
 | fuel+1,p,hp,e=>by
  unfold SetTable.probe.go at e
  have adv:∀ p:SetTable.Probe,p.dummy=none->(t.advance p).dummy=none:=fun p hp=>by
   unfold SetTable.advance
   split <;> exact hp
  cases hs:t.slot p.j with
  | empty=>
   rw [hs] at e
   cases e
   exact⟨hp,hs⟩
  | dummy=>
   exfalso
   unfold SetTable.slot at hs
   dsimp only at hs
   rw [dm,zE] at hs
   split at hs <;> cases hs
  | live i=>
   rw [hs] at e
   dsimp only at e
   rw [if_neg (by simp; omega)] at e
   exact zF dm fuel _ (adv p hp) e
theorem ao1 {t:SetTable} (dm:t.dummies = #[]) {h:Int}{sl:Nat}{d:Bool} (e:t.freeSlot h=some (sl,d)):t.slot sl = .empty:=by
 unfold SetTable.freeSlot at e
 split at e
 ·rename_i j dummy hm
  obtain ⟨e1,e2⟩:=zF dm _ _ rfl hm
  subst e1
  cases e
  exact e2
 ·cases e
theorem oE {b:Bool}{t:SetTable} (h:fS b t) (n:Nat):fS b (t.standIn n):=⟨by
 show (Array.range n).toList.Pairwise (· < ·)
 rw [Array.toList_range]; exact List.pairwise_lt_range,rfl,h.led⟩
theorem ao2 {b:Bool}{t:SetTable} (h:fS b t) {j:Nat} (hs:t.slot j = .empty):fS b (t.put j).1:=by
 refine⟨?_,?_,h.led⟩
 ·refine ao0 h.asc fun e=>?_
  unfold SetTable.slot at hs
  dsimp only at hs
  rw [if_pos (by rw [e]; exact aC3 _)] at hs
  cases hs
 ·show (if SetTable.has t.dummies j then SetTable.eraseAt t.dummies (SetTable.below t.dummies j) else t.dummies) = #[]
  rw [h.dm,zE]; rfl
theorem ao3 {b:Bool}{t:SetTable} (h:fS b t) (es:Array (Int × Value)) (k:Int) (x:Value):fS b (layNew t es k x).2.1:=by
 unfold layNew
 split
 ·rename_i sl wd e
  have p:=ao2 h (ao1 h.dm e)
  show fS b (SetTable.orStandIn _ _)
  unfold SetTable.orStandIn
  split
  ·exact p
  ·exact oE p _
 ·exact oE h _
theorem ao4 {b:Bool}{t:SetTable} (h:fS b t) (es:Array (Int × Value)) (n:Nat):fS b (relayAll t es n).2.1:=by
 unfold relayAll
 split
 ·rename_i t' order e
  dsimp only
  split
  ·show fS b t'
   unfold SetTable.relaid SetTable.laid at e
   cases hc:SetTable.layClean (SetTable.sizeAbove n - 1) (es.map (·.1)) with
   | none=>rw [hc] at e; cases e
   | some owner=>
    rw [hc] at e
    cases e
    refine⟨?_,rfl,h.led⟩
    show (List.map _ _).Pairwise (· < ·)
    refine aH2.mpr (List.Pairwise.filterMap _ (R:=(· < ·)) ?_ List.pairwise_lt_range)
    intro i i' hlt x hx y hy
    cases ho:owner.getD i none with
    | none=>rw [ho] at hx; cases hx
    | some v=>
     rw [ho] at hx
     cases ho2:owner.getD i' none with
     | none=>rw [ho2] at hy; cases hy
     | some v2=>
      rw [ho2] at hy
      cases hx; cases hy
      exact hlt
  ·exact oE h _
 ·exact oE h _
theorem zG {us vs:List Value} (p:us.Perm vs):∀ {ns:List Int},IntsAre vs ns->∃ ms,IntsAre us ms/\ms.Perm ns:=by
 induction p with
 | nil=>intro ns h; exact⟨ns,h,List.Perm.refl _⟩
 | cons x _ ih=>
  intro ns h
  cases h with
  | cons n t r=>
   obtain ⟨ms,h1,h2⟩:=ih r
   exact⟨n :: ms,.cons n t h1,h2.cons n⟩
 | swap x y l=>
  intro ns h
  cases h with
  | cons n t r=>
   cases r with
   | cons n' t' r=>
    exact⟨n' :: n :: _,.cons n' t' (.cons n t r),List.Perm.swap _ _ _⟩
 | trans _ _ ih1 ih2=>
  intro ns h
  obtain ⟨ms,h1,h2⟩:=ih2 h
  obtain ⟨ms',h3,h4⟩:=ih1 h1
  exact⟨ms',h3,h4.trans h2⟩
theorem zH:∀ {us:List Value}{ns:List Int},IntsAre us ns->∀ (k:Int) (t:Nat),IntsAre (us ++ [.int k t]) (ns ++ [k])
 | _,_,.nil,k,t=>.cons k t .nil
 | _,_,.cons n u r,k,t=>.cons n u (zH r k t)
theorem oF:∀ {us:List Value}{ns:List Int},IntsAre us ns->∀ k:Int,k ∈ ns ↔ ∃ t,Value.int k t ∈ us
 | _,_,.nil,k=>⟨(fun h=>nomatch h),(fun ⟨_,h⟩=>nomatch h)⟩
 | _,_,.cons n u r,k=>by
  constructor
  ·intro h
   rcases aw7.mp h with e | h
   ·exact⟨u,by rw [e]; exact ax6⟩
   ·obtain ⟨t,ht⟩:=(oF r k).mp h
    exact⟨t,ax7 _ ht⟩
  ·rintro ⟨t,h⟩
   rcases aw7.mp h with e | h
   ·cases e; exact ax6
   ·exact ax7 _ ((oF r k).mpr ⟨t,h⟩)
abbrev lQ (es:Array (Int × Value)) (ep:Nat) (t:SetTable):Obj:={ cls:=.type "set",dict:=none,data:=.set es ep t,slots:=#[] }
section
variable {prog : Program} {w : World} {A : Around} {E : Value → Shared → Prop} {s : Shared}
def ao5 (prog:Program) (w:World) (es:Array (Int × Value)) (t:SetTable) (ms:List Int):Prop:=ElemsOf (intKind prog w) es.toList/\IntsAre (es.toList.map (·.2)) ms/\es.size < scanBound/\t.fits es.size=true/\fS (!w.params.followText "set-order") t
def zI (prog:Program) (w:World) (h:Heap) (a:Addr) (ms:List Int):Prop:=∃ es ep t,h.get? a=some (lQ es ep t)/\ao5 prog w es t ms
theorem zJ {h:Heap}{a:Addr}{es es':Array (Int × Value)}{ep:Nat}{t t':SetTable} (ho:h.get? a=some (lQ es ep t)):(h.update a (Obj.putSet es' t')).get? a=some (lQ es' (ep+1) t'):=by
 have:=Heap.get?_update_self (Obj.putSet es' t') ho (by rw [putSet_of es' t' (rfl:(lQ es ep t).data=_)]; rfl)
 rw [putSet_of es' t' (rfl:(lQ es ep t).data=_)] at this
 exact this
theorem add_int {a:Addr}{ms:List Int}{k:Int}{u:Nat}{Q:Bool->Shared->Prop} (hS:zI prog w s.heap a ms) (room:ms.length+1 < scanBound)
  (h:∀ b h' ms',Heap.SameBut a s.heap h'->zI prog w h' a ms'->(k ∈ ms->ms'.Perm ms)->(k ∉ ms->ms'.Perm (ms ++ [k]))->Q b { s with heap:=h' }) :
  wpAny (model prog w) A (setAddHashed a (.int k u) ((intKind prog w).hash k)) Q E s:=by
 obtain ⟨es,ep,t,ho,hel,hi,hb,hf,tk⟩:=hS
 have key:(intKind prog w).is k (.int k u)=true:=intKind_is _ _ _ _
 have ln:ms.length=es.size:=by
  have:=IntsAre.length hi
  rw [aw9,az4] at this
  exact this.symm
 have isk:∀ v,(intKind prog w).is k v=true->∃ u,v = .int k u:=fun v hv=>Value.isInt_shape hv
 unfold setAddHashed setAddHashedIn
 refine aH5 (aw1 (wpAny_setState_of ho rfl hf ?_))
 dsimp only
 rw [byScan_of (knd:=intKind prog w) (x:=.int k u) rfl hb hel,if_pos rfl]
 unfold setAddByScan
 refine aw1 (aw1 (wpAny_rule ?_))
 refine aw1 (wpAny_setScan_of key ho rfl hf hel ?_)
 cases hr:List.findIdx? (fun e=>(intKind prog w).is k e.2) es.toList with
 | some j=>
  dsimp only
  obtain ⟨hj,hp,_⟩:=List.findIdx?_eq_some_iff_getElem.mp hr
  have km:k ∈ ms:=by
   obtain ⟨u',e⟩:=isk _ hp
   exact (oF hi k).mpr ⟨u',by rw [<- e]; exact aB9.mpr ⟨_,aG0 hj,rfl⟩⟩
  have e:s={ s with heap:=s.heap }:=by cases s; rfl
  rw [e]
  exact aw5 (aw5 (h _ s.heap ms (Heap.SameBut.refl a s.heap) ⟨es,ep,t,ho,hel,hi,hb,hf,tk⟩ (fun _=>List.Perm.refl _) fun n=>absurd km n))
 | none=>
  dsimp only
  have km:k ∉ ms:=fun z=>by
   obtain ⟨u',hm⟩:=(oF hi k).mp z
   obtain ⟨e,he,e2⟩:=aB9.mp hm
   have:=List.findIdx?_eq_none_iff.mp hr e he
   rw [e2,intKind_is _ _ _ _] at this; cases this
  have lp:=layNew_perm t es ((intKind prog w).hash k) (.int k u)
  have lf:=layNew_fits t es ((intKind prog w).hash k) (.int k u)
  have lk:=ao3 tk es ((intKind prog w).hash k) (.int k u)
  generalize hL:layNew t es ((intKind prog w).hash k) (.int k u)=L at lp lf lk ⊢
  obtain ⟨es1,t1,wd,gave⟩:=L
  dsimp only at lp lf lk ⊢
  rw [Array.toList_push] at lp
  have el1:ElemsOf (intKind prog w) es1.toList:=(hel.push key rfl).perm lp
  have sz1:es1.size=es.size+1:=by rw [<- az4,lp.length_eq,ax9,az4]; rfl
  obtain ⟨ms1,i1,p1⟩:∃ ms1,IntsAre (es1.toList.map (·.2)) ms1/\ms1.Perm (ms ++ [k]):=zG (lp.map (·.2)) (by rw [aC1]; exact zH hi k u)
  have hb1:es1.size < scanBound:=by omega
  have gw:∀ (b:Bool) (s₁:Shared) (Q':Unit->Shared->Prop),Q' () s₁->wpAny (model prog w) A (match b with | true=>rule "set.scan.the-table-gave-way" | false=>pure ()) Q' E s₁:=fun b s₁ Q' hq=>by
   cases b
   ·exact aw5 hq
   ·exact wpAny_rule hq
  refine aw1 (gw _ _ _ ?_)
  split <;> (
   show wpAny _ _ (storeSet a es1 t1 >>= _) _ _ _
   simp only [↓reduceIte]
   refine aw1 (wpAny_storeSet_of ho rfl ?_ (fits_of_scanBound hb1))
   have ho1:=zJ (es':=es1) (t':=t1) ho
   have sb1:=aF6 s.heap a (Obj.putSet es1 t1)
   split
   ·have rp:=relayAll_perm t1 es1 (SetTable.grown es1.size)
    have rf:=relayAll_fits t1 es1 (SetTable.grown es1.size)
    have rk:=ao4 lk es1 (SetTable.grown es1.size)
    generalize relayAll t1 es1 (SetTable.grown es1.size)=L at rp rf rk ⊢
    obtain ⟨es2,t2,gave2⟩:=L
    dsimp only at rp rf rk ⊢
    have sz2:es2.size=es1.size:=by rw [<- az4,rp.length_eq,az4]
    obtain ⟨ms2,i2,p2⟩:=zG (rp.map (·.2)) i1
    refine aw1 (gw _ _ _ ?_)
    refine aw1 (wpAny_storeSet_of ho1 rfl ?_ (fits_of_scanBound (by omega)))
    exact aw5 (aw5 (h _ _ ms2 (sb1.trans (aF6 _ a _)) ⟨es2,_,t2,zJ ho1,el1.perm rp,i2,by omega,rf,rk⟩ (fun z=>absurd z km) fun _=>p2.trans p1))
   ·exact aw5 (aw5 (h _ _ ms1 sb1 ⟨es1,_,t1,ho1,el1,i1,hb1,lf,lk⟩ (fun z=>absurd z km) fun _=>p1)))
end
section
variable {prog : Program} {w : World} {A : Around} {E : Value → Shared → Prop} {s : Shared} {r : Addr} {b : Int} {t u v : Tok} {n : Nat}
theorem ao6 {R:Result->Shared->Prop} (hh:A.handled=none) (hr:IsRange s.heap r 0 b 1 t u v) (sm:Builtin.Range.small 0 b 1=true) (hn:Builtin.Range.rangeSize 0 b 1=n) (hl:n<=2 ^ 24)
  (hR:∀ h' tk acc c,(∀ b o,b ≠ s.heap.objs.size->(s.heap.push { cls:=.type "list",data:=.seq ([]:List Value).toArray }).get? b=some o->h'.get? b=some o)->h'.get? s.heap.objs.size=some { cls:=.type "list",dict:=none,data:=.seq acc c,slots:=#[] }->ItemsOf (fun i v=>∃ t,v = .int (0+i * 1) t) acc n->R (.ok (.ret (.ref s.heap.objs.size))) { s with heap:=h',toks:=tk }) :
  codeAny (model prog w) A (.builtin "proto.collect" ⟨[.ref r],[]⟩) R s:=by
 refine codeAny_builtin PySem.F.entry_proto_collect ?_
 rw [Around.under_plainId PySem.F.plain_proto_collect _]
 show wpAny _ A.in1 (newList [] >>= fun l=>again (.builtin "list.__iadd__" ⟨[l,.ref r],[]⟩)) _ _ s
 refine aw1 (aB4 ?_)
 refine aw5 ⟨plainId_quiet PySem.F.plain_list_iadd _,codeAny_builtin PySem.F.entry_list_iadd ?_⟩
 rw [Around.under_plainId PySem.F.plain_list_iadd _]
 show wpAny _ A.in1 (Builtin.List.listExtendWith (.ref s.heap.objs.size) (.ref r) (.ref s.heap.objs.size)) _ _ _
 exact wpAny_extend_range (s:={ s with heap:=s.heap.push { cls:=.type "list",data:=.seq ([]:List Value).toArray } }) (R:=R) hh (aw2 _ hr) sm hn hl s.heap.objs.size _ 0 (ax5 _ rfl) hR
theorem ao7 {Q:List Value->Shared->Prop} (hh:A.handled=none) (hr:IsRange s.heap r 0 b 1 t u v) (sm:Builtin.Range.small 0 b 1=true) (hn:Builtin.Range.rangeSize 0 b 1=n) (hl:n<=2 ^ 24)
  (hQ:∀ h' tk acc,(∀ b o,s.heap.get? b=some o->h'.get? b=some o)->ItemsOf (fun i v=>∃ t,v = .int (0+i * 1) t) acc n->Q acc.toList { s with heap:=h',toks:=tk }):wpAny (model prog w) A (collect (.ref r)) Q E s:=by
 unfold collect
 refine aw1 (wpAny_runValue (ao6 (s:=s) hh hr sm hn hl fun h' tk acc c kp at1 it=>?_))
 show wpAny _ A (load s.heap.objs.size >>= _) _ _ _
 refine aw1 (wpAny_load at1 ?_)
 exact aw5 (hQ h' tk acc (fun b o e=>kp b o (ay8 (ax2 e)) (aw2 _ e)) it)
theorem ao8 (r:Addr) (b:Int) (t u v:Tok) (n:Nat) (sm:Builtin.Range.small 0 b 1=true) (hn:Builtin.Range.rangeSize 0 b 1=n) (hl:n<=2 ^ 24) :
  Meets (Builtin.«tuple.__new__» ⟨[.type "tuple",.ref r],[]⟩) (fun A R s=>A.handled=none/\IsRange s.heap r 0 b 1 t u v/\∀ (h':Heap) tk (acc:Array Value),(∀ b o',s.heap.get? b=some o'->h'.get? b=some o')->ItemsOf (fun i v=>∃ t,v = .int (0+i * 1) t) acc n->R (.ok (.ret (.ref h'.objs.size))) { s with heap:=h'.push { cls:=.type "tuple",data:=.seq acc },toks:=tk }):=
 .of_wp fun prog w A R s h=>by
  obtain ⟨hp,g,d,tk,os⟩:=s
  obtain ⟨hh,ht,h⟩:=h
  have hsub:=sub_tuple_self
  have hinit:=init_tuple_lookup
  have hmh:=madeHere_tuple
  have hT:Shared.TypeIs ⟨hp,g,d,tk,os⟩ (.ref r) "range":=⟨_,ht,rfl⟩
  unfold Builtin.«tuple.__new__»
  generalize pi:collect=CC
  wp_walk using wpAny_loadPart' ht,wpAny_typeOf hT
  subst pi
  refine ao7 (s:=⟨hp,g,d,tk,os⟩) hh ht sm hn hl fun h' tk' acc kp it=>?_
  refine aw1 (aw5 ?_)
  show wpAny _ _ (Builtin.Tuple.tupleExact acc.toList.toArray >>= fun v=>ret v) _ _ _
  unfold Builtin.Tuple.tupleExact
  refine aw1 (aB4 ?_ (by show acc.toList.toArray.size<=sizeLine; rw [aw4,az4,it.1,sizeLine_eq]; omega))
  refine aw5 ⟨_,rfl,?_⟩
  have e:acc.toList.toArray=acc:=by simp
  rw [e]
  exact h h' tk' acc kp it
theorem ao9 {Q:Value->Shared->Prop} (hh:A.handled=none) (hr:IsRange s.heap r 0 b 1 t u v) (sm:Builtin.Range.small 0 b 1=true) (hn:Builtin.Range.rangeSize 0 b 1=n) (hl:n<=2 ^ 24)
  (h:∀ (h':Heap) tk (acc:Array Value),(∀ b o',s.heap.get? b=some o'->h'.get? b=some o')->ItemsOf (fun i v=>∃ t,v = .int (0+i * 1) t) acc n->Q (.ref h'.objs.size) { s with heap:=h'.push { cls:=.type "tuple",data:=.seq acc },toks:=tk }) :
  wpAny (model prog w) A (call (.type "tuple") [.ref r]) Q E s:=
 callType_new F.called_tuple (by decide) (F.typeCall_tuple_1 _) (F.newCall_tuple_1 _) (fun obj=>F.args_object_init_2 obj _) F.entry_tuple_new (ao8 r b t u v n sm hn hl) ⟨by simp [hh],hr,fun h' tk acc hk it=>⟨⟨_,ax5 _ rfl,rfl⟩,h h' tk acc hk it⟩⟩
end
end Raw
namespace PP
open PySem L2
section
variable {X : Cx} {a b : Expr} {ta tb : aC} {pos pos2 p2 p3 : Pos}
theorem ap0 (hc:X.calm=true):cC X (.type "tuple") (fun xs H Q=>∃ r j,xs = [.ref r]/\H r=some (.rng 0 j)/\0<=j/\j<=1000000/\∀ l,H l=none->Q (.ref l) (upd H l (.tup (gQ 0 j.toNat)))):=by
 intro pins s σ H xs us Q I r h
 obtain ⟨p,j,rfl,hq,h0,h1,q⟩:=h
 obtain ⟨u,rfl,rx⟩:=gL r
 cases rx
 obtain ⟨t,u,v,ho⟩:=(show aZ X.prog X.w H s.heap p (.rng 0 j) from I.hok p _ hq)
 refine Raw.ao9 (b:=j) (n:=j.toNat) (I.ok.hd hc) ho (small_one (by decide) (by decide) (by omega) (by omega)) (by rw [rangeSize_one]; split <;> omega) (by omega) fun h' tk acc kp it=>?_
 have vv:=ah3 it
 have eq:acc.toList.toArray=acc:=by simp
 have I1:a5 X pins σ H { s with heap:=h',toks:=tk }:=I.kept (t':=tk) kp
 have I2:a5 X pins σ (upd H h'.objs.size (.tup (gQ 0 j.toNat))) { s with heap:=h'.push { cls:=.type "tuple",data:=.seq acc.toList.toArray },toks:=tk }:=
  I1.laid (t':=tk) (fun b o e=>aw2 _ e) (aw6 _) (show aZ X.prog X.w _ _ _ (.tup _) from ⟨by rw [pY]; exact lim (by omega),acc.toList,vv,PyProof.Rows.IsTup.new _ _,fV.new _ _ rfl⟩)
 rw [eq] at I2
 exact⟨.ref h'.objs.size,_,I2,rfl,q _ (I1.hok.fresh (aw6 _))⟩
def zK (te:aC):aC:=fun ρ Q=>te ρ fun x _=>∃ n:Int,x = .int n/\0<=n/\n<=1000000/\Q (.tup (dX 0 n.toNat)) .fr
theorem ap1 (B:Bt X.mg) (ha:QE X a ta) (hc:X.calm=true:=by rfl) (hg:Gl X "tuple":=by rfl) (hgr:Gl X "range":=by rfl) (hs:starEach [a] X.env = [(false,eval a X.env)]:=by rfl)
  (he:starEach [.Call (.Name "range" p3) [a] [] pos2] X.env=(false,eval (.Call (.Name "range" p3) [a] [] pos2) X.env) :: starEach [] X.env:=by rfl) (hpl:(backTo pos (starEach [] X.env)).any (·.1)=false:=by rfl) :
  QE X (.Call (.Name "tuple" p2) [.Call (.Name "range" p3) [a] [] pos2] [] pos) (zK ta):=
 bG (uO (ap0 hc) hg B.tuple PyProof.Rows.boot_tuple (cD (ah2 hgr B.range (cD ha cV hs) hs) cV he) (he:=he) (hpl:=hpl)) fun σ H Q' h=>by
  obtain ⟨W,ρ,Q,px,q,k⟩:=h
  refine⟨W,ρ,_,px,q,?_⟩
  rintro v H1 x g s r ⟨n,rfl,h0,h1,q⟩
  cases r
  refine⟨n,rfl,fun r hr=>⟨r,n,rfl,aU,h0,h1,fun l hl=>?_⟩⟩
  have S:a9 H (upd (upd H1 r (.rng 0 n)) l (.tup (gQ 0 n.toNat))):=(s.trans (b4 hr _)).trans (b4 hl _)
  exact k _ _ _ .fr S (.tup aU (ah4 0 n.toNat)) q
end
end PP
namespace Core
open PySem L2 PP
theorem ap2 {n:Nat}{ks:List Int} (up:ks.Pairwise (· < ·)) (inn:∀ x ∈ ks,0<=x/\x < (n:Int)):bL n ks=true:=by
 have nd:ks.Nodup:=up.imp fun h=>Int.ne_of_lt h
 have:=nd.length_le_of_subset fun x hx=>j4.mpr (inn x hx)
 rw [lH] at this
 have u:sM (n:Int) ks:=⟨up,inn,by omega⟩
 exact u.set
theorem ap3 (n:Nat):bL n (rng n)=true:=t0.set ⟨al8 n,fun x hx=>j4.mp hx⟩
end Core
namespace PP
open PySem L2
section
variable {X : Cx} {a b e o : Expr} {ta tb te to : aC} {tr : c9} {pos p2 apos cpos : Pos} {σ : St} {H : Hp} {Q' : VK}
open Classical in
def zL (K:PySem.W.Frag):V->List V->Hp->VK->Prop:=fun x vs H Q=>∃ (p:Addr) (ns:List Int) (i:Int),x = .ref p/\vs = [.int i]/\aH K H p (ns.map V.int)/\i ∈ ns/\ns.length<=16000000/\Q (.int (ns.idxOf i:Nat)) H
theorem ap4:pM X "list.index" (zL X.K):=by
 intro pins s σ H x vs v us Q I rx rv h
 obtain ⟨p,ns,i,rfl,rfl,hp,hi,hl,q⟩:=h
 cases rx
 obtain ⟨u,rfl,t,rfl⟩:=gL rv
 obtain ⟨its,r,pl,hz⟩:=I.list hp
 have ia:=pD r
 have hlen:=ia.length
 have hj:ns.idxOf i < ns.length:=List.idxOf_lt_length_iff.mpr hi
 obtain ⟨⟨cls,dd,data,sl⟩,ho,hc,n,hd⟩:=id pl.isList
 simp only at hc hd
 subst hc hd
 refine call_meets PySem.F.slot_list_index ⟨_,ho,rfl⟩ PySem.F.entry_list_index (PySem.F.args_list_index_2 _ _)
  (SeqAt.list_indexAt p its.toArray n dd sl (.int i t) (PyProof.Rows.isInt i) (ns.idxOf i) (by simpa [hlen] using hj) (by omega) ?_ ?_) ⟨ho,fun y hy=>(PyProof.Rows.eq_isInt i t ia y (by simpa using hy)).at _ _,⟨.int _,H,I.tok _,⟨_,rfl⟩,q⟩⟩
 ·show PyProof.Rows.isInt i its[ns.idxOf i]=true
  rw [PyProof.Rows.isInt_at i ia _ (by omega) hj]
  simpa using List.getElem_idxOf hj
 ·intro j hjs hlt
  show PyProof.Rows.isInt i its[j]=false
  rw [PyProof.Rows.isInt_at i ia j (by simpa using hjs) (by omega)]
  exact PyProof.Rows.ne_of_lt_idxOf hlt _
def oG (to te:aC):aC:=fun ρ Q=>to ρ fun x _=>∃ ns:List Int,x = .lst (intz ns)/\te ρ fun y _=>∃ i:Int,y = .int i/\i ∈ ns/\ns.length<=16000000/\Q (.int (ns.idxOf i:Nat)) .fr
theorem ap5 (h:LE X (oG to te) σ H Q'):pL X.K "list" (zL X.K) (LE X to) (i8 (LE X te) iO) σ H Q':=by
 obtain ⟨W,ρ,Q,px,q,k⟩:=h
 refine⟨W,ρ,_,px,q,?_⟩
 rintro v H1 x g s1 r1 ⟨ns,rfl,q1⟩
 obtain ⟨a,us,rfl,m,ea,r⟩:=r1.sqL
 obtain rfl:=r.ofInts
 refine⟨mT (aH.of ea),W,ρ,_,px.mono s1,q1,?_⟩
 rintro w H2 y gy s2 r2 ⟨i,rfl,hi,hl,q2⟩
 cases r2
 exact⟨a,ns,i,rfl,rfl,aH.of (s2 _ _ ea),hi,hl,k _ _ _ .fr (s1.trans s2) (.int _) q2⟩
theorem zM (ho:QE X o to) (he:QE X e te) (hbase:attributeBase o "index" X.env (eval o X.env)=eval o X.env:=by rfl)
  (hfew:((backTo cpos (starEach [e] X.env)).all (fun x=>!x.1) && (backToKw cpos (keywordEach [] X.env)).all (fun x=>x.1.isSome) && decide (([e]:List Expr).length+([]:List Keyword).length+(if ([]:List Keyword).isEmpty then 0 else 1) < 30))=true:=by rfl)
  (hline:(apos.endLine == cpos.line)=true:=by rfl) (hs:starEach [e] X.env=(false,eval e X.env) :: starEach [] X.env:=by rfl) (hplain:(backTo cpos (starEach [] X.env)).any (·.1)=false:=by rfl) :
  QE X (.Call (.Attribute o "index" apos) [e] [] cpos) (oG to te):=
 bG (m6 PySem.F.plainAttrs_list PySem.F.slot_list_index PySem.F.type_list_index ap4 ho (cD he cV hs) hbase hfew hline hs hplain) fun _ _ _=>ap5
end
end PP
namespace Core
open PySem L2 PP
def qA (ws:List Int) (ls:List (Int × Int)) (ns R:List Int):Prop:=zD ws ls ns R=true/\al3 ws ls (ns ++ R)
end Core
namespace L2
open PySem PySem.Spec PyProof.Rows PP
section
variable {prog : Program} {w : World} {A : Around} {R : Result → Shared → Prop} {I S : Addr} {n : Nat} {l : Addr} {its : Array Value} {s0 : Shared} {bt : Nat → Nat → Bool}
abbrev at_ (s:Shared) (h:Heap) (k:Nat):Shared:={ s with heap:=h,toks:=k }
end
end L2
namespace Core
open PySem L2 PP
def FB (L:List (List Int)) (f:List Int->Int) (r:List Int):Prop:=∃ i,L[i]? = some r/\(∀ (j:Nat) (s:List Int),j < i->L[j]? = some s->f s < f r)/\∀ s ∈ L,f s<=f r
def nrm (l:Int × Int):Int × Int:=(min l.1 l.2,max l.1 l.2)
structure WD (n:Int) (ws:List Int) (ls:List (Int × Int)):Prop where
 many:(ws.length:Int)=n
 inn:∀ l ∈ ls,0<=l.1/\l.1 < l.2/\l.2 < n
 most:ls.length<=1700
 ord:ls.Pairwise i3
 pos:∀ w ∈ ws,0<=w/\w<=60
theorem WD.perm {n:Int}{ws:List Int}{ls ls':List (Int × Int)} (h1:(ws.length:Int)=n) (h2:∀ l ∈ ls,0<=l.1/\l.1 < l.2/\l.2 < n) (h3:ls.length<=1700) (nd:ls.Nodup) (h4:∀ w ∈ ws,0<=w/\w<=60) (p:ls'.Perm ls) (so:(ls'.map two).Pairwise fun u v=>HT.dR v u=false):WD n ws ls':=
 ⟨h1,fun l hl=>h2 l (p.mem_iff.mp hl),by rw [p.length_eq]; exact h3,ai5 so (p.nodup_iff.mpr nd),h4⟩
theorem WD.wl {n:Int}{ws:List Int}{ls:List (Int × Int)} (h:WD n ws ls):WL n ws ls:=⟨h.many,h.inn,h.most,h.ord,fun w hw=>(h.pos w hw).1⟩
def oH:bN:=fun xs Q=>∃ c d n m:Int,xs = [.int c,.int d,.int n,.int m]/\0<=n/\n<=8/\0 < m/\m<=61/\∀ ws ls,WD n ws ls->Q (b5 ws ls)
abbrev zN:aO:=ag9
theorem ap6 : dN zN ["wants_cell", "links_cell", "many", "most", "wants", "k", "links", "one", "other"] oH := by
  rintro xs Q ⟨c, d, n, m, rfl, n0, n1, m0, m1, q⟩
  refine ⟨by decide, rfl, rfl, rfl, ?_⟩
  refine ⟨_, rfl, n, rfl, by omega, by omega, fun i ρ => ∃ (c' : Int) (y : Option Slot) (ws : List Int), ρ = [si c', si d, si n, si m, some (.own (.lst (intz ws))), y, none, none, none] /\ ws.length = i /\ ∀ w ∈ ws, 0 <= w /\ w <= 60, ⟨c, none, [], rfl, rfl, fun _ h => nomatch h⟩, ?_, ?_⟩
  · rintro i y ρ hy ⟨c', y0, ws, rfl, hl, hp⟩
    obtain ⟨rfl, hi⟩ := hV hy
    refine ⟨_, rfl, _, rfl, _, rfl, _, _, rfl, rfl, m0, trivial, by rw [bH]; omega, ?_⟩
    refine ⟨_, rfl, _, rfl, _, _, rfl, rfl, ⟨m0, by omega⟩, trivial, ?_⟩
    refine ⟨c' / m, si (0 + (i : Int)), ws ++ [c' % m], ?_, by rw [ax9, hl]; rfl, fun w hw => ?_⟩
    · rw [fR]; rfl
    · rcases aA8.mp hw with hw | hw
      · exact hp w hw
      · rw [ay2.mp hw]; exact ⟨aC7 _ (by omega), by have := aB7 c' m0; omega⟩
  rintro ρ ⟨c', y0, ws, rfl, hl, hp⟩
  rw [eY] at hl
  refine ⟨by decide, rfl, rfl, rfl, ?_⟩
  refine ⟨_, rfl, n, rfl, by omega, by omega, fun i ρ => ∃ (d' : Int) (y z : Option Slot) (ls : List (Int × Int)), ρ = [si c', si d', si n, si m, some (.own (.lst (intz ws))), y0, some (.own (.lst (aW ls))), y, z] /\ fB n ls i 0 /\ ls.length <= i * 7, ⟨d, none, none, [], rfl, ⟨(fun _ h => nomatch h), .nil, (fun _ h => nomatch h)⟩, az7 _⟩, ?_, ?_⟩
  · rintro i y ρ hy ⟨d', y1, z, ls, rfl, hin, hll⟩
    obtain ⟨rfl, hi⟩ := hV hy
    refine ⟨_, rfl, _, _, rfl, rfl, _, rfl, _, _, rfl, rfl, by omega, fun j ρ => ∃ (d' : Int) (z : Option Slot) (ls : List (Int × Int)), ρ = [si c', si d', si n, si m, some (.own (.lst (intz ws))), y0, some (.own (.lst (aW ls))), si (0 + (i : Int)), z] /\ fB n ls i (i + 1 + j) /\ ls.length <= i * 7 + j, ⟨d', z, ls, rfl, hin.mono (.inr ⟨rfl, by omega⟩), by omega⟩, ?_, ?_⟩
    · rintro j y ρ hy ⟨d2, z2, ls2, rfl, hin2, hl2⟩
      obtain ⟨rfl, hj⟩ := hV hy
      refine ⟨_, rfl, _, _, rfl, rfl, (by show (0 : Int) < 2; decide), .inl ⟨_, _, rfl, rfl, _, rfl, ?_⟩⟩
      have tail : ∀ ls3 : List (Int × Int), fB n ls3 i (i + 1 + (j + 1 : Nat)) -> ls3.length <= i * 7 + (j + 1) -> (bB 1 (cM (a6 1) (qC (.int 2)))) { nx := fun ρ => ∃ (d' : Int) (z : Option Slot) (ls : List (Int × Int)), ρ = [si c', si d', si n, si m, some (.own (.lst (intz ws))), y0, some (.own (.lst (aW ls))), si (0 + (i : Int)), z] /\ fB n ls i (i + 1 + (j + 1 : Nat)) /\ ls.length <= i * 7 + (j + 1), rt := Q }
          [si c', si d2, si n, si m, some (.own (.lst (intz ws))), y0, some (.own (.lst (aW ls3))), si (0 + (i : Int)), si (0 + (i : Int) + 1 + (j : Int))] := fun ls3 h3 h4 =>
        ⟨_, rfl, _, _, rfl, rfl, ⟨by decide, by decide⟩, trivial, _, _, ls3, rfl, h3, h4⟩
      by_cases h : d2 % 2 = 1
      · show if decide (d2 % 2 = 1) = true then _ else _
        rw [ay0 h]
        refine b7 ⟨_, rfl, _, rfl, _, rfl, by show 2 <= 1000; decide, rfl, trivial, by rw [sJ]; omega, ?_⟩
        have ad := hin2.add (by omega)
        have := tail (ls2 ++ [((i : Int), (i : Int) + 1 + (j : Int))]) (by have e : (i : Int) + 1 + ((j + 1 : Nat) : Int) = (i : Int) + 1 + (j : Int) + 1 := by omega
                                                                           rw [e]; exact ad) (by rw [ax9, az1]; omega)
        unfold aW at this
        rw [aC1] at this
        rw [show (0 : Int) + (i : Int) = (i : Int) by omega] at this ⊢
        exact this
      · show if decide (d2 % 2 = 1) = true then _ else _
        rw [ax4 h]
        exact aR (tail ls2 (hin2.mono (.inr ⟨rfl, by omega⟩)) (by omega))
    · rintro ρ ⟨d2, z2, ls2, rfl, hin2, hl2⟩
      rw [eY] at hl2
      exact ⟨d2, _, z2, ls2, rfl, hin2.mono (.inl (by omega)), by omega⟩
  rintro ρ ⟨d', y1, z, ls, rfl, hin, hll⟩
  rw [eY] at hll
  refine ⟨_, rfl, ⟨_, _, rfl, rfl, cI _, _, rfl, ⟨_, _, rfl, rfl, gF _, by show 2 <= 1000; decide, ?_, trivial, q ws ls ⟨by omega, hin.inn, by omega, hin.ord, hp⟩⟩, fun ns z => by cases z⟩, fun ns z => by cases z⟩
  show (flat (.tup (intz ws)) && (flat (.tup (aW ls)) && true)) = true
  rw [xV]
  show (true && (flats (aW ls) && true)) = true
  rw [show flats (aW ls) = true from gF ls]; rfl
def oI:bN:=fun xs Q=>∃ c n:Int,xs = [.int c,.int n]/\0<=n/\n<=40/\∀ ws ls,WD n ws ls->Q (b5 ws ls)
def zO:aO:=(aP (eW 2 (dJ aE))
 (aP (eW 3 (dJ aE))
 (aP (bB 4 (fN (qC (.int 1)) (bO (a6 0) (qC (.int 8)))))
 (aP (cR (gW (a6 1)) (cJ 5)
  (aP (gA 2 (bO (cM (a6 0) (fN (qC (.int 8)) (a6 5))) (qC (.int 61))))
  (cR (nG (fN (a6 5) (qC (.int 1))) (a6 1)) (cJ 6)
   (aP (bB 7 (fN (fN (bO (a6 0) (qC (.int 1000000007))) (jP (jP (qC (.int 977)) (a6 5)) (a6 5))) (jP (qC (.int 40692)) (a6 6))))
   (aP (bB 7 (bO (jP (fN (a6 7) (qC (.int 1))) (qC (.int 48271))) (qC (.int 2147483647))))
   (c8 (aV (nP (bO (cM (bO (jP (a6 7) (a6 7)) (qC (.int 2147483647))) (qC (.int 8))) (qC (.int 8))) (a6 4))) (gA 3 (dI (a7 (a6 5) (a7 (a6 6) aE)))) c7))))))
 (bF (dI (a7 (aK gC (a7 (a6 2) aE)) (a7 (aK gC (a7 (a6 3) aE)) aE))))))))
theorem ap7:dN zO ["cell","many","wants","links","mark","one","other","number"] oI:=by
 rintro xs Q ⟨c,n,rfl,n0,n1,q⟩
 refine⟨by decide,rfl,rfl,rfl,?_⟩
 refine⟨by decide,rfl,rfl,rfl,?_⟩
 refine⟨_,rfl,_,_,rfl,rfl,(by show (0:Int) < 8; decide),_,_,rfl,rfl,trivial,?_⟩
 dsimp only
 generalize (1:Int)+c % 8=mk
 refine⟨_,rfl,n,rfl,by omega,by omega,fun i ρ=>∃ (y5 y6 y7:Option Slot) (ws:List Int) (ls:List (Int × Int)),ρ = [si c,si n,some (.own (.lst (intz ws))),some (.own (.lst (aW ls))),si mk,y5,y6,y7]/\ws.length=i/\(∀ w ∈ ws,0<=w/\w<=60)/\fB n ls i 0/\ls.length<=i * 40,
  ⟨none,none,none,[],[],rfl,rfl,(fun _ h=>nomatch h),⟨(fun _ h=>nomatch h),.nil,(fun _ h=>nomatch h)⟩,az7 _⟩,?_,?_⟩
 ·rintro i y ρ hy ⟨y5,y6,y7,ws,ls,rfl,hw,hp,hin,hll⟩
  obtain ⟨rfl,hi⟩:=hV hy
  have e0:(0:Int)+(i:Int)=(i:Int):=by omega
  rw [e0]
  refine⟨_,rfl,_,rfl,_,rfl,_,_,rfl,rfl,_,_,rfl,rfl,⟨by omega,by omega⟩,_,_,rfl,rfl,(by show (0:Int) < 61; decide),trivial,by rw [bH]; omega,?_⟩
  dsimp only
  have u0:0<=c / (8+(i:Int)) % 61:=aC7 _ (by decide)
  have u1:c / (8+(i:Int)) % 61 < 61:=aB7 _ (by decide)
  generalize c / (8+(i:Int)) % 61=u at u0 u1
  have ex:intz ws ++ [PV.int u]=intz (ws ++ [u]):=(fR ws [u]).symm
  rw [ex]
  refine⟨_,rfl,_,_,rfl,rfl,_,rfl,_,_,rfl,rfl,by omega,fun j ρ=>∃ (y6 y7:Option Slot) (ls:List (Int × Int)),ρ = [si c,si n,some (.own (.lst (intz (ws ++ [u])))),some (.own (.lst (aW ls))),si mk,si i,y6,y7]/\fB n ls i (i+1+j)/\ls.length<=i * 40+j,⟨y6,y7,ls,rfl,hin.mono (.inr ⟨rfl,by omega⟩),by omega⟩,?_,?_⟩
  ·rintro j y ρ hy ⟨z6,z7,ls2,rfl,hin2,hl2⟩
   obtain ⟨rfl,hj⟩:=hV hy
   refine⟨_,rfl,_,_,rfl,rfl,(by show (0:Int) < 1000000007; decide),_,rfl,_,_,rfl,rfl,.inl ⟨by decide,by decide⟩,_,rfl,_,_,rfl,rfl,.inr ⟨by omega,by omega⟩,_,_,rfl,rfl,_,rfl,_,_,rfl,rfl,.inl ⟨by decide,by decide⟩,_,_,rfl,rfl,trivial,?_⟩
   dsimp only
   generalize c % 1000000007+977 * (i:Int) * (i:Int)+40692 * ((i:Int)+1+(j:Int))=nm
   refine⟨_,rfl,_,_,rfl,rfl,_,_,rfl,rfl,.inr ⟨by decide,by decide⟩,_,_,rfl,rfl,(by show (0:Int) < 2147483647; decide),trivial,?_⟩
   dsimp only
   have b1:0<=(nm+1) * 48271 % 2147483647:=aC7 _ (by decide)
   have b2:(nm+1) * 48271 % 2147483647 < 2147483647:=aB7 _ (by decide)
   generalize (nm+1) * 48271 % 2147483647=num at b1 b2
   refine⟨_,rfl,_,rfl,_,_,rfl,rfl,.inl ⟨by omega,by omega⟩,_,_,rfl,rfl,(by show (0:Int) < 2147483647; decide),_,_,rfl,rfl,⟨by decide,by decide⟩,_,_,rfl,rfl,(by show (0:Int) < 8; decide),_,rfl,_,_,rfl,rfl,_,rfl,?_⟩
   dsimp only
   cases hc:decide (num * num % 2147483647 / 8 % 8 < mk) with
   | false=>exact aR ⟨si ((i:Int)+1+(j:Int)),si num,ls2,rfl,hin2.mono (.inr ⟨rfl,by omega⟩),by omega⟩
   | true=>
    refine b7 ⟨_,rfl,_,rfl,_,rfl,by show 2<=1000; decide,rfl,trivial,by rw [sJ]; omega,?_⟩
    have ad:=hin2.add (by omega)
    refine⟨si ((i:Int)+1+(j:Int)),si num,ls2 ++ [((i:Int),(i:Int)+1+(j:Int))],?_,?_,by rw [ax9,az1]; omega⟩
    ·unfold aW
     rw [aC1]; rfl
    ·have e:(i:Int)+1+((j+1:Nat):Int)=(i:Int)+1+(j:Int)+1:=by omega
     rw [e]; exact ad
  ·rintro ρ ⟨z6,z7,ls2,rfl,hin2,hl2⟩
   rw [eY] at hl2
   refine⟨si i,z6,z7,ws ++ [u],ls2,rfl,by rw [ax9,hw]; rfl,fun w hw'=>?_,hin2.mono (.inl (by omega)),by omega⟩
   rcases aA8.mp hw' with h | h
   ·exact hp w h
   ·rw [ay2.mp h]; omega
 rintro ρ ⟨y5,y6,y7,ws,ls,rfl,hw,hp,hin,hll⟩
 rw [eY] at hw hll
 refine⟨_,rfl,⟨_,_,rfl,rfl,cI _,_,rfl,⟨_,_,rfl,rfl,gF _,by show 2<=1000; decide,lI ws ls,trivial,q ws ls ⟨by omega,hin.inn,by omega,hin.ord,hp⟩⟩,fun ns z=>by cases z⟩,fun ns z=>by cases z⟩
def oJ:bN:=fun xs Q=>∃ x ns n wy,xs = [x,.int n,.int wy]/\hZ x ns/\ns.length<=63/\0<=n/\n<=40/\∀ ws ls,WD n ws ls->Q (b5 ws ls)
def t6:aO:=(aP (c8 (gT (aV (iG (bO (cM (a6 2) (qC (.int 4))) (qC (.int 2))) (qC (.int 1)))) (aV (nP (a6 1) (qC (.int 9))))) (bF (aK oH (a7 (aK gG (a7 (a6 0) (a7 (qC (.int 0)) aE))) (a7 (aK gG (a7 (a6 0) (a7 (qC (.int 1)) aE))) (a7 (a6 1) (a7 (bQ (dJ (a7 (qC (.int 4)) (a7 (qC (.int 3)) (a7 (qC (.int 6)) (a7 (qC (.int 61)) aE))))) (bO (a6 2) (qC (.int 4)))) aE)))))) c7)
 yL)
def zP:aO:=(aP (c8 (gT (aV (iG (bO (cM (a6 2) (qC (.int 8))) (qC (.int 4))) (qC (.int 1)))) (aV (rG (a6 1) (qC (.int 8))))) (bF (aK oI (a7 (aK gG (a7 (a6 0) (a7 (qC (.int 0)) aE))) (a7 (a6 1) aE)))) c7)
 t6)
theorem ap8 {x:PV}{ns:List Int}{n wy:Int}{Q:PV->Prop} (hx:hZ x ns) (hns:ns.length<=63) (n0:0<=n) (n1:n<=40) (q:∀ ws ls,WD n ws ls->Q (b5 ws ls)):t6 { nx:=fun _=>Q .non,rt:=Q } [some (.sh (flat x) x),si n,si wy,none,none,none,none,none,none]:=by
 have d4:(0:Int) < 4:=by decide
 have last:yL { nx:=fun _=>Q .non,rt:=Q } [some (.sh (flat x) x),si n,si wy,none,none,none,none,none,none]:=by
  refine⟨by decide,rfl,rfl,rfl,?_⟩
  refine⟨_,rfl,n,rfl,by omega,by omega,fun i ρ=>∃ (y z:Option Slot) (ws:List Int),ρ = [some (.sh (flat x) x),si n,si wy,some (.own (.lst (intz ws))),y,z,none,none,none]/\ws.length=i/\∀ w ∈ ws,0<=w/\w<=60,⟨none,none,[],rfl,rfl,fun _ h=>nomatch h⟩,?_,?_⟩
  ·rintro i y ρ hy ⟨y0,z0,ws,rfl,hl,hp⟩
   obtain ⟨rfl,hi⟩:=hV hy
   refine⟨_,rfl,_,rfl,x,ns,_,rfl,hx,by omega,trivial,?_⟩
   generalize ns.getD ((0:Int)+(i:Int)).toNat 0=cell
   obtain ⟨z,hz,hzz⟩:=yM (a:=cell / 5 % 4) (b:=cell / 5 % 3) (c:=cell / 5 % 6) (d:=cell / 5 % 61) (i:=wy % 4) (aC7 _ (by decide)) (aB7 _ d4)
   refine⟨_,rfl,_,rfl,_,_,rfl,rfl,⟨by decide,by decide⟩,_,_,rfl,rfl,d4,_,rfl,_,_,rfl,rfl,⟨by decide,by decide⟩,_,_,rfl,rfl,(by show (0:Int) < 3; decide),_,rfl,_,_,rfl,rfl,⟨by decide,by decide⟩,_,_,rfl,rfl,(by show (0:Int) < 6; decide),_,rfl,_,_,rfl,rfl,⟨by decide,by decide⟩,_,_,rfl,rfl,(by show (0:Int) < 61; decide),by show 4<=1000; decide,rfl,_,rfl,_,_,rfl,rfl,d4,_,_,_,rfl,rfl,hz,o0 _ _,by rw [bH]; omega,?_⟩
   refine⟨si (0+(i:Int)),si cell,ws ++ [z],?_,by rw [ax9,hl]; rfl,fun w hw=>?_⟩
   ·rw [fR]; rfl
   ·rcases aA8.mp hw with hw | hw
    ·exact hp w hw
    ·rw [ay2.mp hw]
     rcases hzz with e | e | e | e <;> rw [e] <;> omega
  rintro ρ ⟨y0,z0,ws,rfl,hl,hp⟩
  rw [eY] at hl
  refine⟨rfl,rfl,?_⟩
  refine⟨_,rfl,_,hx.seq,aj0 hx,fun i ρ=>∃ (y z u:Option Slot) (ps:List (List aD × PV)),ρ = [some (.sh (flat x) x),si n,si wy,some (.own (.lst (intz ws))),y0,y,some (.own (.dT ps)),z,u]/\DL n ps i,⟨z0,none,none,[],rfl,⟨(fun _ h=>nomatch h),aw6 _,rfl,.nil⟩⟩,?_,?_⟩
  ·rintro i y ρ hy ⟨y1,z1,u1,ps,rfl,dl⟩
   obtain ⟨cell,rfl,hc⟩:=jW hy
   have hi:i < ns.length:=(ax3.mp hc).1
   generalize iT _ _=gg
   have dl1:DL n ps (i+1):=⟨dl.key,Nat.le_succ_of_le dl.len,dl.fl,dl.nd⟩
   refine⟨_,rfl,_,_,rfl,rfl,_,rfl,?_⟩
   by_cases h1:(1:Int) < n
   ·dsimp only
    rw [ay0 h1]
    have np:(0:Int) < n:=by omega
    refine b7 ⟨_,rfl,_,rfl,_,_,rfl,rfl,np,trivial,?_⟩
    refine⟨_,rfl,_,_,rfl,rfl,(by show (0:Int) < 1000000007; decide),_,_,rfl,rfl,.inr ⟨by decide,by decide⟩,_,_,rfl,rfl,(by show (0:Int) < 2147483647; decide),_,_,rfl,rfl,⟨by decide,by decide⟩,_,rfl,_,_,rfl,rfl,np,trivial,?_⟩
    dsimp only
    generalize hone:cell % n=one
    generalize hoth:cell % 1000000007 * 48271 % 2147483647 / 89 % n=oth
    have o1:0<=one/\one < n:=by rw [<- hone]; exact⟨aC7 _ (by omega),aB7 _ np⟩
    have o2:0<=oth/\oth < n:=by rw [<- hoth]; exact⟨aC7 _ (by omega),aB7 _ np⟩
    refine⟨_,rfl,_,rfl,.inl ⟨_,_,rfl,rfl,_,rfl,?_⟩⟩
    by_cases h2:one=oth
    ·show if (!decide (one=oth))=true then _ else _
     rw [ay0 h2]
     exact aR ⟨some (.sh (gg || true) (.int cell)),si one,si oth,ps,rfl,dl1⟩
    ·show if (!decide (one=oth))=true then _ else _
     rw [ax4 h2]
     refine b7 ⟨_,rfl,_,rfl,_,rfl,_,_,rfl,_,rfl,_,rfl,_,_,rfl,by show 2<=1000; decide,rfl,j6 (if oth < one then oth else one,if oth > one then oth else one),rfl,trivial,by have:=dl.len; omega,?_⟩
     refine⟨some (.sh (gg || true) (.int cell)),si one,si oth,_,rfl,dl.put _ ?_⟩
     dsimp only
     split <;> split <;> omega
   ·dsimp only
    rw [ax4 h1]
    exact aR ⟨some (.sh (gg || true) (.int cell)),z1,u1,ps,rfl,dl1⟩
  rintro ρ ⟨y1,z1,u1,ps,rfl,dl⟩
  rw [bH] at dl
  obtain ⟨ls,e1,e2,e3,e4⟩:=DL.links dl.key
  have lnd:ls.Nodup:=by
   have:=dl.nd
   rw [e4] at this
   exact (aH2.mp this).imp fun h e=>h (congrArg j6 e)
  have hlen:=dl.len
  refine⟨_,rfl,⟨_,_,rfl,rfl,cI _,_,rfl,ps,rfl,ls.map two,?_,by rw [aw9]; omega,?_,fun zs pz so=>?_⟩,fun ns z=>by cases z⟩
  ·show [PV.lst (ps.map fun p=>PV.tup (p.1.map kP))]=_
   rw [e1,yK]
  ·intro y hy z
   obtain ⟨l,_,rfl⟩:=aB9.mp hy
   cases z
  obtain ⟨ls',rfl,pl⟩:=ai4 pz
  rw [<- yK]
  exact⟨⟨_,_,rfl,rfl,gF _,by show 2<=1000; decide,ai6 _ _,trivial,q ws ls' (WD.perm (by omega) e2 (by omega) lnd hp pl so)⟩,fun ns z=>by cases z⟩
 refine⟨_,rfl,_,_,rfl,rfl,⟨by decide,by decide⟩,_,_,rfl,rfl,(by show (0:Int) < 2; decide),.inl ⟨_,_,rfl,rfl,_,rfl,?_⟩⟩
 cases hc:(decide (wy / 4 % 2=1)) with
 | false=>exact aR (aR last)
 | true=>
  refine b7 ⟨_,rfl,_,_,rfl,rfl,_,rfl,?_⟩
  by_cases h:n < 9
  ·dsimp only
   rw [ay0 h]
   obtain ⟨z,hz,e⟩:=yM (a:=4) (b:=3) (c:=6) (d:=61) (i:=wy % 4) (aC7 _ (by decide)) (aB7 _ d4)
   refine b7 ⟨_,rfl,x,ns,0,rfl,hx,by decide,_,rfl,x,ns,1,rfl,hx,by decide,_,rfl,by show 4<=1000; decide,rfl,_,rfl,_,_,rfl,rfl,d4,_,_,_,rfl,rfl,hz,_,_,n,z,rfl,n0,by omega,by omega,by omega,fun ws ls w=>⟨trivial,q ws ls w⟩⟩
  ·dsimp only
   rw [ax4 h]; exact aR last
theorem ap9:dN zP ["flow","many","way","wants","k","cell","pairs","one","other"] oJ:=by
 rintro xs Q ⟨x,ns,n,wy,rfl,hx,hns,n0,n1,q⟩
 have d4:(0:Int) < 4:=by decide
 have mid:t6 { nx:=fun _=>Q .non,rt:=Q } [some (.sh (flat x) x),si n,si wy,none,none,none,none,none,none]:=ap8 hx hns n0 n1 q
 refine⟨_,rfl,_,_,rfl,rfl,⟨by decide,by decide⟩,_,_,rfl,rfl,d4,.inl ⟨_,_,rfl,rfl,_,rfl,?_⟩⟩
 cases hc:(decide (wy / 8 % 4=1)) with
 | false=>exact aR (aR mid)
 | true=>
  refine b7 ⟨_,rfl,_,_,rfl,rfl,_,rfl,?_⟩
  by_cases h:(8:Int) < n
  ·dsimp only
   rw [ay0 h]
   exact b7 ⟨_,rfl,x,ns,0,rfl,hx,by decide,_,rfl,_,n,rfl,by omega,by omega,fun ws ls w=>⟨trivial,q ws ls w⟩⟩
  ·dsimp only
   rw [ax4 h]; exact aR mid
def zQ (os:List Int) (h:Int):Int:=os.getD h.toNat 0
def mv (os:List Int) (l:Int × Int):Int × Int:=nrm (zQ os l.1,zQ os l.2)
def jZ:bN:=fun xs Q=>∃ ws ls x y,xs = [b5 ws ls,.tup [x,y]]/\cU x ws/\(y = .tup (aW ls) ∨ y = .lst (aW ls))/\ws.length<=1000/\ls.length<=100000/\Q (.bl true)
def zR (K:PySem.W.Frag):aO:=(aP (c8 (fJ (dW (aV (gY K "tuple" (a6 0)))) (fJ (aV (lD (aK dC (a7 (a6 0) aE)) (qC (.int 2)))) (dW (aV (aK lK (a7 (bQ (a6 0) (qC (.int 0))) (a7 (bQ (a6 1) (qC (.int 0))) aE))))))) (bF (qC (.bl false))) c7)
 (aP (c8 (fJ (dW (aV (gY K "tuple" (bQ (a6 0) (qC (.int 1)))))) (aV (lD (aK dC (a7 (bQ (a6 0) (qC (.int 1))) aE)) (aK dC (a7 (bQ (a6 1) (qC (.int 1))) aE))))) (bF (qC (.bl false))) c7)
 (aP (cR (gW (aK dC (a7 (bQ (a6 1) (qC (.int 1))) aE))) (cJ 2)
  (c8 (dW (aV (aK lK (a7 (bQ (bQ (a6 0) (qC (.int 1))) (a6 2)) (a7 (bQ (bQ (a6 1) (qC (.int 1))) (a6 2)) aE))))) (bF (qC (.bl false))) c7))
 (bF (qC (.bl true))))))
theorem aq0 {K:PySem.W.Frag} (kt:PySem.W.kitOne K (.type "tuple") (.type "tuple")=some true):dN (zR K) ["found","due","k"] jZ:=by
 rintro xs Q ⟨ws,ls,x,y,rfl,hx,hy,lw,ll,q⟩
 have sy:gU y=some (aW ls):=by rcases hy with rfl | rfl <;> rfl
 have ly:nF y=some (aW ls).length:=by rcases hy with rfl | rfl <;> rfl
 have pl:(aW ls).length=ls.length:=aw9 _
 refine⟨_,rfl,_,_,rfl,kt,_,rfl,aR ⟨_,rfl,_,_,rfl,rfl,.inl ⟨_,_,rfl,rfl,_,rfl,?_⟩⟩⟩
 show if (!decide ((2:Int)=2))=true then _ else _
 refine aR ⟨_,rfl,_,_,_,rfl,rfl,rfl,_,rfl,_,_,_,rfl,rfl,rfl,x,ws,ws,rfl,hx,lw,lw,_,rfl,?_⟩
 rw [ay0 rfl]
 refine aR ?_
 refine⟨_,rfl,_,_,_,rfl,rfl,rfl,_,_,rfl,kt,_,rfl,aR ⟨_,rfl,_,_,_,rfl,rfl,rfl,_,_,rfl,rfl,_,rfl,_,_,_,rfl,rfl,rfl,_,_,rfl,ly,.inl ⟨_,_,rfl,rfl,_,rfl,?_⟩⟩⟩
 show if (!decide (((aW ls).length:Int)=((aW ls).length:Int)))=true then _ else _
 rw [ay0 rfl]
 refine aR ?_
 refine⟨_,rfl,_,_,_,rfl,rfl,rfl,_,_,rfl,ly,_,rfl,by omega,by omega,fun i ρ=>∃ z,ρ = [some (.sh (flat (b5 ws ls)) (b5 ws ls)),some (.sh (flat (.tup [x,y])) (.tup [x,y])),z],⟨none,rfl⟩,?_,?_⟩
 ·rintro i z ρ hz ⟨z0,rfl⟩
  obtain ⟨rfl,hi⟩:=hV hz
  have i1:i < ls.length:=by omega
  have hl:ls[i]? = some ls[i]:=aw3 i1
  have a1:L2.atI (aW ls) ((0:Int)+(i:Int))=some (.tup (intz [ls[i].1,ls[i].2])):=by
   rw [show (0:Int)+(i:Int)=(i:Int) by omega]
   exact kO (by unfold aW; rw [aw8,hl]; rfl)
  refine⟨_,rfl,_,_,_,rfl,rfl,rfl,_,rfl,_,_,_,rfl,rfl,a1,_,rfl,_,_,_,rfl,rfl,rfl,_,rfl,_,_,_,sy,rfl,a1,_,[ls[i].1,ls[i].2],[ls[i].1,ls[i].2],rfl,.inl rfl,by show 2<=1000; decide,by show 2<=1000; decide,_,rfl,?_⟩
  rw [ay0 rfl]
  exact aR ⟨_,rfl⟩
 ·rintro ρ ⟨z,rfl⟩
  exact⟨trivial,q⟩
end Core
namespace L2
open PySem PySem.Spec PyProof.Rows
def j8:HO->Bool
 | .dK _=>true
 | .dT _=>true
 | _=>false
section
variable {X : Cx} {pins : List (Addr × Obj)} {σ : St} {H H' : Hp} {s : Shared} {a : Addr}
theorem a5.frozeD {o:Obj}{u:HO} (I:a5 X pins σ H s) (h:H a=some u) (du:j8 u=true) (e:s.heap.get? a=some o):a5 X pins σ (upd H a (.frz o u)) s:=by
 have own:∀ {c:Addr}{y:Addr},H c=some (.own y)->c ≠ a:=fun {c y} q z=>by rw [z,h] at q; cases q; cases du
 have tp:∀ {c:Addr}{xs:List V},H c=some (.tup xs)->c ≠ a:=fun {c xs} q z=>by rw [z,h] at q; cases q; cases du
 refine I.reH (a:=a) (fun b n=>aB n) ⟨_,h⟩ (fun xs q=>by rw [h] at q; cases q; cases du) (fun o' v q=>by have:=I.base.frzs a o' v q; rw [h] at this; cases this; cases du) (fun ps q=>by rw [h] at q; cases q; cases du) fun b v q=>?_
 by_cases hb:b=a
 ·subst hb
  rw [aU] at q; cases q
  exact⟨e,(I.hok b _ h).stay (fun _ _ _ q=>q) (fun c q=>by rw [aB (own q)]; exact q) fun c xs q=>by rw [aB (tp q)]; exact q⟩
 ·rw [aB hb] at q
  exact (I.hok b v q).stay (fun _ _ _ q=>q) (fun c q=>by rw [aB (own q)]; exact q) fun c xs q=>by rw [aB (tp q)]; exact q
end
def t7 (H:Hp):HO->List V->Prop
 | .dK kvs,ys=>ys=kvs.map fun p=>kV p.1
 | .dT kvs,ys=>Paired (jF H) ys (kvs.map (·.1))
 | _,_=>False
section
variable {X : Cx} {tg l : Expr} {tl : TE}
def zS (tl:TE):TI:=fun σ H R=>tl σ H fun x H1=>∃ a u,x = .ref a/\H1 a=some u/\j8 u=true/\∀ o ys,t7 H1 u ys->R (xQ a o ys) (upd H1 a (.frz o u))
theorem aq1 (hl:PE X l tl):PI X tg l (zS tl):=by
 intro pins s σ H R I h
 refine aJ (hl pins s σ H _ I h) fun v s1 h1=>?_
 obtain ⟨x,H1,I1,r1,a,u,e,ha,du,q⟩:=h1
 subst e
 cases r1
 have hf:H1 s1.heap.objs.size=none:=I1.hok.fresh (aw6 _)
 obtain ⟨es,ep,ys,⟨o,e1,e2,e3⟩,far,pk,vl⟩:∃ es ep ys,Raw.dU s1.heap a es ep/\(a == sysModules)=false/\t7 H1 u ys/\aL ys (es.toList.map (·.key)):=by
  cases u with
  | dK kvs=>
   obtain ⟨es,ep,rw_,far,vl,z⟩:=U1 I1 ha
   exact⟨es,ep,_,rw_,far,rfl,vl⟩
  | dT kvs=>
   obtain ⟨es,ep,ys,rw_,far,pk,vl,z⟩:=wA I1 ha
   exact⟨es,ep,ys,rw_,far,pk,vl⟩
  | _=>cases du
 refine Raw.made far ⟨o,e1,e2,e3⟩ ?_
 refine⟨s1.heap.objs.size,[s1.heap.objs.size],_,_,upd H1 a (.frz o u),rfl,(I1.frozeD ha du e1).kept (t':=s1.toks) fun b o e=>aw2 _ e,af8 a _ ⟨e2,e3⟩ vl,⟨_,ax5 _ rfl,rfl,rfl⟩,fun b hb=>?_,q o ys pk⟩
 obtain rfl:b=s1.heap.objs.size:=by simpa using hb
 exact I1.fpOk (aw6 _) (by rw [aB (fun z=>by rw [z,ha] at hf; cases hf)]; exact hf)
theorem aq2 {st:Stmt}{t:TE}{i:Nat} (h:PS X st (iN t (bY i))):PS X st (iN (xR X t) (bY i)):=by
 intro pins s σ H D I hq
 refine aJ (h pins s σ H { D with nx:=fun σ' H'=>∃ a o u,H' a=some (.frz o u)/\(∀ o' v',X.H₀ a ≠ some (.frz o' v'))/\D.nx σ' (upd H' a u) } I hq) fun f s1 h1=>?_
 cases f with
 | next=>
  obtain ⟨σ',H1,I1,a,o,u,e,n,q⟩:=h1
  exact⟨σ',_,I1.thaw e n,q⟩
 | _=>exact h1
end
end L2
namespace PP
open PySem L2
mutual
def bX:PV->Bool
 | .tup xs=>nods xs
 | .lst xs=>nods xs
 | .kt xs=>nods xs
 | .dK _=>false
 | .dT _=>false
 | .fK _=>false
 | .fT _=>false
 | .non=>true
 | .bl _=>true
 | .int _=>true
 | .str _=>true
 | .scr _=>true
 | .exc _=>true
def nods:List PV->Bool
 | []=>true
 | x :: r=>bX x && nods r
end
structure iK (M M':Addr->Prop) (H H':Hp):Prop where
 lst:∀ a us,M a->H a=some (.lst us)->M' a/\H' a=some (.lst us)
 tup:∀ a us,H a=some (.tup us)->H' a=some (.tup us)
 frz:∀ a o u,H a=some (.frz o u)->j8 u=false->H' a=some (.frz o u)
mutual
theorem aA.keepN {K:PySem.W.Frag}{M M':Addr->Prop}{H H':Hp} (k:iK M M' H H'):∀ {v:V}{x:PV},bX x=true->aA K M H v x->aA K M' H' v x
 | _,_,_,.non=>.non
 | _,_,_,.bl b=>.bl b
 | _,_,_,.int i=>.int i
 | _,_,_,.str x=>.str x
 | _,_,f,.tup h r=>.tup (k.tup _ _ h) (Reps.keepN k (by unfold PP.bX at f; exact f) r)
 | _,_,f,.lst m h r=>.lst (k.lst _ _ m h).1 (k.lst _ _ m h).2 (Reps.keepN k (by unfold PP.bX at f; exact f) r)
 | _,_,f,.dK m h e r=>by unfold PP.bX at f; cases f
 | _,_,f,.dT m h e r=>by unfold PP.bX at f; cases f
 | _,_,_,.scr h=>.scr (h.elim (fun ⟨o,e⟩=>.inl ⟨o,k.frz _ _ _ e rfl⟩) .inr)
 | _,_,f,.kt h r=>.kt h (Reps.keepN k (by unfold PP.bX at f; exact f) r)
 | _,_,_,.exc h e c=>.exc (k.frz _ _ _ h rfl) e c
 | _,_,f,.fK h e r=>by unfold PP.bX at f; cases f
 | _,_,f,.fT h e r=>by unfold PP.bX at f; cases f
theorem Reps.keepN {K:PySem.W.Frag}{M M':Addr->Prop}{H H':Hp} (k:iK M M' H H'):∀ {vs:List V}{xs:List PV},nods xs=true->Reps K M H vs xs->Reps K M' H' vs xs
 | _,_,_,.nil=>.nil
 | _,_,f,.cons r t=>by
  unfold PP.nods at f
  rw [az2] at f
  exact .cons (aA.keepN k f.1 r) (Reps.keepN k f.2 t)
end
theorem iK.froze {M M':Addr->Prop}{H:Hp}{a:Addr}{u:HO}{o:Obj} (h:H a=some u) (du:j8 u=true) (m:∀ b us,M b->H b=some (.lst us)->M' b):iK M M' H (upd H a (.frz o u)):=
 ⟨fun b us hb e=>⟨m b us hb e,by rw [aB (fun z=>by rw [z,h] at e; cases e; cases du)]; exact e⟩,fun b us e=>by rw [aB (fun z=>by rw [z,h] at e; cases e; cases du)]; exact e,
  fun b o' u' e _=>by rw [aB (fun z=>by rw [z,h] at e; cases e; cases du)]; exact e⟩
theorem iK.thaw {M M':Addr->Prop}{H:Hp}{a:Addr}{u w:HO}{o:Obj} (h:H a=some (.frz o u)) (du:j8 u=true) (m:∀ b us,M b->H b=some (.lst us)->M' b):iK M M' H (upd H a w):=
 ⟨fun b us hb e=>⟨m b us hb e,by rw [aB (fun z=>by rw [z,h] at e; cases e)]; exact e⟩,fun b us e=>by rw [aB (fun z=>by rw [z,h] at e; cases e)]; exact e,
  fun b o' u' e d'=>by rw [aB (fun z=>by rw [z,h] at e; cases e; rw [du] at d'; cases d')]; exact e⟩
theorem iK.same {M M':Addr->Prop}{H H':Hp} (s:a9 H H') (m:∀ b us,M b->H b=some (.lst us)->M' b):iK M M' H H':=
 ⟨fun b us hb e=>⟨m b us hb e,s _ _ e⟩,fun b us e=>s _ _ e,fun b o' u' e _=>s _ _ e⟩
mutual
theorem zT:∀ {x:PV},flat x=true->bX x=true
 | .tup xs,f=>by unfold PP.flat at f; unfold PP.bX; exact flats_nods f
 | .kt xs,f=>by unfold PP.flat at f; unfold PP.bX; exact flats_nods f
 | .lst xs,f=>by unfold PP.flat at f; cases f
 | .dK _,f=>by unfold PP.flat at f; cases f
 | .dT _,f=>by unfold PP.flat at f; cases f
 | .fK _,f=>by unfold PP.flat at f; cases f
 | .fT _,f=>by unfold PP.flat at f; cases f
 | .non,_=>by unfold PP.bX; rfl
 | .bl _,_=>by unfold PP.bX; rfl
 | .int _,_=>by unfold PP.bX; rfl
 | .str _,_=>by unfold PP.bX; rfl
 | .scr _,_=>by unfold PP.bX; rfl
 | .exc _,_=>by unfold PP.bX; rfl
theorem flats_nods:∀ {xs:List PV},flats xs=true->nods xs=true
 | [],_=>by unfold PP.nods; rfl
 | x :: r,f=>by
  unfold PP.flats at f
  rw [az2] at f
  unfold PP.nods
  rw [zT f.1,flats_nods f.2]; rfl
end
def fz:PV->PV
 | .dK ps=>.fK ps
 | .dT ps=>.fT ps
 | x=>x
def aq3:PV->Option (List PV)
 | .dK ps=>some (ps.map fun p=>kP p.1)
 | .dT ps=>some (ps.map fun p=>.tup (p.1.map kP))
 | _=>none
def aq4:PV->List PV
 | .dK ps=>ps.map (·.2)
 | .dT ps=>ps.map (·.2)
 | _=>[]
def lR (i:Nat) (fr:List (Option Nat)) (ρ:aX):aX:=fr.map fun o=>o.bind fun j=>(ρ[j]?).join.map fun m=>Slot.sh false (if j=i then fz m.val else m.val)
theorem zU {i:Nat}{fr:List (Option Nat)}{ρ:aX}{k:Nat}{m:Slot} (h:(lR i fr ρ)[k]? = some (some m)):∃ j m0,fr[k]? = some (some j)/\ρ[j]? = some (some m0)/\m = .sh false (if j=i then fz m0.val else m0.val):=by
 unfold lR at h
 rw [aw8] at h
 cases ef:fr[k]? with
 | none=>rw [ef] at h; cases h
 | some o=>
  rw [ef] at h
  cases o with
  | none=>cases h
  | some j=>
   have h:some ((ρ[j]?).join.map fun m=>Slot.sh false (if j=i then fz m.val else m.val))=some (some m):=h
   cases er:ρ[j]? with
   | none=>rw [er] at h; cases h
   | some o2=>
    rw [er] at h
    cases o2 with
    | none=>cases h
    | some m0=>cases h; exact⟨j,m0,rfl,er,rfl⟩
theorem aq5 {K:PySem.W.Frag}{H0:Hp}{W:Addr->Prop}{σ:St}{ρ:aX}{H1 H':Hp}{D a:Addr}{o:Obj}{u:HO}{acc:List V}{fr:List (Option Nat)}{i:Nat} (px:PX K H0 W σ ρ H1) (ha:H1 a=some u) (du:j8 u=true) (hD:upd H1 a (.frz o u) D=none) (s:a9 (upd H1 a (.frz o u)) H') (hl:H' D=some (.lst acc))
  (nd:∀ j m',some j ∈ fr->j ≠ i->ρ[j]? = some (some m')->bX m'.val=true)
  (it:∀ m v,ρ[i]? = some (some m)->σ[i]? = some (some v)->aA K (Ms (upd H1 a (.frz o u)) (eG D) false) H' v (fz m.val)):PX K (upd H1 a (.frz o u)) (eG D) (cQ fr σ) (lR i fr ρ) H':=by
 refine⟨by unfold cQ lR; rw [aw9,aw9],s,fun b z=>by cases z; exact⟨hD,_,hl,rfl⟩,fun k m h=>?_,fun k l x y b h1=>?_⟩
 ·obtain ⟨j,m0,ef,er,rfl⟩:=zU h
  obtain ⟨v,ev,r⟩:=px.sl j m0 er
  refine⟨v,?_,?_⟩
  ·unfold cQ
   rw [aw8,ef]
   show some ((σ[j]?).join)=_
   rw [ev]; rfl
  ·by_cases e:j=i
   ·subst e
    show aA K _ H' v (if j=j then fz m0.val else m0.val)
    rw [if_pos rfl]
    exact it m0 v er ev
   ·show aA K _ H' v (if j=i then fz m0.val else m0.val)
    rw [if_neg e]
    have r':aA K (fun _=>True) H1 v m0.val:=(mX (Hs:=H1) r).same (a9.refl _) fun _ _=>trivial
    have hDa:D ≠ a:=fun z=>by rw [z,aU] at hD; cases hD
    have hD1:H1 D=none:=by rw [aB hDa] at hD; exact hD
    have f:=nd j m0 (aB3 ef) e er
    refine aA.keepN (.same s fun b us hb _=>hb) f (aA.keepN (M':=fun b=>b ≠ D) (.froze ha du fun b us _ e=>fun z=>by rw [z,hD1] at e; cases e) f r')
 ·obtain ⟨j,m0,ef,er,e⟩:=zU h1
  cases e
section
variable {X : Cx} {σ : St} {H : Hp} {Q' : VK}
def t8 (i:Nat) (fr:List (Option Nat)) (p:gB) (tc:bM) (te:aC):aC:=fun ρ Q=>∃ m ks,ρ[i]? = some (some m)/\aq3 m.val=some ks/\ks.length<=16000000/\nods (aq4 m.val)=true/\(∀ j m',some j ∈ fr->j ≠ i->ρ[j]? = some (some m')->bX m'.val=true)/\∃ I:Nat->List PV->Prop,I 0 []/\
 (∀ k x acc,ks[k]? = some x->I k acc->p x false (lR i fr ρ) fun ρ2=>tc ρ2 fun b=>if b=true then te ρ2 fun y gy=>(Nw gy y/\flat y=true)/\I (k+1) (acc ++ [y]) else I (k+1) acc)/\∀ acc,I ks.length acc->Q (.lst acc) .fr
theorem aq6 {K:PySem.W.Frag}{M:Addr->Prop}{H:Hp} (k:aD):aA K M H (kV k) (kP k):=by cases k <;> constructor
theorem aq7 {i:Nat}{fr:List (Option Nat)}{p:gB}{g:TG}{tc:bM}{te:aC}{own:Nat->Prop} (hg:jM X.K own p g) (ho:∀ i,own i->fr[i]? = some none) (h:LE X (t8 i fr p tc te) σ H Q') :
  xR X (mL (zS (i6 i)) fr (fun _=>g) (fun H1=>LT (X.frm H1) tc) (fun H1=>LE (X.frm H1) te)) σ H Q':=by
 obtain ⟨W,ρ,Q,px,⟨m,ks,hi,hk,hl,nv,nd,I,i0,turn,fin⟩,k⟩:=h
 obtain ⟨v,ev,r⟩:=px.sl i m hi
 have r:aA X.K (fun _=>True) H v m.val:=(mX (Hs:=H) r).same (a9.refl _) fun _ _=>trivial
 obtain ⟨a,u,rfl,ha,du,frz,keys⟩:∃ a u,v = .ref a/\H a=some u/\j8 u=true/\(∀ (o:Obj) (H':Hp) (D:Addr),H D=none->a9 (upd H a (.frz o u)) H'->aA X.K (fun b=>b ≠ D) H' (.ref a) (fz m.val))/\
   ∀ ys,t7 H u ys->ys.length=ks.length/\∀ (o:Obj) (H':Hp) (M:Addr->Prop) (j:Nat) (y:V),a9 (upd H a (.frz o u)) H'->ys[j]? = some y->∃ x,ks[j]? = some x/\aA X.K M H' y x:=by
  generalize hmv:m.val=mv at r hk nv
  cases r with
  | @dK a kvs ps _ ha ek rv=>
   cases hk
   refine⟨a,_,rfl,ha,rfl,fun o H' D hD s=>?_,fun ys ky=>?_⟩
   ·refine .fK (s _ _ aU) ek (Reps.keepN (.same s fun b us hb _=>hb) nv (Reps.keepN (M':=fun b=>b ≠ D) (.froze ha rfl fun b us _ e=>fun z=>by rw [z,hD] at e; cases e) nv rv))
   ·obtain rfl:ys=kvs.map fun p=>kV p.1:=ky
    have lk:=nL ek
    refine⟨by rw [aw9,aw9]; exact lk,fun o H' M j y s hy=>?_⟩
    rw [aw8] at hy
    cases e:kvs[j]? with
    | none=>rw [e] at hy; cases hy
    | some kv=>
     rw [e] at hy; cases hy
     have:(kvs.map (·.1))[j]? = some kv.1:=by rw [aw8,e]; rfl
     rw [ek,aw8] at this
     cases e2:ps[j]? with
     | none=>rw [e2] at this; cases this
     | some pp=>
      rw [e2] at this
      have e3:pp.1=kv.1:=ay6 this
      exact⟨kP pp.1,by rw [aw8,e2]; rfl,by rw [e3]; exact aq6 kv.1⟩
  | @dT a kvs ps _ ha ek rv=>
   cases hk
   refine⟨a,_,rfl,ha,rfl,fun o H' D hD s=>?_,fun ys ky=>?_⟩
   ·refine .fT (s _ _ aU) ek (Reps.keepN (.same s fun b us hb _=>hb) nv (Reps.keepN (M':=fun b=>b ≠ D) (.froze ha rfl fun b us _ e=>fun z=>by rw [z,hD] at e; cases e) nv rv))
   ·have ky:Paired (jF H) ys (kvs.map (·.1)):=ky
    have lk:=nL ek
    have ll:=ky.length
    rw [aw9] at ll
    refine⟨by rw [aw9]; omega,fun o H' M j y s hy=>?_⟩
    obtain ⟨key,hkey,q2,rfl,hq2⟩:=zA ky hy
    rw [ek,aw8] at hkey
    cases e2:ps[j]? with
    | none=>rw [e2] at hkey; cases hkey
    | some pp=>
     rw [e2] at hkey
     have e3:pp.1=key:=ay6 hkey
     refine⟨.tup (pp.1.map kP),by rw [aw8,e2]; rfl,?_⟩
     rw [e3]
     exact .tup (s _ _ (by rw [aB (fun z=>by rw [z,ha] at hq2; cases hq2)]; exact hq2)) (Reps.keys key)
  | _=>cases hk
 refine⟨_,ev,a,u,rfl,ha,du,fun o ys pk D hD=>?_⟩
 obtain ⟨lk,kys⟩:=keys ys pk
 have hDa:D ≠ a:=fun z=>by rw [z,aU] at hD; cases hD
 have hD1:H D=none:=by rw [aB hDa] at hD; exact hD
 have nofr:∀ o' v',X.H₀ a ≠ some (.frz o' v'):=fun o' v' e=>by have:=px.same _ _ e; rw [ha] at this; cases this; cases du
 refine⟨fun i m acc H'=>m=ks.length - i/\i<=ks.length/\a9 (upd H a (.frz o u)) H'/\H' D=some (.lst acc)/\∃ zs,Reps X.K (fun _=>False) H' acc zs/\flats zs=true/\zs.length<=i/\I i zs,⟨ks.length,by omega,az7 _,b4 hD _,aU,[],.nil,rfl,aw6 _,i0⟩,?_⟩
 rintro j m2 acc H' ⟨rfl,hi2,sm,hl',zs,rz,fzs,hz,iz⟩
 refine⟨hl',?_⟩
 have fro:H' a=some (.frz o u):=sm _ _ aU
 by_cases hlt:j < ks.length
 ·refine .inr ⟨⟨⟨_,fro⟩,by omega⟩,fun v2 H2 y=>?_⟩
  obtain ⟨rfl,hy⟩:=y
  obtain ⟨x,hx,rx⟩:=kys o H2 (Ms (upd H a (.frz o u)) (eG D) false) j v2 sm hy
  have pxb:=aq5 (fr:=fr) px ha du hD sm hl' nd fun m' v' hm' hv'=>by
   rw [hi] at hm'; cases hm'
   rw [ev] at hv'; cases hv'
   exact frz o H2 D hD1 sm
  refine hg (upd H a (.frz o u)) (eG D) _ _ H2 _ _ false _ _ pxb rx (turn j x zs hx iz) fun σ2 ρ2 px2 hown hlen q2=>⟨⟨hlen.symm,fun j w e=>?_⟩,?_⟩
  ·by_cases oj:own j
   ·have:=ho j oj
    unfold cQ at e
    rw [aw8,this] at e
    cases e
   ·rw [hown j oj]; exact e
  ·refine⟨eG D,ρ2,_,px2,q2,fun b H4 s4 q4=>?_⟩
   have hl4:=s4 _ _ hl'
   have sm4:=sm.trans s4
   cases b with
   | false=>exact aR ⟨ks.length - (j+1),by omega,rfl,hlt,sm4,hl4,zs,rz.same s4 fun _ z=>z,fzs,by omega,by simpa using q4⟩
   | true=>
    refine b7 ⟨eG D,ρ2,_,px2.mono s4,by simpa using q4,?_⟩
    rintro w H5 y gy s5 ryy ⟨⟨nw,fy⟩,q5⟩
    have hl5:=s5 _ _ hl4
    have lr:=rz.length
    refine⟨hl5,fZ (by omega),ks.length - (j+1),by omega,rfl,hlt,fun b o' e=>?_,aU,zs ++ [y],?_,zB fzs fy,by rw [ax9,az1]; omega,q5⟩
    ·rw [aB (fun z=>by rw [z,hD] at e; cases e)]
     exact s5 _ _ (sm4 _ _ e)
    ·exact ((rz.same (s4.trans s5) fun _ z=>z).append (.cons (ryy.flat fy) .nil)).keep (.upd hl5 rfl fun b z=>z.elim)
 ·obtain rfl:j=ks.length:=by omega
  refine .inl ⟨⟨⟨_,fro⟩,lk.symm⟩,a,o,u,fro,nofr,k _ _ _ .fr (fun b x e=>?_) (.lst hD1 (by rw [aB hDa]; exact hl') (Reps.keepN (.thaw fro du fun b us z=>z.elim) (flats_nods fzs) rz)) (fin zs iz)⟩
  by_cases hb:b=a
  ·subst hb
   rw [ha] at e; cases e
   exact aU
  ·rw [aB hb]
   exact sm _ _ (by rw [aB hb]; exact e)
end
section
variable {X : Cx} {scope : Scope} {N : List Str} {fr : List (Option Nat)} {x y : Str} {tp pos p2 yp : Pos} {elt c : Expr} {te : aC} {tcs : bM} {i : Nat}
theorem aq8 {i:Nat}{z:Str}{zp:Pos} (nd:X.N.Nodup) (d:Nat) (he:∀ (s:Shared) (H:Hp) (C:Addr) (fp:List Addr),QE (bA X scope N s H C fp cB) elt te) (hi:PE X (.Name y yp) (i6 d):=by exact pv _)
  (hz:X.N[i]? = some z:=by rfl) (hzl:X.env.scope.names.lookup z=some .local:=by rfl) (hsw:swapsWith (.ListComp elt [⟨.Name x tp,.Name y yp,[],0⟩] scope p2) (some (.Name z zp)) pos.line X.env=pure true:=by rfl)
  (hc:X.calm=true:=by rfl) (S:cF X scope N fr:=by exact cF.of rfl rfl) (hN:N.Nodup:=by decide +kernel) (h0:N[0]? = some x:=by rfl) (hl:∀ (s:Shared) (H:Hp) (C:Addr) (fp:List Addr),(bA X scope N s H C fp cB).env.scope.names.lookup x=some .local:=by intro _ _ _ _; rfl) (hf:fr[0]? = some none:=by rfl)
  (hs:∀ x,foldedSetIterable (.Name y yp) X.env x=pure x:=by intro _; rfl):QS X (.Assign [.Name z zp] (.ListComp elt [⟨.Name x tp,.Name y yp,[],0⟩] scope p2) pos) (bB i (t8 d fr (cJ 0) iE te)):=
 eJ (aq2 (vQ (gh:=fun _=>bY 0) (tch:=fun H=>LT (X.frm H) iE) (teh:=fun H=>LE (X.frm H) te) hc S (aq1 hi) (sA he (fun _ _ _ _=>xM) hN h0 hl) nd hz hzl hsw hs)) fun D σ H h=>aq7 (nI _ 0) (fun i e=>by subst e; exact hf) (qW h)
end
end PP
namespace Core
open PySem L2 PP
def bJ:Nat->List Int->List (aD × PV)
 | _,[]=>[]
 | n,x :: r=>(Sum.inl x,.int (n:Int)) :: bJ (n+1) r
theorem t9:∀ (n:Nat) (S:List Int),(bJ n S).map (fun p=>kP p.1)=intz S
 | _,[]=>rfl
 | n,x :: r=>by
  show PV.int x :: (bJ (n+1) r).map (fun p=>kP p.1)=PV.int x :: intz r
  rw [t9 (n+1) r]
theorem tD:∀ (n:Nat) (S:List Int),flats ((bJ n S).map (·.2))=true
 | _,[]=>rfl
 | n,x :: r=>by
  show (flat (.int (n:Int)) && flats ((bJ (n+1) r).map (·.2)))=true
  rw [tD (n+1) r]; rfl
theorem tE:∀ (n:Nat) (S:List Int),(bJ n S).length=S.length
 | _,[]=>rfl
 | n,x :: r=>congrArg (· + 1) (tE (n+1) r)
theorem zV:∀ (n:Nat) (S:List Int) (x:Int),bJ n (S ++ [x])=bJ n S ++ [(Sum.inl x,.int ((n+S.length:Nat):Int))]
 | n,[],x=>rfl
 | n,y :: r,x=>by
  show (Sum.inl y,PV.int (n:Int)) :: bJ (n+1) (r ++ [x])=(Sum.inl y,PV.int (n:Int)) :: (bJ (n+1) r ++ _)
  rw [zV (n+1) r x,show n+1+r.length=n+(y :: r).length by rw [aC9]; omega]
theorem k6 (h:Int):∀ (n:Nat) (S:List Int),eI (bJ n S) (Sum.inl h:aD)=if h ∈ S then some (.int ((n+S.idxOf h:Nat):Int)) else none
 | n,[]=>rfl
 | n,x :: r=>by
  have ih:=k6 h (n+1) r
  unfold eI at ih ⊢
  by_cases e:x=h
  ·subst e
   show Option.map _ (List.find? _ ((Sum.inl x,PV.int (n:Int)) :: bJ (n+1) r))=_
   rw [List.find?_cons_of_pos (by simp),if_pos ax6,List.idxOf_cons_self]; rfl
  ·show Option.map _ (List.find? _ ((Sum.inl x,PV.int (n:Int)) :: bJ (n+1) r))=_
   rw [List.find?_cons_of_neg (by simpa using e),ih]
   by_cases m:h ∈ r
   ·rw [if_pos m,if_pos (ax7 _ m),show (x :: r).idxOf h=r.idxOf h+1 by rw [List.idxOf_cons,show (x == h)=false by simpa using e]; rfl,show n+1+r.idxOf h=n+(r.idxOf h+1) by omega]
   ·rw [if_neg m,if_neg (fun z=>(aw7.mp z).elim (fun z=>e z.symm) m)]
theorem aq9 (S:List Int):DS (bJ 0 S) S:=⟨fun i=>by rw [k6]; by_cases h:i ∈ S <;> simp [h],by rw [tE]; exact aw6 _,tD 0 S⟩
theorem ar0 {S:List Int}{x:Int} (h:x ∉ S):cY (bJ 0 S) (Sum.inl x:aD) (.int (S.length:Int))=bJ 0 (S ++ [x]):=by
 unfold cY
 rw [zV,Nat.zero_add,if_neg]
 intro z
 obtain ⟨p,hp,e⟩:=List.any_eq_true.mp z
 have e:p.1=Sum.inl x:=by simpa using e
 have:kP p.1 ∈ (bJ 0 S).map (fun p=>kP p.1):=aB9.mpr ⟨p,hp,rfl⟩
 rw [t9,e] at this
 obtain ⟨y,hy,e2⟩:=aB9.mp this
 have:y=x:=PV.int.inj e2
 subst this
 exact h hy
def k7 (x:Int):Int:=if x > 0 then x else 0
def cG (ws:List Int) (ls:List (Int × Int)) (S:List Int):List Int:=S.map fun h=>k7 (ws.getD h.toNat 0 - bW (b8 ls h) S)
def dP (S:List Int) (l:Int × Int):Bool:=decide (l.1 ∈ S) && decide (l.2 ∈ S)
def zW (S:List Int) (l:Int × Int):Int × Int:=((S.idxOf l.1:Nat),(S.idxOf l.2:Nat))
def cN (ls:List (Int × Int)) (S:List Int):List (Int × Int):=(ls.filter (dP S)).map (zW S)
theorem oK {ls:List (Int × Int)}{i:Nat}{l:Int × Int}{S:List Int} (h:ls[i]? = some l):cN (ls.take (i+1)) S=cN (ls.take i) S ++ (if dP S l=true then [zW S l] else []):=by
 unfold cN
 rw [xU h,aC1]
 cases dP S l <;> rfl
theorem zX (a b:List (Int × Int)):aW (a ++ b)=aW a ++ aW b:=aC1 ..
theorem zY (ls:List (Int × Int)) (S:List Int):(cN ls S).length<=ls.length:=by
 unfold cN
 rw [aw9]
 exact List.length_filter_le _ _
def oM:bN:=fun xs Q=>∃ x ns d ps S,xs = [x,d]/\nJ d = .dK ps/\cU x ns/\DS ps S/\ns.length<=10000/\Q (.int ((ns.filter fun x=>decide (x ∈ S)).length:Nat))
abbrev zZ:aO:=ag6
theorem ar1:dN zZ ["hearths","inside"] oM:=by
 rintro xs Q ⟨x,ns,dd,ps,S,rfl,ud,hx,d,hl,q⟩
 refine⟨_,rfl,_,hx.seq,xZ hx,by rw [bH]; omega,fun i acc=>acc=intz ((ns.take i).filter fun x=>decide (x ∈ S)),rfl,?_,?_⟩
 ·rintro i y acc hy rfl
  obtain ⟨n,rfl,hn⟩:=jW hy
  have tk:=xU (p:=fun x=>decide (x ∈ S)) hn
  refine⟨_,rfl,_,rfl,_,.inl ⟨ps,Sum.inl n,ud,rfl,rfl⟩,_,rfl,?_⟩
  show if (eI ps (Sum.inl n:aD)).isSome=true then _ else _
  rw [d.has n]
  by_cases h:n ∈ S
  ·rw [ay0 h] at tk ⊢
   refine b7 ⟨_,rfl,trivial,?_⟩
   rw [if_pos rfl] at tk
   show _=intz (List.filter _ (List.take (i+1) ns))
   rw [tk,fR]; rfl
  ·rw [ax4 h] at tk ⊢
   refine aR ?_
   rw [if_neg (by decide),aD9] at tk
   show _=intz (List.filter _ (List.take (i+1) ns))
   rw [tk]
 ·rintro acc rfl
  rw [bH,az5]
  refine⟨_,_,rfl,rfl,trivial,?_⟩
  rw [bH]; exact q
def oN:bN:=fun xs Q=>∃ x ns d ps S,xs = [x,d]/\nJ d = .dK ps/\cU x ns/\DS ps S/\ns.length<=10000/\Q (.int (bW ns S))
def A0:aO:=(bF (rF (aK dC (a7 (a6 0) aE)) (aK oM (a7 (a6 0) (a7 (a6 1) aE)))))
theorem ar2:dN A0 ["hearths","inside"] oN:=by
 rintro xs Q ⟨x,ns,dd,ps,S,rfl,ud,hx,d,hl,q⟩
 exact⟨_,rfl,_,_,rfl,hx.len,_,rfl,_,rfl,x,ns,dd,ps,S,rfl,ud,hx,d,hl,_,_,rfl,rfl,trivial,q⟩
def iL:eN:=fun Ep xs Q=>∃ ws ls x S,xs = [b5 ws ls,x]/\ws.length<=40/\Wb ws ls/\cU x S/\S.length<=1000/\(bL ws.length S=false->Ep "BadSet")/\(bL ws.length S=true->Q (b5 (cG ws ls S) (cN ls S)))
def A1 (Ep:Str->Prop):aO:=(aP (eW 2 (qC (.dK [])))
 (aP (cR (sQ (sR Ep oD (a7 (a6 0) (a7 (a6 1) aE)))) (iU 3 4)
  (rC 2 (a6 4) (a6 3)))
 (aP (bB 5 (aK sF (a7 (a6 0) aE)))
 (aP (bB 6 (t8 2 [none,some 2,some 0,some 5] (cJ 0) iE (aK lA (a7 (qC (.int 0)) (a7 (rF (bQ (bQ (a6 2) (qC (.int 0))) (a6 0)) (aK oN (a7 (bQ (a6 3) (a6 0)) (a7 (a6 1) aE)))) aE)))))
 (aP (bB 7 (iV (gV (bQ (a6 0) (qC (.int 1)))) [none,none,some 2] (iU 0 1) (gT (aV (lC false (a6 0) (a6 2))) (aV (lC false (a6 1) (a6 2)))) (dI (a7 (nK (a6 2) (a6 0)) (a7 (nK (a6 2) (a6 1)) aE)))))
 (bF (dI (a7 (aK gC (a7 (a6 6) aE)) (a7 (aK gC (a7 (a6 7) aE)) aE)))))))))
theorem ar3 (n:Nat) (ls:List (Int × Int)):bX (.lst (lJ n ls))=true:=by
 unfold bX lJ
 generalize List.range n=R
 induction R with
 | nil=>rfl
 | cons k r ih=>
  show (bX (.lst (intz (b8 ls k))) && nods _)=true
  rw [ih,Bool.and_true]
  unfold bX
  exact flats_nods (cI _)
theorem ar4:yX A1 ["web","some","places","place","hearth","around","wants","links"] iL:=by
 rintro Ep xs Q ⟨ws,ls,x,S,rfl,few,wb,hx,hl,q1,q2⟩
 refine⟨rfl,rfl,?_⟩
 refine⟨_,rfl,_,rfl,ws,ls,x,S,rfl,hx,hl,fun hs=>?_,fun hs=>q1 hs⟩
 have up:=nW (jX hs).1
 have inn:=(jX hs).2
 have nd:S.Nodup:=up.imp fun {a b} h e=>by omega
 refine⟨intz S,.inr rfl,(fun z=>by cases z),fun i ρ=>∃ (y3 y4:Option Slot),ρ = [some (.sh (flat (b5 ws ls)) (b5 ws ls)),some (.sh (flat x) x),some (.own (.dK (bJ 0 (S.take i)))),y3,y4,none,none,none],⟨none,none,rfl⟩,?_,?_⟩
 ·rintro i z ρ hz ⟨y3,y4,rfl⟩
  obtain ⟨v,hv,rfl⟩:=ak6 hz
  obtain ⟨h,rfl,hh⟩:=jW hv
  have il:=(ax3.mp hh).1
  have tl:(S.take i).length=i:=by rw [aB0]; omega
  have hn:h ∉ S.take i:=fun z=>by
   obtain ⟨k,hk,e⟩:=List.getElem_of_mem z
   rw [aB0] at hk
   rw [List.getElem_take] at e
   have e2:S[k]? = some h:=by rw [aw3 (by omega),e]
   have:=(List.getElem?_inj (by omega) nd).mp (e2.trans hh.symm)
   omega
  generalize iT _ _=gg
  refine⟨_,_,rfl,?_⟩
  refine⟨_,rfl,_,rfl,_,rfl,Sum.inl h,rfl,o0 _ _,by rw [tE,tl]; omega,?_⟩
  dsimp only [Slot.val]
  have:=ar0 hn
  rw [tl] at this
  refine⟨some (.sh (gg || true) (.int (i:Int))),some (.sh (gg || true) (.int h)),?_⟩
  rw [aE4,hh]
  show _ = [_,_,some (Slot.own (.dK (bJ 0 (S.take i ++ [h])))),_,_,_,_,_]
  rw [<- this]; rfl
 rintro ρ ⟨y3,y4,rfl⟩
 rw [sP,bH,az5]
 refine⟨_,rfl,ws,ls,rfl,wb,trivial,?_⟩
 refine⟨_,intz S,rfl,by show some _=some _; rw [t9],by rw [bH]; omega,?_,?_,fun i acc=>acc=intz ((S.take i).map fun h=>k7 (ws.getD h.toNat 0 - bW (b8 ls h) S)),rfl,?_,?_⟩
 ·show nods ((bJ 0 S).map (·.2))=true
  exact flats_nods (tD 0 S)
 ·intro j m' hj ne hm
  simp only [aw7,ax1,az3] at hj
  rcases hj with h | h | h | h
  ·cases h
  ·cases h; exact absurd rfl ne
  ·cases h
   cases hm
   exact zT (lI ws ls)
  ·cases h
   cases hm
   exact ar3 _ _
 ·rintro i z acc hz rfl
  obtain ⟨h,rfl,hh⟩:=jW hz
  obtain ⟨h0,h1⟩:=inn h (aB3 hh)
  have at1:L2.atI (intz ws) h=some (.int (ws.getD h.toNat 0)):=sG h0 h1
  have nl:=qH ls h
  have wm:=wb.most
  refine⟨_,rfl,_,_,_,rfl,rfl,rfl,_,rfl,_,_,_,rfl,rfl,at1,_,rfl,_,rfl,_,_,_,rfl,rfl,ag7 h0 h1,_,rfl,_,b8 ls h,_,bJ 0 S,S,rfl,rfl,.inr rfl,aq9 S,by omega,?_⟩
  refine⟨_,_,rfl,rfl,_,_,rfl,⟨trivial,rfl⟩,?_⟩
  dsimp only
  rw [aE4,hh,aC1]
  show _=intz (_ ++ [k7 _])
  rw [fR]; rfl
 rintro acc rfl
 rw [bH,az5]
 refine⟨trivial,?_⟩
 have pl:(aW ls).length=ls.length:=aw9 _
 have wm:=wb.most
 refine⟨_,rfl,_,_,_,rfl,rfl,rfl,aW ls,rfl,(fun z=>gF ls),by rw [pl]; omega,fun i acc=>acc=aW (cN (ls.take i) S),rfl,?_,?_⟩
 ·rintro i z acc hz rfl
  obtain ⟨l,rfl,hlm⟩:=sK hz
  refine⟨_,_,rfl,?_⟩
  refine⟨_,rfl,_,rfl,_,.inl ⟨bJ 0 S,Sum.inl l.1,rfl,rfl,rfl⟩,_,rfl,?_⟩
  show if (eI (bJ 0 S) (Sum.inl l.1:aD)).isSome=true then _ else _
  rw [k6]
  have fin:dP S l=false->aW (cN (ls.take i) S)=aW (cN (ls.take (i+1)) S):=fun e=>by
   rw [oK hlm,e,if_neg (by decide),aD9]
  by_cases m1:l.1 ∈ S
  ·rw [if_pos m1]
   refine b7 ⟨_,rfl,_,rfl,_,.inl ⟨bJ 0 S,Sum.inl l.2,rfl,rfl,rfl⟩,_,rfl,?_⟩
   show if (eI (bJ 0 S) (Sum.inl l.2:aD)).isSome=true then _ else _
   rw [k6]
   by_cases m2:l.2 ∈ S
   ·rw [if_pos m2]
    have v1:eI (bJ 0 S) (Sum.inl l.1:aD)=some (.int ((S.idxOf l.1:Nat):Int)):=by rw [k6,if_pos m1,Nat.zero_add]
    have v2:eI (bJ 0 S) (Sum.inl l.2:aD)=some (.int ((S.idxOf l.2:Nat):Int)):=by rw [k6,if_pos m2,Nat.zero_add]
    refine b7 ⟨_,rfl,_,rfl,_,.inl ⟨bJ 0 S,Sum.inl l.1,rfl,rfl,v1.symm⟩,_,rfl,_,rfl,_,.inl ⟨bJ 0 S,Sum.inl l.2,rfl,rfl,v2.symm⟩,by show 2<=1000; decide,rfl,trivial,?_⟩
    dsimp only
    rw [oK hlm,show dP S l=true by unfold dP; rw [ay0 m1,ay0 m2]; rfl,if_pos rfl,zX]; rfl
   ·rw [if_neg m2]
    exact aR (fin (by unfold dP; rw [ax4 m2,aG6]))
  ·rw [if_neg m1]
   exact aR (aR (fin (by unfold dP; rw [ax4 m1]; rfl)))
 rintro acc rfl
 rw [pl,az5]
 refine⟨trivial,?_⟩
 refine⟨_,rfl,⟨_,_,rfl,rfl,cI _,?_⟩,fun _ z=>by cases z⟩
 refine⟨_,rfl,⟨_,_,rfl,rfl,gF _,?_⟩,fun _ z=>by cases z⟩
 exact⟨by show 2<=1000; decide,lI _ _,trivial,q2 hs⟩
theorem A2 (a b S:List Int):bW (a ++ b) S=bW a S+bW b S:=by
 unfold bW
 rw [ax9,List.filter_append,ax9]; omega
theorem A3 (x:Int) (S:List Int):bW [x] S=if x ∈ S then 0 else 1:=by
 unfold bW
 by_cases h:x ∈ S
 ·rw [if_pos h,List.filter_cons_of_pos (by simpa using h)]; rfl
 ·rw [if_neg h,List.filter_cons_of_neg (by simpa using h)]; rfl
theorem ar5 {ls:List (Int × Int)}{i:Nat}{l:Int × Int}{h:Int}{S:List Int} (hl:ls[i]? = some l) (ne:l.1 ≠ l.2):bW (b8 (ls.take (i+1)) h) S=bW (b8 (ls.take i) h) S+(if (l.1=h/\l.2 ∉ S) ∨ (l.2=h/\l.1 ∉ S) then 1 else 0):=by
 rw [wD hl,A2,A2]
 have e0:bW [] S=0:=rfl
 by_cases a:l.1=h
 ·have b : ¬ l.2=h:=fun z=>ne (a.trans z.symm)
  rw [if_pos a,if_neg b,A3,e0]
  by_cases c:l.2 ∈ S
  ·rw [if_pos c,if_neg (fun z=>by rcases z with z | z; exact z.2 c; exact b z.1)]; omega
  ·rw [if_neg c,if_pos (.inl ⟨a,c⟩)]; omega
 ·by_cases b:l.2=h
  ·rw [if_neg a,if_pos b,A3,e0]
   by_cases c:l.1 ∈ S
   ·rw [if_pos c,if_neg (fun z=>by rcases z with z | z; exact a z.1; exact z.2 c)]; omega
   ·rw [if_neg c,if_pos (.inr ⟨b,c⟩)]; omega
  ·rw [if_neg a,if_neg b,e0,if_neg (fun z=>by rcases z with z | z; exact a z.1; exact b z.1)]; omega
def oO:bN:=fun xs Q=>∃ ws ls S,xs = [b5 ws ls,.lst (intz S)]/\S.length<=40/\ls.length<=1700/\(∀ l ∈ ls,l.1 ≠ l.2)/\(∀ x ∈ S,0<=x/\x < (ws.length:Int))/\Q (.tup [.lst (intz (cG ws ls S)),.lst (aW (cN ls S))])
def A4:aO:=(aP (eW 2 (dJ aE))
 (aP (eW 3 (dJ aE))
 (aP (cR (gV (a6 1)) (cJ 4)
  (aP (bB 5 (qC (.int 0)))
  (aP (cR (gV (bQ (a6 0) (qC (.int 1)))) (iU 6 7)
   (c8 (fJ (gT (aV (iG (a6 6) (a6 4))) (aV (q2 (iF true) (a6 7) (a6 1)))) (gT (aV (iG (a6 7) (a6 4))) (aV (q2 (iF true) (a6 6) (a6 1))))) (bB 5 (fN (a6 5) (qC (.int 1)))) c7))
  (gA 2 (aK lA (a7 (qC (.int 0)) (a7 (rF (bQ (bQ (a6 0) (qC (.int 0))) (a6 4)) (a6 5)) aE)))))))
 (aP (cR (gV (bQ (a6 0) (qC (.int 1)))) (iU 6 7)
  (c8 (gT (aV (q2 (iF false) (a6 6) (a6 1))) (aV (q2 (iF false) (a6 7) (a6 1)))) (gA 3 (dI (a7 (oG (a6 1) (a6 6)) (a7 (oG (a6 1) (a6 7)) aE)))) c7))
 (nE 2 (nE 3 (bF (qT (a7 (a6 2) (a7 (a6 3) aE))))))))))
theorem ar6:dN A4 ["web","some","wants","links","hearth","outside","one","other"] oO:=by
 rintro xs Q ⟨ws,ls,S,rfl,sl,lm,lne,inn,q⟩
 have pl:(aW ls).length=ls.length:=aw9 _
 refine⟨by decide,rfl,rfl,rfl,?_⟩
 refine⟨by decide,rfl,rfl,rfl,?_⟩
 have fw:=lI ws ls
 refine⟨_,rfl,intz S,rfl,(fun z=>by cases z),fun i ρ=>∃ (y4 y5 y6 y7:Option Slot),ρ = [some (.sh true (b5 ws ls)),some (.sh false (.lst (intz S))),some (.own (.lst (intz (cG ws ls S |>.take i)))),some (.own (.lst [])),y4,y5,y6,y7],⟨none,none,none,none,?_⟩,?_,?_⟩
 ·show List.set (List.set (cS _ _) _ _) _ _=_
  unfold cS
  show [some (Slot.sh (flat (b5 ws ls)) (b5 ws ls)),_,_,_,_,_,_,_]=_
  rw [fw]; rfl
 ·rintro i z ρ hz ⟨y4,y5,y6,y7,rfl⟩
  obtain ⟨h,rfl,hh⟩:=jW hz
  obtain ⟨h0,h1⟩:=inn h (aB3 hh)
  have il:=(ax3.mp hh).1
  refine al4 ?_
  refine⟨trivial,?_⟩
  refine⟨_,rfl,_,_,_,rfl,rfl,rfl,aW ls,rfl,(fun z=>gF ls),fun j ρ=>∃ (y6 y7:Option Slot),ρ = [some (.sh true (b5 ws ls)),some (.sh false (.lst (intz S))),some (.own (.lst (intz (cG ws ls S |>.take i)))),some (.own (.lst [])),si h,si (bW (b8 (ls.take j) h) S),y6,y7],⟨y6,y7,rfl⟩,?_,?_⟩
  ·rintro j z ρ hz ⟨y6,y7,rfl⟩
   obtain ⟨l,rfl,hl⟩:=sK hz
   have ne:=lne l (aB3 hl)
   have ot:=ar5 (h:=h) (S:=S) hl ne
   generalize iT _ _=gg
   refine⟨_,_,rfl,?_⟩
   have yes:((l.1=h/\l.2 ∉ S) ∨ (l.2=h/\l.1 ∉ S))->(bB 5 (fN (a6 5) (qC (.int 1)))) { nx:=fun ρ=>∃ (y6 y7:Option Slot),ρ = [some (.sh true (b5 ws ls)),some (.sh false (.lst (intz S))),some (.own (.lst (intz (cG ws ls S |>.take i)))),some (.own (.lst [])),si h,si (bW (b8 (ls.take (j+1)) h) S),y6,y7],rt:=Q,bk:=fun _=>False,ct:=fun _=>False } [some (.sh true (b5 ws ls)),some (.sh false (.lst (intz S))),some (.own (.lst (intz (cG ws ls S |>.take i)))),some (.own (.lst [])),si h,si (bW (b8 (ls.take j) h) S),some (.sh (gg || true) (.int l.1)),some (.sh (gg || true) (.int l.2))]:=fun c=>by
    rw [if_pos c] at ot
    refine⟨_,rfl,_,_,rfl,rfl,trivial,some (.sh (gg || true) (.int l.1)),some (.sh (gg || true) (.int l.2)),?_⟩
    rw [ot]; rfl
   have no : ¬ ((l.1=h/\l.2 ∉ S) ∨ (l.2=h/\l.1 ∉ S))->∃ (z6 z7:Option Slot),[some (.sh true (b5 ws ls)),some (.sh false (.lst (intz S))),some (.own (.lst (intz (cG ws ls S |>.take i)))),some (.own (.lst [])),si h,si (bW (b8 (ls.take j) h) S),some (.sh (gg || true) (.int l.1)),some (.sh (gg || true) (.int l.2))] = [some (.sh true (b5 ws ls)),some (.sh false (.lst (intz S))),some (.own (.lst (intz (cG ws ls S |>.take i)))),some (.own (.lst [])),si h,si (bW (b8 (ls.take (j+1)) h) S),z6,z7]:=fun c=>by
    rw [if_neg c,Int.add_zero] at ot
    exact⟨some (.sh (gg || true) (.int l.1)),some (.sh (gg || true) (.int l.2)),by rw [ot]⟩
   have second : ¬ (l.1=h/\l.2 ∉ S)->(c8 (gT (aV (iG (a6 7) (a6 4))) (aV (q2 (iF true) (a6 6) (a6 1)))) (bB 5 (fN (a6 5) (qC (.int 1)))) c7) { nx:=fun ρ=>∃ (y6 y7:Option Slot),ρ = [some (.sh true (b5 ws ls)),some (.sh false (.lst (intz S))),some (.own (.lst (intz (cG ws ls S |>.take i)))),some (.own (.lst [])),si h,si (bW (b8 (ls.take (j+1)) h) S),y6,y7],rt:=Q,bk:=fun _=>False,ct:=fun _=>False } [some (.sh true (b5 ws ls)),some (.sh false (.lst (intz S))),some (.own (.lst (intz (cG ws ls S |>.take i)))),some (.own (.lst [])),si h,si (bW (b8 (ls.take j) h) S),some (.sh (gg || true) (.int l.1)),some (.sh (gg || true) (.int l.2))]:=fun n1=>by
    refine⟨_,rfl,_,rfl,.inl ⟨_,_,rfl,rfl,_,rfl,?_⟩⟩
    show if decide (l.2=h)=true then _ else _
    by_cases b:l.2=h
    ·rw [ay0 b]
     refine b7 ⟨_,rfl,_,rfl,_,S,rfl,rfl,_,rfl,?_⟩
     show if (!decide (l.1 ∈ S))=true then _ else _
     by_cases c:l.1 ∈ S
     ·rw [ay0 c]
      exact aR (no fun z=>by rcases z with z | z; exact n1 z; exact z.2 c)
     ·rw [ax4 c]
      exact b7 (yes (.inr ⟨b,c⟩))
    ·rw [ax4 b]
     exact aR (aR (no fun z=>by rcases z with z | z; exact n1 z; exact b z.1))
   refine⟨_,rfl,_,rfl,.inl ⟨_,_,rfl,rfl,_,rfl,?_⟩⟩
   show if decide (l.1=h)=true then _ else _
   by_cases a:l.1=h
   ·rw [ay0 a]
    refine b7 ⟨_,rfl,_,rfl,_,S,rfl,rfl,_,rfl,?_⟩
    show if (!decide (l.2 ∈ S))=true then _ else _
    by_cases c:l.2 ∈ S
    ·rw [ay0 c]
     exact aR (second fun z=>z.2 c)
    ·rw [ax4 c]
     exact b7 (b7 (yes (.inl ⟨a,c⟩)))
   ·rw [ax4 a]
    exact aR (aR (second fun z=>a z.1))
  rintro ρ ⟨y6,y7,rfl⟩
  rw [pl,az5]
  have at1:L2.atI (intz ws) h=some (.int (ws.getD h.toNat 0)):=sG h0 h1
  refine⟨_,rfl,_,rfl,_,_,_,rfl,rfl,rfl,_,rfl,_,_,_,rfl,rfl,at1,_,rfl,_,_,rfl,rfl,_,_,rfl,trivial,by rw [bH,aB0]; omega,?_⟩
  have rw1:(cG ws ls S)[i]? = some (k7 (ws.getD h.toNat 0 - bW (b8 ls h) S)):=by
   unfold cG
   rw [aw8,hh]; rfl
  refine⟨si h,si (bW (b8 ls h) S),y6,y7,?_⟩
  rw [aE4,rw1]
  show _ = [_,_,some (Slot.own (.lst (intz (_ ++ [_])))),_,_,_,_,_]
  rw [fR]; rfl
 rintro ρ ⟨y4,y5,y6,y7,rfl⟩
 have rl:(cG ws ls S).length=S.length:=aw9 _
 rw [bH,<- rl,az5]
 refine⟨_,rfl,_,_,_,rfl,rfl,rfl,aW ls,rfl,(fun z=>gF ls),fun j ρ=>∃ (y6 y7:Option Slot),ρ = [some (.sh true (b5 ws ls)),some (.sh false (.lst (intz S))),some (.own (.lst (intz (cG ws ls S)))),some (.own (.lst (aW (cN (ls.take j) S)))),y4,y5,y6,y7],⟨y6,y7,rfl⟩,?_,?_⟩
 ·rintro j z ρ hz ⟨y6,y7,rfl⟩
  obtain ⟨l,rfl,hl⟩:=sK hz
  have jl:=(ax3.mp hl).1
  generalize iT _ _=gg
  refine⟨_,_,rfl,?_⟩
  have no:dP S l=false->∃ (z6 z7:Option Slot),[some (.sh true (b5 ws ls)),some (.sh false (.lst (intz S))),some (.own (.lst (intz (cG ws ls S)))),some (.own (.lst (aW (cN (ls.take j) S)))),y4,y5,some (.sh (gg || true) (.int l.1)),some (.sh (gg || true) (.int l.2))] = [some (.sh true (b5 ws ls)),some (.sh false (.lst (intz S))),some (.own (.lst (intz (cG ws ls S)))),some (.own (.lst (aW (cN (ls.take (j+1)) S)))),y4,y5,z6,z7]:=fun e=>
   ⟨some (.sh (gg || true) (.int l.1)),some (.sh (gg || true) (.int l.2)),by rw [oK hl,e,if_neg (by decide),aD9]⟩
  refine⟨_,rfl,_,rfl,_,S,rfl,rfl,_,rfl,?_⟩
  show if decide (l.1 ∈ S)=true then _ else _
  by_cases m1:l.1 ∈ S
  ·rw [ay0 m1]
   refine b7 ⟨_,rfl,_,rfl,_,S,rfl,rfl,_,rfl,?_⟩
   show if decide (l.2 ∈ S)=true then _ else _
   by_cases m2:l.2 ∈ S
   ·rw [ay0 m2]
    have:=zY (ls.take j) S
    rw [aB0] at this
    refine b7 ⟨_,rfl,_,rfl,S,rfl,_,rfl,_,rfl,m1,by omega,_,rfl,S,rfl,_,rfl,_,rfl,m2,by omega,by show 2<=1000; decide,rfl,trivial,by rw [sJ]; omega,?_⟩
    refine⟨some (.sh (gg || true) (.int l.1)),some (.sh (gg || true) (.int l.2)),?_⟩
    rw [oK hl,show dP S l=true by unfold dP; rw [ay0 m1,ay0 m2]; rfl,if_pos rfl,zX]; rfl
   ·rw [ax4 m2]
    exact aR (no (by unfold dP; rw [ax4 m2,aG6]))
  ·rw [ax4 m1]
   exact aR (aR (no (by unfold dP; rw [ax4 m1]; rfl)))
 rintro ρ ⟨y6,y7,rfl⟩
 rw [pl,az5]
 refine⟨_,rfl,_,rfl,_,rfl,_,rfl,by show 2<=1000; decide,?_,trivial,q⟩
 intro p hp
 simp only [aw7,ax1,az3] at hp
 rcases hp with rfl | rfl <;> exact trivial
def j9:bN:=fun xs Q=>∃ ws ls x S,xs = [b5 ws ls,x]/\ws.length<=40/\Wb ws ls/\cU x S/\S.length<=1000/\bL ws.length S=false/\Q (.bl true)
def A5:aO:=(aP (bB 2 (qC .non))
 (aP (sU "HearthError" 3 (yT iL (a7 (a6 0) (a7 (a6 1) aE))) (bB 2 (a6 3)))
 (bF (sW "BadSet" (a6 2)))))
theorem ar7:dN A5 ["web","some","caught","e"] j9:=by
 rintro xs Q ⟨ws,ls,x,S,rfl,few,wb,hx,hl,hs,q⟩
 refine⟨trivial,_,rfl,_,rfl,ws,ls,x,S,rfl,few,wb,hx,hl,fun _=>⟨by decide,_,rfl,trivial,?_⟩,fun z=>by rw [hs] at z; cases z⟩
 exact⟨_,rfl,true,(by decide),trivial,q⟩
theorem A6 {n:Nat}:∀ {x:Int},0<=x->x < (n:Int)->(((rng n).idxOf x:Nat):Int)=x:=by
 intro x h0 h1
 have hm:x ∈ rng n:=j4.mpr ⟨h0,h1⟩
 have hl:=List.idxOf_lt_length_of_mem hm
 have e:=List.getElem_idxOf hl
 rw [lH] at hl
 have:(rng n)[(rng n).idxOf x]? = some (((rng n).idxOf x:Nat):Int):=by
  generalize (rng n).idxOf x=k at hl
  unfold rng
  rw [aw8,List.getElem?_range hl]; rfl
 rw [aw3 (by rw [lH]; exact hl),e] at this
 exact (ay6 this).symm
theorem ar8 {ns S:List Int} (h:∀ x ∈ ns,x ∈ S):bW ns S=0:=by
 unfold bW
 rw [List.filter_eq_self.mpr fun x hx=>ay0 (h x hx)]; omega
theorem ar9 {ws:List Int}{ls:List (Int × Int)} (wb:Wb ws ls) (pos:∀ w ∈ ws,0<=w):cG ws ls (rng ws.length)=ws:=by
 refine List.ext_getElem? fun j=>?_
 unfold cG
 rw [aw8]
 by_cases hj:j < ws.length
 ·have e:(rng ws.length)[j]? = some (j:Int):=by
   unfold rng
   rw [aw8,List.getElem?_range hj]; rfl
  rw [e]
  show some (k7 (ws.getD ((j:Int)).toNat 0 - _))=_
  rw [ar8 (fun x hx=>al6 wb hx),Int.sub_zero,aF3]
  have g:ws[j]? = some (ws.getD j 0):=by rw [ax8,aw3 hj]; rfl
  rw [g]
  have:=pos _ (aB3 g)
  unfold k7
  split
  ·rfl
  ·congr 1; omega
 ·rw [List.getElem?_eq_none (by rw [lH]; omega),List.getElem?_eq_none (by omega)]; rfl
theorem as0 {n:Nat}{ls:List (Int × Int)} (inn:∀ l ∈ ls,0<=l.1/\l.1 < l.2/\l.2 < (n:Int)):cN ls (rng n)=ls:=by
 unfold cN
 rw [List.filter_eq_self.mpr fun l hl=>?_]
 ·conv=>rhs; rw [<- List.map_id ls]
  refine List.map_congr_left fun l hl=>?_
  have:=inn l hl
  exact Prod.ext (A6 (by omega) (by omega)) (A6 (by omega) (by omega))
 ·have:=inn l hl
  unfold dP
  rw [ay0 (j4.mpr ⟨by omega,by omega⟩),ay0 (j4.mpr ⟨by omega,by omega⟩)]; rfl
def tF:bN:=yO
def A7:aO:=(aP (bB 9 (bO (cM (a6 4) (qC (.int 11))) (fN (aK dC (a7 (a6 5) aE)) (qC (.int 1)))))
 (aP (c8 (fJ (dW (aV (aK j9 (a7 (a6 3) (a7 (lN (a6 5) (dJ (a7 (a6 2) aE))) aE))))) (dW (aV (aK j9 (a7 (a6 3) (a7 (lN (lN (nO (a6 5) nM (nN (a6 9))) (dJ (a7 (x8 (qC (.int 1))) aE))) (nO (a6 5) (nN (a6 9)) nM)) aE)))))) (bF (qC (.bl false))) c7)
 (bF (qR (iG (aK dC (a7 (a6 5) aE)) (qC (.int 0))) (aK j9 (a7 (a6 3) (a7 (lN (a6 5) (dJ (a7 (bQ (a6 5) (bO (cM (a6 4) (qC (.int 13))) (aK dC (a7 (a6 5) aE)))) aE))) aE)))))))
def A8:aO:=(aP (bB 8 (aK qY (a7 (a6 5) aE)))
 (aP (c8 (fJ (dW (aV (aK jZ (a7 (aK (iL fun _=>False) (a7 (a6 3) (a7 (a6 8) aE))) (a7 (aK oO (a7 (a6 3) (a7 (a6 5) aE))) aE))))) (aV (q2 (rE 2 true) (a6 8) (a6 5)))) (bF (qC (.bl false))) c7)
 (aP (c8 (fJ (dW (aV (aK jZ (a7 (aK (iL fun _=>False) (a7 (a6 3) (a7 (zK (a6 2)) aE))) (a7 (a6 3) aE))))) (dW (aV (aK jZ (a7 (aK (iL fun _=>False) (a7 (a6 3) (a7 (dI aE) aE))) (a7 (dI (a7 (dI aE) (a7 (dI aE) aE))) aE)))))) (bF (qC (.bl false))) c7)
 A7)))
def tG:aO:=(aP (bB 3 (aK oJ (a7 (nO (a6 0) (nN (qC (.int 2))) nM) (a7 (a6 2) (a7 (cM (a6 1) (qC (.int 1476))) aE)))))
 (aP (bB 4 (bO (aK gG (a7 (a6 0) (a7 (qC (.int 1)) aE))) (ab3 (qC (.int 10)) (qC (.int 60)))))
 (aP (eW 5 (dJ aE))
 (aP (bB 6 (a6 4))
 (aP (cR (gW (a6 2)) (cJ 7)
  (aP (c8 (aV (rG (bO (a6 6) (qC (.int 3))) (qC (.int 0)))) (gA 5 (a6 7)) c7)
  (bB 6 (cM (a6 6) (qC (.int 3))))))
 A8)))))
def A9:aO:=(aP (bB 1 (aK gG (a7 (a6 0) (a7 (qC (.int 0)) aE))))
 (aP (bB 2 (bO (a6 1) (qC (.int 9))))
 (aP (c8 (aV (iG (bO (cM (a6 1) (qC (.int 9))) (qC (.int 4))) (qC (.int 1)))) (bB 2 (bO (cM (a6 1) (qC (.int 36))) (qC (.int 41)))) c7)
 tG)))
section
variable {Q : PV → Prop} {ns : List Int} {n : Nat} {hd c : Int} {ws S : List Int} {ls : List (Int × Int)} {y6 y7 y8 : Option Slot}
theorem as1 (few:n<=40) (ln:ws.length=n) (wb:Wb ws ls) (hs:bL n S=true) (c0:0<=c) (q:Q (.bl true)) :
  A7 { nx:=fun _=>Q .non,rt:=Q } [some (.sh true (.scr ns)),si hd,si n,some (.sh true (b5 ws ls)),si c,some (.own (.lst (intz S))),y6,y7,y8,none]:=by
 subst ln
 have sl:=yA hs
 have ll:((intz S).length:Int)=S.length:=by rw [bH]
 refine⟨_,rfl,_,_,rfl,rfl,⟨by decide,by decide⟩,_,rfl,_,_,rfl,rfl,_,_,rfl,rfl,_,_,rfl,rfl,by omega,trivial,?_⟩
 dsimp only
 rw [ll]
 have k0:0<=c / 11 % ((S.length:Int)+1):=aC7 _ (by omega)
 have k1:c / 11 % ((S.length:Int)+1) < (S.length:Int)+1:=aB7 _ (by omega)
 generalize c / 11 % ((S.length:Int)+1)=k at k0 k1
 have bad:∀ T:List Int,T.length<=100->bL ws.length T=false->j9 [b5 ws ls,.lst (intz T)] fun z=>z = .bl true:=fun T tl h=>⟨ws,ls,_,T,rfl,few,wb,.inr rfl,by omega,h,rfl⟩
 refine⟨_,rfl,_,rfl,_,rfl,by show 1<=1000; decide,rfl,?_⟩
 refine⟨_,_,rfl,rfl,cI _,rfl,by rw [bH]; show S.length+1<=_; omega,?_⟩
 have e1:intz S ++ List.map (fun (x:PV × Tg)=>x.1) [(PV.int (ws.length:Int),Tg.nw)]=intz (S ++ [(ws.length:Int)]):=by rw [fR]; rfl
 refine⟨ws,ls,_,S ++ [(ws.length:Int)],rfl,few,wb,.inr (congrArg PV.lst e1),by rw [ax9,az1]; omega,?_,_,rfl,aR ?_⟩
 ·have:=z9 (n:=ws.length) (k:=S.length) (s:=S) (x:=(ws.length:Int)) (.inr (Int.le_refl _))
  rwa [az5,List.drop_length,aD9] at this
 refine⟨_,rfl,_,rfl,_,rfl,_,rfl,_,rfl,cI _,?_⟩
 refine⟨_,rfl,by show 1<=1000; decide,rfl,?_⟩
 refine an6 (s:=S) (xs:=[-1]) k0 (by omega) (by show 1<=2; decide) ?_
 refine⟨_,rfl,_,rfl,_,rfl,_,rfl,cI _,?_⟩
 show o9 (.lst (intz (S.take k.toNat ++ [-1]))) _ (.lst (fM (intz S) (some k) none)) _ _
 rw [yN S k0]
 refine⟨_,_,rfl,rfl,cI _,cI _,by rw [bH,bH,ax9,aB0,aC2,az1]; omega,?_⟩
 rw [<- fR]
 refine⟨ws,ls,_,_,rfl,few,wb,.inr rfl,by rw [ax9,ax9,aB0,aC2,az1]; omega,z9 (.inl (by decide)),_,rfl,aR ?_⟩
 refine⟨_,rfl,_,_,rfl,rfl,.inl ⟨_,_,rfl,rfl,_,rfl,?_⟩⟩
 show if decide (((intz S).length:Int)=0)=true then _ else _
 rw [ll]
 by_cases h0:(S.length:Int)=0
 ·rw [ay0 h0]
  exact b7 ⟨trivial,q⟩
 rw [ax4 h0]
 have j0:0<=c / 13 % (S.length:Int):=aC7 _ (by omega)
 have j1:c / 13 % (S.length:Int) < S.length:=aB7 _ (by omega)
 have ix:∃ x,x ∈ S/\L2.atI (intz S) (c / 13 % (S.length:Int))=some (.int x):=by
  generalize c / 13 % (S.length:Int)=j at j0 j1
  obtain ⟨m,rfl⟩:∃ m:Nat,j=m:=⟨j.toNat,by omega⟩
  have g1:S[m]? = some (S[m]'(by omega)):=aw3 (by omega)
  exact⟨S[m]'(by omega),aG0 _,kO (by rw [aw8,g1]; rfl)⟩
 obtain ⟨x,hx,hi⟩:=ix
 refine aR ⟨_,rfl,_,rfl,_,rfl,_,rfl,_,_,rfl,rfl,⟨by decide,by decide⟩,_,rfl,_,_,rfl,rfl,_,_,rfl,rfl,by rw [ll]; omega,_,_,PV.int x,rfl,rfl,by rw [ll]; exact hi,by show 1<=1000; decide,rfl,?_⟩
 refine⟨_,_,rfl,rfl,cI _,rfl,by rw [bH]; show S.length+1<=_; omega,?_⟩
 have e2:∀ g:Tg,intz S ++ List.map (fun (x:PV × Tg)=>x.1) [(PV.int x,g)]=intz (S ++ [x]):=fun g=>by rw [fR]; rfl
 refine⟨ws,ls,_,S ++ [x],rfl,few,wb,.inr (congrArg PV.lst (e2 _)),by rw [ax9,az1]; omega,?_,trivial,q⟩
 have:=an5 (n:=ws.length) (k:=S.length) (s:=S) hx
 rwa [az5,List.drop_length,aD9] at this
theorem as2 (few:n<=40) (ln:ws.length=n) (wd:WD ws.length ws ls) (hs:bL n S=true) (c0:0<=c) (q:Q (.bl true)) :
  A8 { nx:=fun _=>Q .non,rt:=Q } [some (.sh true (.scr ns)),si hd,si n,some (.sh true (b5 ws ls)),si c,some (.own (.lst (intz S))),y6,y7,none,none]:=by
 have sl:=yA hs
 have wb:Wb ws ls:=wd.wl.wb (by omega)
 have hs':bL ws.length S=true:=by rw [ln]; exact hs
 have mo:=wd.most
 have inn:=(jX hs').2
 refine⟨_,rfl,_,_,rfl,rfl,cI _,trivial,?_⟩
 refine⟨_,rfl,_,rfl,ws,ls,_,S,rfl,by omega,wb,.inr rfl,by omega,(fun z=>by rw [hs'] at z; cases z),fun _=>?_⟩
 refine⟨_,rfl,_,rfl,ws,ls,S,rfl,by omega,mo,fun l hl=>by have:=wd.inn l hl; omega,inn,?_⟩
 have rl:=zY ls S
 refine⟨cG ws ls S,cN ls S,_,_,rfl,.inr rfl,.inr rfl,by unfold cG; rw [aw9]; omega,by omega,_,rfl,aR ?_⟩
 refine⟨_,rfl,_,rfl,.inr ⟨_,_,rfl,rfl⟩,ab1 2 S S,_,rfl,?_⟩
 show if (!bV 3 (.lst (intz S)) (.lst (intz S)))=true then _ else _
 rw [ab0,ay0 rfl]
 refine aR ?_
 refine⟨_,rfl,_,rfl,(n:Int),rfl,by omega,by omega,?_⟩
 rw [aF3,ai3]
 have rs:bL ws.length (rng n)=true:=by rw [ln]; exact ap3 n
 refine⟨ws,ls,_,rng n,rfl,by omega,wb,.inl rfl,by rw [lH]; omega,(fun z=>by rw [rs] at z; cases z),fun _=>?_⟩
 have e1:cG ws ls (rng n)=ws:=by rw [<- ln]; exact ar9 wb fun w hw=>(wd.pos w hw).1
 have e2:cN ls (rng n)=ls:=by rw [<- ln]; exact as0 wd.inn
 rw [e1,e2]
 refine⟨_,rfl,ws,ls,_,_,rfl,.inl rfl,.inl rfl,by omega,by omega,_,rfl,aR ?_⟩
 have ns0:bL ws.length []=true:=rfl
 refine⟨_,rfl,by decide,rfl,ws,ls,_,[],rfl,by omega,wb,.inl rfl,by decide,(fun z=>by rw [ns0] at z; cases z),fun _=>?_⟩
 have f0:cN ls [] = []:=by
  unfold cN
  rw [List.filter_eq_nil_iff.mpr fun l _ z=>by
   unfold dP at z
   rw [ax4 (fun z=>nomatch z)] at z
   cases z]
  rfl
 rw [f0]
 refine⟨by decide,rfl,by decide,rfl,by decide,rfl,[],[],_,_,rfl,.inl rfl,.inl rfl,by decide,by decide,_,rfl,aR ?_⟩
 exact as1 few ln wb hs c0 q
theorem as3 (hl:ns.length<=63) (few:n<=40) (q:Q (.bl true)):tG { nx:=fun _=>Q .non,rt:=Q } [some (.sh true (.scr ns)),si hd,si n,none,none,none,none,none,none,none]:=by
 refine⟨_,rfl,_,rfl,_,rfl,cI _,_,rfl,_,rfl,_,_,rfl,rfl,⟨by decide,by decide⟩,_,ns.drop 2,(n:Int),_,rfl,?_,by rw [aC2]; omega,by omega,by omega,fun ws ls w=>⟨trivial,?_⟩⟩
 ·show hZ (.lst (fM (intz ns) (some 2) none)) _
  rw [yN ns (by decide)]
  exact .inr rfl
 have ln:ws.length=n:=by have:=w.many; omega
 have wd:WD ws.length ws ls:=by rw [ln]; exact w
 refine⟨_,rfl,_,ns,1,rfl,.inl rfl,by decide,?_⟩
 generalize ns.getD (1:Int).toNat 0=cell
 refine⟨_,_,rfl,rfl,⟨by decide,by decide,by decide⟩,_,_,rfl,rfl,(by show (0:Int) < 10 ^ (60:Int).toNat; decide),trivial,?_⟩
 dsimp only
 have c0:0<=cell % 10 ^ (60:Int).toNat:=aC7 _ (by decide)
 generalize cell % 10 ^ (60:Int).toNat=c at c0
 refine⟨by decide,rfl,rfl,rfl,?_⟩
 refine⟨_,rfl,trivial,?_⟩
 refine⟨_,rfl,(n:Int),rfl,by omega,by omega,fun i ρ=>∃ (r:Int) (y7:Option Slot) (S:List Int),ρ = [some (.sh true (.scr ns)),si hd,si n,some (.sh true (b5 ws ls)),si c,some (.own (.lst (intz S))),si r,y7,none,none]/\S.Pairwise (· < ·)/\(∀ x ∈ S,0<=x/\x < (i:Int))/\S.length<=i,
  ⟨c,none,[],rfl,.nil,(fun _ h=>nomatch h),aw6 _⟩,?_,?_⟩
 ·rintro i y ρ hy ⟨r,y7,S,rfl,up,inn,sl⟩
  obtain ⟨rfl,hi⟩:=hV hy
  have e0:(0:Int)+(i:Int)=(i:Int):=by omega
  rw [e0]
  have tail:∀ S':List Int,S'.Pairwise (· < ·)->(∀ x ∈ S',0<=x/\x < ((i+1:Nat):Int))->S'.length<=i+1->(bB 6 (cM (a6 6) (qC (.int 3)))) { nx:=fun ρ=>∃ (r:Int) (y7:Option Slot) (S:List Int),ρ = [some (.sh true (.scr ns)),si hd,si n,some (.sh true (b5 ws ls)),si c,some (.own (.lst (intz S))),si r,y7,none,none]/\S.Pairwise (· < ·)/\(∀ x ∈ S,0<=x/\x < ((i+1:Nat):Int))/\S.length<=i+1,rt:=Q } [some (.sh true (.scr ns)),si hd,si n,some (.sh true (b5 ws ls)),si c,some (.own (.lst (intz S'))),si r,si i,none,none]:=fun S' h1 h2 h3=>
   ⟨_,rfl,_,_,rfl,rfl,⟨by decide,by decide⟩,trivial,_,_,S',rfl,h1,h2,h3⟩
  refine⟨_,rfl,_,_,rfl,rfl,(by show (0:Int) < 3; decide),_,_,rfl,rfl,_,rfl,?_⟩
  cases hc:decide (r % 3 > 0) with
  | false=>
   exact aR (tail S up (fun x hx=>by have:=inn x hx; omega) (by omega))
  | true=>
   refine b7 ⟨_,rfl,_,rfl,o0 _ _,by rw [bH]; omega,?_⟩
   have:=tail (S ++ [(i:Int)]) (List.pairwise_append.mpr ⟨up,aD1 _ _,fun x hx y hy=>by rw [ay2.mp hy]; exact (inn x hx).2⟩) (fun x hx=>by
    rcases aA8.mp hx with h | h
    ·have:=inn x h; omega
    ·rw [ay2.mp h]; omega) (by rw [ax9,az1]; omega)
   rw [fR] at this
   exact this
 rintro ρ ⟨r,y7,S,rfl,up,inn,sl⟩
 rw [eY,aF3] at inn
 exact as2 few ln wd (ap2 up inn) c0 q
end
theorem as4:dN A9 ["script","head","many","web","cell","some","rest","hearth","handed","spot"] tF:=by
 rintro xs Q ⟨ns,rfl,hl,q⟩
 refine⟨_,rfl,_,ns,0,rfl,.inl rfl,by decide,trivial,?_⟩
 generalize ns.getD (0:Int).toNat 0=head
 refine⟨_,rfl,_,_,rfl,rfl,(by show (0:Int) < 9; decide),trivial,?_⟩
 have fin:∀ many:Int,0<=many->many<=40->tG { nx:=fun _=>Q .non,rt:=Q } [some (.sh true (.scr ns)),si head,si many,none,none,none,none,none,none,none]:=fun many h0 h1=>by
  obtain ⟨n,rfl⟩:∃ n:Nat,many=n:=⟨many.toNat,by omega⟩
  exact as3 hl (by omega) q
 refine⟨_,rfl,_,_,rfl,rfl,⟨by decide,by decide⟩,_,_,rfl,rfl,(by show (0:Int) < 4; decide),.inl ⟨_,_,rfl,rfl,_,rfl,?_⟩⟩
 cases hc:(decide (head / 9 % 4=1)) with
 | false=>
  have a1:=aC7 head (show (9:Int) ≠ 0 by decide)
  have a2:=aB7 head (show (0:Int) < 9 by decide)
  exact aR (fin (head % 9) a1 (by omega))
 | true=>
  have a1:=aC7 (head / 36) (show (41:Int) ≠ 0 by decide)
  have a2:=aB7 (head / 36) (show (0:Int) < 41 by decide)
  exact b7 ⟨_,rfl,_,_,rfl,rfl,⟨by decide,by decide⟩,_,_,rfl,rfl,(by show (0:Int) < 41; decide),trivial,fin (head / 36 % 41) a1 (by omega)⟩
end Core
namespace K_k05
open PySem PySem.W L2 PP Core
theorem _root_.L2.FnScope.au {N P:List Str}{s:Scope} (a:s.kind=.function:=by rfl) (b:s.isCoroutine=false:=by rfl) (c:s.isGenerator=false:=by rfl) (d:N.Nodup:=by decide +kernel) (e:N.take P.length=P:=by rfl) (f:∀ x∈P,s.names.lookup x=some .local∨s.names.lookup x=some .cell:=by decide +kernel) (g:∀ y∈s.names,y.2≠.free:=by decide +kernel):FnScope N P s:=⟨a,b,c,d,e,f,g⟩
def aY (i:Nat):Stmt:=PySem.Challenge.pw_kindleweb_k05_rest_webs.main.body.getD i (.Pass ⟨0,0,0,0⟩)
structure FK (K:Frag) (n:Str) (i:Nat) (f:Addr) (d:FuncData):Prop where
 a:nsIn K mainGlobals n=some (some (.ref f))
 F:dH K n n (aY i) f d
structure FM (K:Frag) (mg:Str->Option Value) (n:Str) (i:Nat) (f:Addr) (d:FuncData):Prop where
 F:dH K n n (aY i) f d
 m:mg n=some (.ref f)
theorem FK.M {K:Frag}{mg:Str->Option Value}{n:Str}{i:Nat}{f:Addr}{d:FuncData}{h:Heap} (z:FK K n i f d) (X:K.In h) (G:h.Ns mainGlobals mg):FM K mg n i f d:=⟨z.F,mg_of X G z.a⟩
abbrev Hb (x:Str) (ps:List Str) (i:Nat):Prop:=∀ (kV doc pm:Value) (an:Option Addr) (cdv ct:Value) (us:List Value),us.length=ps.length->bindArgs (fnOf x x (gO (aY i)) (dA (aY i)) (aT (aY i)) .none kV doc pm an cdv ct) ⟨us,[]⟩=pure (ps.zip us)
theorem as5 {A:Around}{k:Nat} (hr:bD k A):A.units+3 < cLine:=by have:=hr.units; omega
section
variable {P : Program} {w : World} {K : Frag} {mg : Str → Option Value} {base : Heap} {f : Addr} {fd : FuncData} {k i : Nat} {x : Str} {ps N : List Str}
theorem Df.au {p:bN} (F:FM K mg x i f fd) (S:FnScope N ps (aT (aY i))) (body:∀ (cdv:Value) (A:Around) (outer:List Env) (s:Shared) (H:Hp) (E:XK),bD k (A.deeper (PyProof.Rows.envOfC x (aT (aY i)) s.heap.objs.size f cdv))->∃ t,dM (cE cP P w K mg base N x (aT (aY i)) f cdv A outer s H E).nox (dA (aY i)) t/\∀ xs Q,p xs Q->t { nx:=fun _=>Q .non,rt:=Q } (cS N xs)) (hb:Hb x ps i:=by intro _ _ _ _ _ _ us hl; first | (obtain ⟨_,rfl⟩:=lP hl; rfl) | (obtain ⟨_,_,rfl⟩:=sY hl; rfl) | (obtain ⟨_,_,_,rfl⟩:=sZ hl; rfl) | (obtain ⟨_,_,_,_,rfl⟩:=zC hl; rfl) | (obtain ⟨_,_,_,_,_,rfl⟩:=us5 hl; rfl)) (len:∀ xs Q,p xs Q->xs.length=ps.length:=by intro xs Q h; repeat (first | (obtain ⟨rfl,_⟩:=h; rfl) | (obtain ⟨_,h⟩:=h))):Df P w K mg base (k+1) x ps p:=
 Df.of F.F F.m S hb len body
theorem dO.au {p:eN} (F:FM K mg x i f fd) (S:FnScope N ps (aT (aY i))) (t:(Str->Prop)->aO) (rd:∀ Ep xs Q,p Ep xs Q->t Ep { nx:=fun _=>Q .non,rt:=Q } (cS N xs)) (body:∀ (cdv:Value) (A:Around) (outer:List Env) (s:Shared) (H:Hp) (E:XK) (Ep:Str->Prop),bD k (A.deeper (PyProof.Rows.envOfC x (aT (aY i)) s.heap.objs.size f cdv))->jV (cE (cT P w) P w K mg base N x (aT (aY i)) f cdv A outer s H E) (EX K H Ep)->dM (cE (cT P w) P w K mg base N x (aT (aY i)) f cdv A outer s H E) (dA (aY i)) (t Ep)) (hb:Hb x ps i:=by intro _ _ _ _ _ _ us hl; first | (obtain ⟨_,rfl⟩:=lP hl; rfl) | (obtain ⟨_,_,rfl⟩:=sY hl; rfl) | (obtain ⟨_,_,_,rfl⟩:=sZ hl; rfl) | (obtain ⟨_,_,_,_,rfl⟩:=zC hl; rfl) | (obtain ⟨_,_,_,_,_,rfl⟩:=us5 hl; rfl)) (len:∀ Ep xs Q,p Ep xs Q->xs.length=ps.length:=by intro Ep xs Q h; repeat (first | (obtain ⟨rfl,_⟩:=h; rfl) | (obtain ⟨_,h⟩:=h))):dO P w K mg base (k+1) x ps p:=
 dO.of F.F F.m S hb t len rd body
end
section
variable {P : Program} {w : World} {K : Frag} {mg : Str → Option Value} {base : Heap} {f : Addr} {fd : FuncData}
theorem oP:(["ahead","behind"]:List Str).Nodup:=by decide +kernel
abbrev B0:Stmt:=aY 4
theorem scR:FnScope ["things"] ["things"] (aT B0):=.au
theorem tH {ns:List Int}{i:Nat}{x y:V} (h1:(ns.map V.int)[i]? = some x) (h2:((ns.map V.int).drop 1)[i]? = some y):∃ p q:Int,x = .int p/\y = .int q/\(ns.zip (ns.drop 1))[i]? = some (p,q):=by
 rw [aw8] at h1
 rw [<- List.map_drop,aw8] at h2
 cases e1:ns[i]? with
 | none=>rw [e1] at h1; cases h1
 | some p=>
  cases e2:(ns.drop 1)[i]? with
  | none=>rw [e2] at h2; cases h2
  | some q=>
   rw [e1] at h1; rw [e2] at h2
   exact⟨p,q,(ay6 h1).symm,(ay6 h2).symm,List.getElem?_zip_eq_some.mpr ⟨e1,e2⟩⟩
theorem as6 (B:Bt mg) (F:dH K "rises" "rises" B0 f fd):bZ P w K mg base cP 1 f fd ["things"] (yH K):=by
 refine F.ok scR (fun vs H Q E h=>?_) (fun cdv A outer s H vs Q E hr h=>?_)
 ·obtain ⟨a,ns,rfl,_⟩:=h
  rfl
 obtain ⟨a,ns,rfl,hS,hn,q⟩:=h
 have lz:((ns.map V.int).drop 1).length<=sizeLine:=aD8 (fZ (by rw [aC2,aw9]; omega))
 have lz2:((ns.map V.int).drop 1).length<=(ns.map V.int).length:=by rw [aC2]; omega
 have lz3:(ns.zip (ns.drop 1)).length=((ns.map V.int).drop 1).length:=by rw [List.length_zip,aC2,aC2,aw9]; omega
 rcases hS with hS | hS
 ·refine⟨_,kD (lU (kM (qL rfl) rfl B.all PyProof.Rows.boot_all (cD (vO (N:=["ahead","behind"]) (fr:=[none,none]) rfl (cF.of rfl rfl) (V4 rfl B.zip (cD (pv 0) (cD (pG wJ (pv 0) (pF kB) pE) cV)))
   ⟨fun _ _ _ _=>show PG _ _ (jC K 2 (fD (bY 0) (fD (bY 1) jB))) from kF rfl (fW (e9 (i:=0) oP rfl (Or.inl rfl) (.inr rfl)) (fW (e9 (i:=1) oP rfl (Or.inl rfl) (.inr rfl)) kE)),fun _ _ _ _=>mI,fun _ _ _ _=>p4 lZ (pv 0) (pv 1) (fX _)⟩) cV))),?_⟩
  refine⟨_,rfl,_,rfl,1,rfl,a,_,rfl,hS,fun p hp=>?_,fun e=>?_⟩
  ·have s1:=b4 hp (.tup (cW (ns.map V.int) (some 1) none))
   have hb:aI K (upd H p (.tup (cW (ns.map V.int) (some 1) none))) p ((ns.map V.int).drop 1):=aI.of (by rw [aU,qO])
   refine⟨a,p,_,_,rfl,s1.tup hS,hb,qN (wI (s1.tup hS) hb lz2) (fun i acc _=>acc=((ns.zip (ns.drop 1)).take i).map fun (p:Int × Int)=>V.bl (decide (p.1 < p.2))) lz (fun _ _=>rfl) (fun _ _ _ _ _ h=>h) (fun i x acc D H' hi hR c hP=>?_) (fun D acc H' hD sm hDa hlen hP=>?_)⟩
   ·obtain ⟨T,x1,y1,rfl,hT,h1,h2⟩:=hR
    obtain ⟨m,k,rfl,rfl,hz⟩:=tH h1 h2
    refine⟨T,_,rfl,aI.of hT,rfl,_,_,rfl,_,_,rfl,rfl,((Wk.refl _).set (i:=0) rfl).set (i:=1) rfl,mS ⟨_,rfl,_,rfl,_,_,rfl,rfl,c.yes (a9.refl _) ?_⟩⟩
    rw [nV hz,hP]
   ·refine⟨D,(ns.zip (ns.drop 1)).map fun (p:Int × Int)=>decide (p.1 < p.2),rfl,aH.of ?_,q _ (s1.trans sm)⟩
    rw [hDa,hP,<- lz3,az5,aF7]; rfl
  ·have hb:aI K H a ((ns.map V.int).drop 1):=by
    have:(ns.map V.int).drop 1=ns.map V.int:=by rw [<- qO]; exact e
    rw [this]; exact hS
   refine⟨a,a,_,_,rfl,hS,hb,qN (wI hS hb lz2) (fun i acc _=>acc=((ns.zip (ns.drop 1)).take i).map fun (p:Int × Int)=>V.bl (decide (p.1 < p.2))) lz (fun _ _=>rfl) (fun _ _ _ _ _ h=>h) (fun i x acc D H' hi hR c hP=>?_) (fun D acc H' hD sm hDa hlen hP=>?_)⟩
   ·obtain ⟨T,x1,y1,rfl,hT,h1,h2⟩:=hR
    obtain ⟨m,k,rfl,rfl,hz⟩:=tH h1 h2
    refine⟨T,_,rfl,aI.of hT,rfl,_,_,rfl,_,_,rfl,rfl,((Wk.refl _).set (i:=0) rfl).set (i:=1) rfl,mS ⟨_,rfl,_,rfl,_,_,rfl,rfl,c.yes (a9.refl _) ?_⟩⟩
    rw [nV hz,hP]
   ·refine⟨D,(ns.zip (ns.drop 1)).map fun (p:Int × Int)=>decide (p.1 < p.2),rfl,aH.of ?_,q _ sm⟩
    rw [hDa,hP,<- lz3,az5,aF7]; rfl
 ·refine⟨_,kD (lU (kM (qL rfl) rfl B.all PyProof.Rows.boot_all (cD (vO (N:=["ahead","behind"]) (fr:=[none,none]) rfl (cF.of rfl rfl) (W0 rfl B.zip (cD (pv 0) (cD (pG uZ (pv 0) (pF kB) pE) cV)))
   ⟨fun _ _ _ _=>show PG _ _ (jC K 2 (fD (bY 0) (fD (bY 1) jB))) from kF rfl (fW (e9 (i:=0) oP rfl (Or.inl rfl) (.inr rfl)) (fW (e9 (i:=1) oP rfl (Or.inl rfl) (.inr rfl)) kE)),fun _ _ _ _=>mI,fun _ _ _ _=>p4 lZ (pv 0) (pv 1) (fX _)⟩) cV))),?_⟩
  refine⟨_,rfl,_,rfl,1,rfl,a,_,rfl,hS,fun p hp=>?_⟩
  have s1:=b4 hp (.lst (cW (ns.map V.int) (some 1) none))
  have hb:aH K (upd H p (.lst (cW (ns.map V.int) (some 1) none))) p ((ns.map V.int).drop 1):=aH.of (by rw [aU,qO])
  refine⟨a,p,_,_,rfl,s1.seq hS,hb,qN (W4 (s1.seq hS) hb lz2) (fun i acc _=>acc=((ns.zip (ns.drop 1)).take i).map fun (p:Int × Int)=>V.bl (decide (p.1 < p.2))) lz (fun _ _=>rfl) (fun _ _ _ _ _ h=>h) (fun i x acc D H' hi hR c hP=>?_) (fun D acc H' hD sm hDa hlen hP=>?_)⟩
  ·obtain ⟨T,x1,y1,rfl,hT,h1,h2⟩:=hR
   obtain ⟨m,k,rfl,rfl,hz⟩:=tH h1 h2
   refine⟨T,_,rfl,aI.of hT,rfl,_,_,rfl,_,_,rfl,rfl,((Wk.refl _).set (i:=0) rfl).set (i:=1) rfl,mS ⟨_,rfl,_,rfl,_,_,rfl,rfl,c.yes (a9.refl _) ?_⟩⟩
   rw [nV hz,hP]
  ·refine⟨D,(ns.zip (ns.drop 1)).map fun (p:Int × Int)=>decide (p.1 < p.2),rfl,aH.of ?_,q _ (s1.trans sm)⟩
   rw [hDa,hP,<- lz3,az5,aF7]; rfl
abbrev B1:Stmt:=aY 6
theorem oQ:FnScope ["web","around","one","other"] ["web"] (aT B1):=.au
theorem as7 (F:dH K "near_lists" "near_lists" B1 f fd):bZ P w K mg base cP 1 f fd ["web"] yI:=by
 refine F.ok oQ (fun vs H Q E h=>?_) (fun cdv A outer s H vs Q E hr h=>?_)
 ·obtain ⟨v,ws,ls,rfl,_⟩:=h
  rfl
 obtain ⟨v,ws,ls,rfl,W,hn,hm,hin,q⟩:=h
 refine⟨_,lT (S7 (i:=1) (N:=["want"]) (fr:=[none]) rfl (cF.of rfl rfl) (tX (kQ pJ (pv 0) kB (fun _ _=>rfl)))
   ⟨fun _ _ _ _=>e9 (i:=0) (aD1 _ _) rfl (Or.inl rfl) (.inr rfl),fun _ _ _ _=>mI,fun _ _ _ _=>uH cV⟩ oQ.nd rfl rfl rfl)
  (lT (u5 PassesOwn.never rfl (tX (kQ pJ (pv 0) kB (fun _ _=>rfl))) (kF (n:=2) rfl (fW (e9 (i:=2) oQ.nd rfl (Or.inl rfl) (.inr rfl)) (fW (e9 (i:=3) oQ.nd rfl (Or.inl rfl) (.inr rfl)) kE)) )
   (lT (oU (m6 PySem.F.plainAttrs_list PySem.F.slot_list_append PySem.F.type_list_append m7 (kQ pI (pv 1) (pv 2) (fun _ _=>rfl)) (cD (pv 3) cV)))
   (kD (oU (m6 PySem.F.plainAttrs_list PySem.F.slot_list_append PySem.F.type_list_append m7 (kQ pI (pv 1) (pv 3) (fun _ _=>rfl)) (cD (pv 2) cV))))))
  (kD (lU (pv 1)))),?_⟩
 obtain ⟨a,p,q',ys,rfl,ha,hp,hq,hL⟩:=W.at_
 have lw:(ws.map V.int).length=ws.length:=aw9 _
 refine⟨_,rfl,a,_,_,_,rfl,rfl,aI.of ha,rfl,p,rfl,⟨_,aI.of hp⟩,S9 (S8 (aI.of hp)) (fun i acc H'=>∃ bs:List Addr,acc=bs.map V.ref/\bs.length=i/\bs.Nodup/\∀ b ∈ bs,H b=none/\H' b=some (.lst [])) (by rw [lw]; exact aD8 (vK hn))
  (fun D hD=>⟨[],rfl,rfl,List.nodup_nil,fun _ z=>nomatch z⟩) (fun i x acc D H' hx c hPv=>?_) (fun D acc H' hD sm hDa hlen hPv=>?_)⟩
 ·obtain ⟨bs,rfl,hbl,nd,hb⟩:=hPv
  refine⟨U5 (n:=none),mS ⟨az7 _,fun r hr'=>?_⟩⟩
  have hrD:r ≠ D:=fun z=>by rw [z,c.acc] at hr'; cases hr'
  have hrH:H r=none:=c.same.free hr'
  refine c.yes (b4 hr' _) ⟨bs ++ [r],by simp,by simp [hbl],?_,fun b hm=>?_⟩
  ·refine List.nodup_append.mpr ⟨nd,aD1 _ _,fun b hb1 b' hb2 e=>?_⟩
   rw [ay2.mp hb2] at e
   rw [e] at hb1
   rw [(hb r hb1).2] at hr'; cases hr'
  ·rcases aA8.mp hm with hm | hm
   ·have hbD:b ≠ D:=fun z=>by
     rw [z] at hm
     have:=(hb D hm).2
     rw [c.acc] at this
     have:bs.map V.ref = []:=by injection this with e1; injection e1
     have:bs = []:=List.map_eq_nil_iff.mp this
     rw [this] at hm; simp at hm
    refine⟨(hb b hm).1,?_⟩
    rw [aB hbD,aB (bI (hb b hm).2 hr')]
    exact (hb b hm).2
   ·rw [ay2.mp hm]
    exact⟨hrH,by rw [aB hrD,aU]⟩
 ·obtain ⟨bs,rfl,hbl,nd,hb⟩:=hPv
  rw [lw] at hbl
  have R0:gR H H' D bs (fun k=>b8 (ls.take 0) k):=by
   refine⟨hD,fun b hm=>⟨(hb b hm).1,fun z=>?_⟩,nd,hDa,fun k b hk=>(hb b (aB3 hk)).2,sm⟩
   rw [z] at hm
   have:=(hb D hm).2
   rw [hDa] at this
   have:bs.map V.ref = []:=by injection this with e1; injection e1
   have:bs = []:=List.map_eq_nil_iff.mp this
   rw [this] at hm; simp at hm
  have lL:=hL.length
  refine⟨_,rfl,a,_,_,_,rfl,rfl,aI.of (sm _ _ ha),rfl,q',rfl,⟨_,aI.of (sm _ _ hq)⟩,J4 (K:=K) (a:=q') (xs:=ys) (fun i σ H2=>∃ x y:Option V,σ = [some (.ref a),some (.ref D),x,y]/\gR H H2 D bs (fun k=>b8 (ls.take i) k))
   ⟨none,none,rfl,R0⟩ (fun i σ H2 _ ⟨_,_,_,R⟩=>aI.of (R.same _ _ hq)) ?_ ?_⟩
  ·rintro i y σ H2 hi ⟨x1,x2,rfl,R⟩
   obtain ⟨l,b,hl,rfl,hbt⟩:=hL.get hi
   have hlm:l ∈ ls:=aB3 hl
   obtain ⟨⟨h1,h2⟩,h3,h4⟩:=hin l hlm
   have k1:l.1.toNat < bs.length:=by omega
   have k2:l.2.toNat < bs.length:=by omega
   have e1:bs[l.1.toNat]? = some (bs[l.1.toNat]):=aw3 k1
   have e2:bs[l.2.toNat]? = some (bs[l.2.toNat]):=aw3 k2
   refine⟨b,_,rfl,aI.of (R.same _ _ hbt),rfl,_,_,rfl,_,_,rfl,rfl,?_⟩
   refine⟨_,rfl,_,rfl,D,_,_,.ref bs[l.1.toNat],rfl,rfl,aH.of R.row,mR h1 (by rw [aw8,e1]; rfl),mT (aH.of (R.rows _ _ e1)),_,rfl,_,_,_,rfl,rfl,R.rows _ _ e1,?_,?_⟩
   ·rw [aw9]
    have:=qH (ls.take i) (l.1.toNat:Nat)
    rw [aB0] at this
    exact fZ (by omega)
   ·have R1:=R.app e1 l.2
    refine⟨_,rfl,_,rfl,D,_,_,.ref bs[l.2.toNat],rfl,rfl,aH.of R1.row,mR h3 (by rw [aw8,e2]; rfl),mT (aH.of (R1.rows _ _ e2)),_,rfl,_,_,_,rfl,rfl,R1.rows _ _ e2,?_,?_⟩
    ·rw [aw9]
     have:=qH (ls.take i) (l.2.toNat:Nat)
     rw [aB0] at this
     split
     ·rw [ax9,az1]; exact fZ (by omega)
     ·exact fZ (by omega)
    ·have R2:=R1.app e2 l.1
     refine⟨_,_,rfl,R2.congr fun k hk=>?_⟩
     rw [wD hl]
     have c1:(k=l.1.toNat) ↔ l.1=(k:Int):=by omega
     have c2:(k=l.2.toNat) ↔ l.2=(k:Int):=by omega
     by_cases d1:k=l.1.toNat
     ·by_cases d2:k=l.2.toNat
      ·rw [if_pos d2,if_pos d1,if_pos (c1.mp d1),if_pos (c2.mp d2)]; simp
      ·rw [if_neg d2,if_pos d1,if_pos (c1.mp d1),if_neg (fun z=>d2 (c2.mpr z))]; simp
     ·by_cases d2:k=l.2.toNat
      ·rw [if_pos d2,if_neg d1,if_neg (fun z=>d1 (c1.mpr z)),if_pos (c2.mp d2)]; simp
      ·rw [if_neg d2,if_neg d1,if_neg (fun z=>d1 (c1.mpr z)),if_neg (fun z=>d2 (c2.mpr z))]; simp
  ·
   rintro σ H2 ⟨x1,x2,rfl,R⟩
   refine⟨_,rfl,q D bs H2 hbl ?_⟩
   rw [lL,az5] at R
   exact R
theorem as8:FnScope ["web"] ["web"] (aT (aY 5)):=.au
theorem as9 (B:Bt mg) (F:FM K mg "hearths_in" 5 f fd)  : Df P w K mg base 1 "hearths_in" ["web"] nX:=
 Df.au F as8 (fun cdv A outer s H E hr=>by
  exact⟨(xW),(aS (bK (dZ B (a8 (bR (qv 0) aG) aF)))),ag0⟩)
theorem at0:FnScope ["hearths","inside"] ["hearths","inside"] (aT (aY 11)):=.au
theorem at2 (B:Bt mg) (F:FM K mg "count_inside" 11 f fd)  : Df P w K mg base 1 "count_inside" ["hearths","inside"] oM:=
 Df.au F at0 (fun cdv A outer s H E hr=>by
  have hu:=pR hr
  exact⟨(zZ),(aS (bK (dZ B (a8 (ae1 (N:=["hearth","inside"]) (fr:=[none,some 1]) (iY (qv 0)) (fun _ _ _ _=>(rN hu (qv 0) (qv 1))) (fun _ _ _ _=>(qv 0))) aF)))),ar1⟩)
theorem at3:FnScope ["script","k"] ["script","k"] (aT (aY 14)):=.au
theorem at4 (B:Bt mg) (F:FM K mg "_law_cell_at" 14 f fd)  : Df P w K mg base 1 "_law_cell_at" ["script","k"] gG:=
 Df.au F at3 (fun cdv A outer s H E hr=>by
  exact⟨(yB),(aQ (cL (rL (qv 1) (dZ B (a8 (qv 0) aF))) (aS (bK (bR (qv 0) (qv 1)))) cK)
   (aS (bK aG))),ag8⟩)
theorem B2:FnScope ["wants_cell","links_cell","many","most","wants","k","links","one","other"] ["wants_cell","links_cell","many","most"] (aT (aY 15)):=.au
theorem at5 (B:Bt mg) (F:FM K mg "_law_web_of_digits" 15 f fd)  : Df P w K mg base 1 "_law_web_of_digits" ["wants_cell","links_cell","many","most"] oH:=
 Df.au F B2 (fun cdv A outer s H E hr=>by
  have nd:=B2.nd
  exact⟨(zN),(aQ (gD (i:=4) nd (eM aF))
   (aQ (fP 5 nd (iZ rfl B.range (qv 2))
    (aQ (iI 4 (bP (qv 0) (qv 3)))
    (aS (cA (i:=0) nd (cZ (qv 0) (qv 3))))))
   (aQ (gD (i:=6) nd (eM aF))
   (aQ (fP 7 nd (iZ rfl B.range (qv 2))
    (aS (fP 8 nd (xE rfl B.range (gZ (qv 7) aG) (qv 2))
     (aQ (cL (jR (bP (qv 1) aG) aG) (aS (iI 6 (eL (a8 (qv 7) (a8 (qv 8) aF))))) cK)
     (aS (cA (i:=1) nd (cZ (qv 1) aG)))))))
   (aS (bK (eL (a8 (hU B (a8 (qv 4) aF)) (a8 (hU B (a8 (qv 6) aF)) aF))))))))),ap6⟩)
theorem B3:FnScope ["cell","many","wants","links","mark","one","other","number"] ["cell","many"] (aT (aY 16)):=.au
theorem at6 (B:Bt mg) (F:FM K mg "_law_dense" 16 f fd)  : Df P w K mg base 1 "_law_dense" ["cell","many"] oI:=
 Df.au F B3 (fun cdv A outer s H E hr=>by
  have nd:=B3.nd
  exact⟨(zO),(aQ (gD (i:=2) nd (eM aF))
   (aQ (gD (i:=3) nd (eM aF))
   (aQ (cA (i:=4) nd (gZ aG (bP (qv 0) aG)))
   (aQ (fP 5 nd (iZ rfl B.range (qv 1))
    (aQ (iI 2 (bP (cZ (qv 0) (gZ aG (qv 5))) aG))
    (aS (fP 6 nd (xE rfl B.range (gZ (qv 5) aG) (qv 1))
     (aQ (cA (i:=7) nd (gZ (gZ (bP (qv 0) aG) (jQ (jQ aG (qv 5)) (qv 5))) (jQ aG (qv 6))))
     (aQ (cA (i:=7) nd (bP (jQ (gZ (qv 7) aG) aG) aG))
     (aS (cL (rL (bP (cZ (bP (jQ (qv 7) (qv 7)) aG) aG) aG) (qv 4)) (aS (iI 3 (eL (a8 (qv 5) (a8 (qv 6) aF))))) cK))))))))
   (aS (bK (eL (a8 (hU B (a8 (qv 2) aF)) (a8 (hU B (a8 (qv 3) aF)) aF))))))))),ap7⟩)
theorem at7:FnScope ["found"] ["found"] (aT (aY 18)):=.au
theorem at8 (B:Bt mg) (F:FM K mg "_law_whole_number" 18 f fd)  : Df P w K mg base 1 "_law_whole_number" ["found"] o4:=
 Df.au F at7 (fun cdv A outer s H E hr=>by
  exact⟨(yC K),(aS (bK (rO (ad5 B (qv 0)) (nS (ac1 (ad6 B (qv 0))))))),ah1 (o7 K).ii (o7 K).ib⟩)
theorem B4:FnScope ["web","some","wants","links","hearth","outside","one","other"] ["web","some"] (aT (aY 21)):=.au
theorem at9 (B:Bt mg) (F:FM K mg "_law_rest" 21 f fd)  : Df P w K mg base 1 "_law_rest" ["web","some"] oO:=
 Df.au F B4 (fun cdv A outer s H E hr=>by
  have nd:=B4.nd
  exact⟨(A4),(aQ (gD (i:=2) nd (eM aF))
   (aQ (gD (i:=3) nd (eM aF))
   (aQ (fP 4 nd (iY (qv 1))
    (aQ (cA (i:=5) nd aG)
    (aQ (rZ 6 7 nd (iY (bR (qv 0) aG))
     (aS (cL (dY (hG (dY (jT (jR (qv 6) (qv 4)) (jS (xK (qv 7) (qv 1))))) (iH (dY (jT (jR (qv 7) (qv 4)) (jS (xK (qv 6) (qv 1)))))))) (aS (cA (i:=5) nd (gZ (qv 5) aG))) cK)))
    (aS (iI 2 (rQ B rfl (a8 aG (a8 (rJ (bR (bR (qv 0) aG) (qv 4)) (qv 5)) aF))))))))
   (aQ (rZ 6 7 nd (iY (bR (qv 0) aG))
    (aS (cL (dY (jT (xJ (qv 6) (qv 1)) (jS (xJ (qv 7) (qv 1))))) (aS (iI 3 (eL (a8 (zM (qv 1) (qv 6)) (a8 (zM (qv 1) (qv 7)) aF))))) cK)))
   (aS (xD 2 (xD 3 (bK (ac2 (a8 (qv 2) (a8 (qv 3) aF))))))))))),ar6⟩)
theorem au0:FnScope ["web","number"] ["web","number"] (aT (aY 7)):=.au
theorem au1 (B:Bt mg) (F:FM K mg "is_hearth" 7 f fd) (d_hearths_in:Df P w K mg base 1 "hearths_in" ["web"] nX):Df P w K mg base 2 "is_hearth" ["web","number"] nY:=
 Df.au F au0 (fun cdv A outer s H E hr=>by
  exact⟨(xX),(aS (bK (rO (ab8 (qv 1) aG) (nS (ab7 (qv 1) (bS d_hearths_in hr (a8 (qv 0) aF))))))),ag1⟩)
theorem au2:FnScope ["hearths","inside"] ["hearths","inside"] (aT (aY 12)):=.au
theorem au3 (B:Bt mg) (F:FM K mg "count_outside" 12 f fd) (d_count_inside:Df P w K mg base 1 "count_inside" ["hearths","inside"] oM):Df P w K mg base 2 "count_outside" ["hearths","inside"] oN:=
 Df.au F au2 (fun cdv A outer s H E hr=>by
  exact⟨(A0),(aS (bK (rJ (dZ B (a8 (qv 0) aF)) (bS d_count_inside hr (a8 (qv 0) (a8 (qv 1) aF)))))),ar2⟩)
theorem B5:FnScope ["flow","many","way","wants","k","cell","pairs","one","other"] ["flow","many","way"] (aT (aY 17)):=.au
theorem au4 (B:Bt mg) (F:FM K mg "_law_web" 17 f fd) (d__law_dense:Df P w K mg base 1 "_law_dense" ["cell","many"] oI) (d__law_web_of_digits:Df P w K mg base 1 "_law_web_of_digits" ["wants_cell","links_cell","many","most"] oH) (d__law_cell_at:Df P w K mg base 1 "_law_cell_at" ["script","k"] gG):Df P w K mg base 2 "_law_web" ["flow","many","way"] oJ:=
 Df.au F B5 (fun cdv A outer s H E hr=>by
  have nd:=B5.nd
  have hu:=pR hr
  exact⟨(zP),(aQ (cL (dY (jT (jR (bP (cZ (qv 2) aG) aG) aG) (jS (rM (qv 1) aG)))) (aS (bK (bS d__law_dense hr (a8 (bS d__law_cell_at hr (a8 (qv 0) (a8 aG aF))) (a8 (qv 1) aF))))) cK)
   (aQ (cL (dY (jT (jR (bP (cZ (qv 2) aG) aG) aG) (jS (rL (qv 1) aG)))) (aS (bK (bS d__law_web_of_digits hr (a8 (bS d__law_cell_at hr (a8 (qv 0) (a8 aG aF))) (a8 (bS d__law_cell_at hr (a8 (qv 0) (a8 aG aF))) (a8 (qv 1) (a8 (bR (eM (a8 aG (a8 aG (a8 aG (a8 aG aF))))) (bP (qv 2) aG)) aF))))))) cK)
   (aQ (gD (i:=3) nd (eM aF))
   (aQ (fP 4 nd (iZ rfl B.range (qv 1))
    (aQ (cA (i:=5) nd (bS d__law_cell_at hr (a8 (qv 0) (a8 (qv 4) aF))))
    (aS (iI 3 (bR (eM (a8 (bP (cZ (qv 5) aG) aG) (a8 (bP (cZ (qv 5) aG) aG) (a8 (bP (cZ (qv 5) aG) aG) (a8 (bP (cZ (qv 5) aG) aG) aF))))) (bP (qv 2) aG))))))
   (aQ (gD (i:=6) nd ac4)
   (aQ (fP 5 nd (iY (qv 0))
    (aS (cL (rM (qv 1) aG) (aQ (cA (i:=7) nd (bP (qv 5) (qv 1)))
     (aQ (cA (i:=8) nd (bP (cZ (bP (jQ (bP (qv 5) aG) aG) aG) aG) (qv 1)))
     (aS (cL (lE (qv 7) (qv 8)) (aS (ac6 hu (i:=6) (eL (a8 (ad1 B rfl (a8 (qv 7) (a8 (qv 8) aF))) (a8 (rQ B rfl (a8 (qv 7) (a8 (qv 8) aF))) aF))) fO)) cK)))) cK)))
   (aS (bK (eL (a8 (hU B (a8 (qv 3) aF)) (a8 (hU B (a8 (ah9 B (a8 (ah6 B rfl (a8 (qv 6) aF)) aF)) aF)) aF))))))))))),ap9⟩)
theorem B6:FnScope ["found","due","k"] ["found","due"] (aT (aY 19)):=.au
theorem au5 (B:Bt mg) (F:FM K mg "_law_row_is" 19 f fd) (d__law_whole_number:Df P w K mg base 1 "_law_whole_number" ["found"] o4):Df P w K mg base 2 "_law_row_is" ["found","due"] lK:=
 Df.au F B6 (fun cdv A outer s H E hr=>by
  have nd:=B6.nd
  exact⟨(yD K),(aQ (cL (dY (hG (fA (eZ (rS B (qv 0)))) (iH (lE (dZ B (a8 (qv 0) aF)) (dZ B (a8 (qv 1) aF)))))) (aS (bK fO)) cK)
   (aQ (fP 2 nd (iZ rfl B.range (dZ B (a8 (qv 1) aF)))
    (aS (cL (dY (hG (fA (eZ (bS d__law_whole_number hr (a8 (bR (qv 0) (qv 2)) aF)))) (iH (lE (bR (qv 0) (qv 2)) (bR (qv 1) (qv 2)))))) (aS (bK fO)) cK)))
   (aS (bK fO)))),ah0 (o7 K).tt⟩)
theorem au6:FnScope ["web","numbers"] ["web","numbers"] (aT (aY 8)):=.au
theorem au7 (B:Bt mg) (F:FM K mg "is_set" 8 f fd) (d_rises:Df P w K mg base 1 "rises" ["things"] sE) (d_is_hearth:Df P w K mg base 2 "is_hearth" ["web","number"] nY):Df P w K mg base 3 "is_set" ["web","numbers"] nZ:=
 Df.au F au6 (fun cdv A outer s H E hr=>by
  exact⟨(xY),(aS (bK (rO (bS d_rises hr (a8 (qv 1) aF)) (nS (ad0 B rfl (a8 (ae0 (N:=["number","web"]) (fr:=[none,some 0]) (iY (qv 1)) (fun _ _ _ _=>(bS d_is_hearth hr (a8 (qv 1) (a8 (qv 0) aF))))) aF)))))),ag2⟩)
theorem B7:FnScope ["found","due","k"] ["found","due"] (aT (aY 20)):=.au
theorem au8 (B:Bt mg) (F:FM K mg "_law_web_is" 20 f fd) (d__law_row_is:Df P w K mg base 2 "_law_row_is" ["found","due"] lK):Df P w K mg base 3 "_law_web_is" ["found","due"] jZ:=
 Df.au F B7 (fun cdv A outer s H E hr=>by
  have nd:=B7.nd
  exact⟨(zR K),(aQ (cL (dY (hG (fA (eZ (rS B (qv 0)))) (hG (lE (dZ B (a8 (qv 0) aF)) aG) (iH (fA (eZ (bS d__law_row_is hr (a8 (bR (qv 0) aG) (a8 (bR (qv 1) aG) aF))))))))) (aS (bK fO)) cK)
   (aQ (cL (dY (hG (fA (eZ (rS B (bR (qv 0) aG)))) (iH (lE (dZ B (a8 (bR (qv 0) aG) aF)) (dZ B (a8 (bR (qv 1) aG) aF)))))) (aS (bK fO)) cK)
   (aQ (fP 2 nd (iZ rfl B.range (dZ B (a8 (bR (qv 1) aG) aF)))
    (aS (cL (fA (eZ (bS d__law_row_is hr (a8 (bR (bR (qv 0) aG) (qv 2)) (a8 (bR (bR (qv 1) aG) (qv 2)) aF))))) (aS (bK fO)) cK)))
   (aS (bK fO))))),aq0 (o7 K).tt⟩)
theorem au9:FnScope ["web","hearths"] ["web","hearths"] (aT (aY 9)):=.au
theorem av0 (B:Bt mg) (F:FM K mg "made_set" 9 f fd) (d_is_set:Df P w K mg base 3 "is_set" ["web","numbers"] nZ) (x_BadSet:Xc K mg base "BadSet"):dO P w K mg base 4 "made_set" ["web","hearths"] oD:=
 dO.au F au9 yY an3 (fun cdv A outer s H E Ep hr hX=>by
  exact (aQ (cL (fA (eZ (bS d_is_set hr (a8 (qv 0) (a8 (qv 1) aF))))) (aS (am1 hX x_BadSet (a8 ab5 aF))) cK)
   (aS (bK (hU B (a8 (qv 1) aF))))))
theorem B8:FnScope ["web","some","places","place","hearth","around","wants","links"] ["web","some"] (aT (aY 10)):=.au
theorem av1 (B:Bt mg) (F:FM K mg "rest_web" 10 f fd) (d_near_lists:Df P w K mg base 1 "near_lists" ["web"] sF) (d_made_set:dO P w K mg base 4 "made_set" ["web","hearths"] oD) (d_count_outside:Df P w K mg base 2 "count_outside" ["hearths","inside"] oN):dO P w K mg base 5 "rest_web" ["web","some"] iL:=
 dO.au F B8 A1 ar4 (fun cdv A outer s H E Ep hr hX=>by
  have nd:=B8.nd
  have hu:=pR hr
  exact (aQ (gD (i:=2) nd ac3)
   (aQ (rZ 3 4 (hp:=hX.own) nd (al0 rfl B.enum (al9 hX d_made_set hr (a8 (qv 0) (a8 (qv 1) aF))))
    (aS (ac5 hu (i:=2) (qv 4) (qv 3))))
   (aQ (cA (i:=5) nd (bS d_near_lists hr (a8 (qv 0) aF)))
   (aQ (aq8 (i:=6) nd (N:=["hearth","places","web","around"]) (fr:=[none,some 2,some 0,some 5]) 2 (fun _ _ _ _=>(rQ B rfl (a8 aG (a8 (rJ (bR (bR (qv 2) aG) (qv 0)) (bS d_count_outside hr (a8 (bR (qv 3) (qv 0)) (a8 (qv 1) aF)))) aF)))))
   (aQ (al2 (i:=7) nd (N:=["one","other","places"]) (fr:=[none,none,some 2]) (iY (bR (qv 0) aG)) (fun _ _ _ _=>(dY (jT (rN hu (qv 0) (qv 2)) (jS (rN hu (qv 1) (qv 2)))))) (fun _ _ _ _=>(eL (a8 (xC hu (qv 2) (qv 0)) (a8 (xC hu (qv 2) (qv 1)) aF)))))
   (aS (bK (eL (a8 (hU B (a8 (qv 6) aF)) (a8 (hU B (a8 (qv 7) aF)) aF)))))))))))
theorem B9:FnScope ["web","some","caught","e"] ["web","some"] (aT (aY 22)):=.au
theorem av2 (B:Bt mg) (F:FM K mg "_law_refused" 22 f fd) (d_rest_web:dO P w K mg base 5 "rest_web" ["web","some"] iL) (cat_HearthError:sV K mg "HearthError") (is_BadSet:sX K mg "BadSet"):Df P w K mg base 6 "_law_refused" ["web","some"] j9:=
 Df.au F B9 (fun cdv A outer s H E hr=>by
  have nd:=B9.nd
  exact⟨(A5),(aQ (cA (i:=2) nd ab4)
   (aQ (am4 3 cat_HearthError nd (am2 d_rest_web hr (fun _=>(a8 (qv 0) (a8 (qv 1) aF)))) (fun _=>(aS (cA (i:=2) nd (qv 3)))))
   (aS (bK (am9 B is_BadSet (qv 2)))))),ar7⟩)
theorem C0:FnScope ["script","head","many","web","cell","some","rest","hearth","handed","spot"] ["script"] (aT (aY 23)):=.au
theorem av3 (B:Bt mg) (F:dH K "law" "law" (aY 23) f fd) (d__law_cell_at:Df P w K mg base 1 "_law_cell_at" ["script","k"] gG) (d__law_web:Df P w K mg base 2 "_law_web" ["flow","many","way"] oJ) (d__law_refused:Df P w K mg base 6 "_law_refused" ["web","some"] j9) (d__law_web_is:Df P w K mg base 3 "_law_web_is" ["found","due"] jZ) (d_rest_web:dO P w K mg base 5 "rest_web" ["web","some"] iL) (d__law_rest:Df P w K mg base 1 "_law_rest" ["web","some"] oO):bZ P w K mg base cP 7 f fd ["script"] (lB K tF):=
 aj2 F C0 (fun xs Q h=>by unfold tF at h; repeat (first | (obtain ⟨rfl,_⟩:=h; rfl) | (obtain ⟨_,h⟩:=h))) (fun cdv A outer s H E hr=>by
  have nd:=C0.nd
  have hu3:=as5 hr
  exact⟨(A9),(aQ (cA (i:=1) nd (bS d__law_cell_at hr (a8 (qv 0) (a8 aG aF))))
   (aQ (cA (i:=2) nd (bP (qv 1) aG))
   (aQ (cL (jR (bP (cZ (qv 1) aG) aG) aG) (aS (cA (i:=2) nd (bP (cZ (qv 1) aG) aG))) cK)
   (aQ (cA (i:=3) nd (bS d__law_web hr (a8 (rX (qv 0) (rW aG) rV) (a8 (qv 2) (a8 (cZ (qv 1) aG) aF)))))
   (aQ (cA (i:=4) nd (bP (bS d__law_cell_at hr (a8 (qv 0) (a8 aG aF))) (ab6 aG aG)))
   (aQ (gD (i:=5) nd (eM aF))
   (aQ (cA (i:=6) nd (qv 4))
   (aQ (fP 7 nd (iZ rfl B.range (qv 2))
    (aQ (cL (rM (bP (qv 6) aG) aG) (aS (iI 5 (qv 7))) cK)
    (aS (cA (i:=6) nd (cZ (qv 6) aG)))))
   (aQ (cA (i:=8) nd (ac9 B (a8 (qv 5) aF)))
   (aQ (cL (dY (hG (fA (eZ (bS d__law_web_is hr (a8 (sS d_rest_web hr (a8 (qv 3) (a8 (qv 8) aF))) (a8 (bS d__law_rest hr (a8 (qv 3) (a8 (qv 5) aF))) aF))))) (iH (ad9 hu3 (qv 8) (qv 5))))) (aS (bK fO)) cK)
   (aQ (cL (dY (hG (fA (eZ (bS d__law_web_is hr (a8 (sS d_rest_web hr (a8 (qv 3) (a8 (ap1 B (qv 2)) aF))) (a8 (qv 3) aF))))) (iH (fA (eZ (bS d__law_web_is hr (a8 (sS d_rest_web hr (a8 (qv 3) (a8 (eL aF) aF))) (a8 (eL (a8 (eL aF) (a8 (eL aF) aF))) aF)))))))) (aS (bK fO)) cK)
   (aQ (cA (i:=9) nd (bP (cZ (qv 4) aG) (gZ (dZ B (a8 (qv 5) aF)) aG)))
   (aQ (cL (dY (hG (fA (eZ (bS d__law_refused hr (a8 (qv 3) (a8 (oA (qv 5) (eM (a8 (qv 2) aF))) aF))))) (iH (fA (eZ (bS d__law_refused hr (a8 (qv 3) (a8 (oA (oA (rX (qv 5) rV (rW (qv 9))) (eM (a8 (ad2 aG) aF))) (rX (qv 5) (rW (qv 9)) rV)) aF)))))))) (aS (bK fO)) cK)
   (aS (bK (ac0 (ab9 (dZ B (a8 (qv 5) aF)) aG) (nS (bS d__law_refused hr (a8 (qv 3) (a8 (oA (qv 5) (eM (a8 (bR (qv 5) (bP (cZ (qv 4) aG) (dZ B (a8 (qv 5) aF)))) aF))) aF)))))))))))))))))))),as4⟩)
end
set_option autoImplicit true in
theorem av4 {l:OpenLaw}{w:World}{K:Frag}{h:Heap}{mg:Str->Option Value} (X:K.In h) (G:h.Ns mainGlobals mg) (hfa:mg "law" = some (.ref fa))
  (h0:FK K "rises" 4 f0 d0)
  (h1:FK K "hearths_in" 5 f1 d1)
  (h2:FK K "near_lists" 6 f2 d2)
  (h3:FK K "count_inside" 11 f3 d3)
  (h4:FK K "_law_cell_at" 14 f4 d4)
  (h5:FK K "_law_web_of_digits" 15 f5 d5)
  (h6:FK K "_law_dense" 16 f6 d6)
  (h7:FK K "_law_whole_number" 18 f7 d7)
  (h8:FK K "_law_rest" 21 f8 d8)
  (h9:FK K "is_hearth" 7 f9 d9)
  (h10:FK K "count_outside" 12 f10 d10)
  (h11:FK K "_law_web" 17 f11 d11)
  (h12:FK K "_law_row_is" 19 f12 d12)
  (h13:FK K "is_set" 8 f13 d13)
  (h14:FK K "_law_web_is" 20 f14 d14)
  (h15:FK K "made_set" 9 f15 d15)
  (h16:FK K "rest_web" 10 f16 d16)
  (h17:FK K "_law_refused" 22 f17 d17)
  (a18:nsIn K mainGlobals "law" = some (some (.ref f18))) (l18:K.lookup f18=some ⟨oc18,od18,.func (fnOf "law" "law" (gO (aY 23)) (dA (aY 23)) (aT (aY 23)) .none kV18 dc18 pm18 an18 cd18 ct18),sl18⟩) (c18:codeIn K cd18 "law" = true) (k18:keepIn K (.ref f18)=true)
  (z_len:nsIn K mainGlobals "len" = some none)
  (z_range:nsIn K mainGlobals "range" = some none)
  (z_tuple:nsIn K mainGlobals "tuple" = some none)
  (z_list:nsIn K mainGlobals "list" = some none)
  (z_sorted:nsIn K mainGlobals "sorted" = some none)
  (z_all:nsIn K mainGlobals "all" = some none)
  (z_any:nsIn K mainGlobals "any" = some none)
  (z_zip:nsIn K mainGlobals "zip" = some none)
  (z_min:nsIn K mainGlobals "min" = some none)
  (z_max:nsIn K mainGlobals "max" = some none)
  (z_sum:nsIn K mainGlobals "sum" = some none)
  (z_isinstance:nsIn K mainGlobals "isinstance" = some none)
  (z_int:nsIn K mainGlobals "int" = some none)
  (z_bool:nsIn K mainGlobals "bool" = some none)
  (z_enumerate:nsIn K mainGlobals "enumerate" = some none)
  {C_HearthError C_BadSet:Addr}
  (aX_HE:nsIn K mainGlobals "HearthError" = some (some (.ref C_HearthError)))
  (aX_BS:nsIn K mainGlobals "BadSet" = some (some (.ref C_BadSet)))
  (zX_BW:nsIn K mainGlobals "BadWeb" = some none)
  (zX_BO:nsIn K mainGlobals "BadOrder" = some none)
  (zX_BP:nsIn K mainGlobals "BadPrices" = some none)
  (zX_BB:nsIn K mainGlobals "BadBoard" = some none)
  (zX_BD:nsIn K mainGlobals "BadDeed" = some none)
  (zX_NW:nsIn K mainGlobals "NotWood" = some none)
  (zX_NP:nsIn K mainGlobals "NoPaper" = some none)
  (zX_NS:nsIn K mainGlobals "NoSuch" = some none)
  (zX_TM:nsIn K mainGlobals "TooMany" = some none)
  (zX_NT:nsIn K mainGlobals "NoText" = some none)
  (zX_OR:nsIn K mainGlobals "OddRound" = some none)
  (y_fg:specialIn K (.builtin "object.__class__") "__get__" = some (some (.builtin "getset_descriptor.__get__")))
  (y_ft:takesIn K (.builtin "object.__class__")=some true)
  (z_VE:nsIn K mainGlobals "ValueError" = some none)
  (y1_HE:isClsIn K C_HearthError=true)
  (y2_HE:typeIn K (.ref C_HearthError)=some (.type "type"))
  (y3_HE:findIn K (.ref C_HearthError) "__getattribute__" = some (some (.builtin "BaseException.__getattribute__")))
  (y4_HE:findIn K (.ref C_HearthError) "__getattr__" = some none)
  (y5_HE:findIn K (.ref C_HearthError) "__class__" = some (some (.builtin "object.__class__")))
  (y6_HE:mroIn K C_HearthError (.type "object")=some true)
  (y7_HE:mroIn K C_HearthError (.type "BaseException")=some true)
  (y1_BS:isClsIn K C_BadSet=true)
  (y2_BS:typeIn K (.ref C_BadSet)=some (.type "type"))
  (y3_BS:findIn K (.ref C_BadSet) "__getattribute__" = some (some (.builtin "BaseException.__getattribute__")))
  (y4_BS:findIn K (.ref C_BadSet) "__getattr__" = some none)
  (y5_BS:findIn K (.ref C_BadSet) "__class__" = some (some (.builtin "object.__class__")))
  (y6_BS:mroIn K C_BadSet (.type "object")=some true)
  (y7_BS:mroIn K C_BadSet (.type "BaseException")=some true)
  (sB_HE:subIn K (.ref C_HearthError) (.type "BaseException")=some true)
  (s_BS_HE:subIn K (.ref C_BadSet) (.ref C_HearthError)=some true)
  (sN_BS:subIn K (.type "NoneType") (.ref C_BadSet)=some false)
  (q_BS:excIn K C_BadSet [.type "ValueError",.type "Exception",.type "BaseException",.type "object"] "ValueError.__new__" = true)
  : ∃ fd:FuncData,(∀ (s:Shared) (v:Value),BindsTo s fd ⟨[v],[]⟩ [("script",v)])/\∀ base:Heap,K.In base->base.Ns mainGlobals mg->bZ l.prog w K mg base cP 7 fa fd ["script"] (o8 K):=by
 have e:=hfa.symm.trans (mg_of X G a18)
 cases e
 have F18:=R9 (st:=aY 23) l18 c18 k18
 have m18:=mg_of X G a18
 have B:Bt mg:=⟨mg_none_of X G z_len,mg_none_of X G z_range,mg_none_of X G z_tuple,mg_none_of X G z_list,mg_none_of X G z_sorted,mg_none_of X G z_all,mg_none_of X G z_any,mg_none_of X G z_zip,mg_none_of X G z_min,mg_none_of X G z_max,mg_none_of X G z_sum,mg_none_of X G z_isinstance,mg_none_of X G z_int,mg_none_of X G z_bool,mg_none_of X G z_enumerate⟩
 refine⟨fnOf "law" "law" (gO (aY 23)) (dA (aY 23)) (aT (aY 23)) .none kV18 dc18 pm18 an18 cd18 ct18,fun s v=>.of_eq rfl,fun base KB _=>?_⟩
 have XK_HearthError:lO K C_HearthError:=⟨y1_HE,y2_HE,y3_HE,y4_HE,y5_HE,y_fg,y_ft,y6_HE,y7_HE⟩
 have XK_BadSet:lO K C_BadSet:=⟨y1_BS,y2_BS,y3_BS,y4_BS,y5_BS,y_fg,y_ft,y6_BS,y7_BS⟩
 have cat_HearthError:sV K mg "HearthError":=⟨C_HearthError,mg_of X G aX_HE,⟨y1_HE,y2_HE,sB_HE⟩,fun n C h2 h1=>by
  obtain ⟨hm,hb⟩:=yW h2
  simp only [oC,aw7,ax1,az3] at hm
  rcases hm with rfl | rfl | rfl | rfl | rfl | rfl | rfl | rfl | rfl | rfl | rfl | rfl
  ·rw [zX_BW] at h1; cases h1
  ·rw [aX_BS] at h1; cases h1; exact s_BS_HE
  ·rw [zX_BO] at h1; cases h1
  ·rw [zX_BP] at h1; cases h1
  ·rw [zX_BB] at h1; cases h1
  ·rw [zX_BD] at h1; cases h1
  ·rw [zX_NW] at h1; cases h1
  ·rw [zX_NP] at h1; cases h1
  ·rw [zX_NS] at h1; cases h1
  ·rw [zX_TM] at h1; cases h1
  ·rw [zX_NT] at h1; cases h1
  ·rw [zX_OR] at h1; cases h1⟩
 have is_BadSet:sX K mg "BadSet":=⟨C_BadSet,mg_of X G aX_BS,fun z=>(by cases z),(fun n C b h1 h2=>by
  obtain ⟨hm,hb⟩:=yW h2
  simp only [oC,aw7,ax1,az3] at hm
  rcases hm with rfl | rfl | rfl | rfl | rfl | rfl | rfl | rfl | rfl | rfl | rfl | rfl
  ·rw [zX_BW] at h1; cases h1
  ·rw [aX_BS] at h1; cases h1; rw [hb,show (("BadSet" : Str) == "BadSet" || ("BadSet" : Str) == "HearthError" || ("BadSet" : Str) == "ValueError")=true by decide]; exact⟨XK_BadSet.exc,an1⟩
  ·rw [zX_BO] at h1; cases h1
  ·rw [zX_BP] at h1; cases h1
  ·rw [zX_BB] at h1; cases h1
  ·rw [zX_BD] at h1; cases h1
  ·rw [zX_NW] at h1; cases h1
  ·rw [zX_NP] at h1; cases h1
  ·rw [zX_NS] at h1; cases h1
  ·rw [zX_TM] at h1; cases h1
  ·rw [zX_NT] at h1; cases h1
  ·rw [zX_OR] at h1; cases h1),an2 XK_BadSet sN_BS⟩
 have x_BadSet:Xc K mg base "BadSet":=⟨C_BadSet,_,_,_,_,an0 KB (mg_of X G aX_BS) q_BS,PySem.F.excBase_ValueError,aX_BS⟩
 have D0:=ai0 (as6 (P:=l.prog) (w:=w) (base:=base) B h0.F) (h0.F.binds (ps:=["things"]) fun _ _ _ _ _ _ us hl=>by obtain ⟨_,rfl⟩:=lP hl; rfl) h0.F.kp (mg_of X G h0.a)
 have D1:=as9 (P:=l.prog) (w:=w) (base:=base) B (h1.M X G)
 have D2:=ai2 (as7 (P:=l.prog) (w:=w) (mg:=mg) (base:=base) h2.F) (h2.F.binds (ps:=["web"]) fun _ _ _ _ _ _ us hl=>by obtain ⟨_,rfl⟩:=lP hl; rfl) h2.F.kp (mg_of X G h2.a)
 have D3:=at2 (P:=l.prog) (w:=w) (base:=base) B (h3.M X G)
 have D4:=at4 (P:=l.prog) (w:=w) (base:=base) B (h4.M X G)
 have D5:=at5 (P:=l.prog) (w:=w) (base:=base) B (h5.M X G)
 have D6:=at6 (P:=l.prog) (w:=w) (base:=base) B (h6.M X G)
 have D7:=at8 (P:=l.prog) (w:=w) (base:=base) B (h7.M X G)
 have D8:=at9 (P:=l.prog) (w:=w) (base:=base) B (h8.M X G)
 have D9:=au1 (P:=l.prog) (w:=w) (base:=base) B (h9.M X G) D1
 have D10:=au3 (P:=l.prog) (w:=w) (base:=base) B (h10.M X G) D3
 have D11:=au4 (P:=l.prog) (w:=w) (base:=base) B (h11.M X G) D6 D5 D4
 have D12:=au5 (P:=l.prog) (w:=w) (base:=base) B (h12.M X G) D7
 have D13:=au7 (P:=l.prog) (w:=w) (base:=base) B (h13.M X G) D0 D9
 have D14:=au8 (P:=l.prog) (w:=w) (base:=base) B (h14.M X G) D12
 have D15:=av0 (P:=l.prog) (w:=w) (base:=base) B (h15.M X G) D13 x_BadSet
 have D16:=av1 (P:=l.prog) (w:=w) (base:=base) B (h16.M X G) D2 D15 D10
 have D17:=av2 (P:=l.prog) (w:=w) (base:=base) B (h17.M X G) D16 cat_HearthError is_BadSet
 exact aj3 (av3 B F18 D4 D11 D17 D14 D16 D8)
theorem av5 {l:OpenLaw}{q:Program}{loose:List Str}{XP:(Str->Option Value)->Heap->Prop}{YP:World->Heap->Prop}{d:DefRec}{K:Params->Frag} (hn:l.most=some 63) (hdf:d.params.defaults = [])
  (hY:∀ (w:World) (h:Heap),YP w h->(K w.params).In h)
  (F:∀ (w:World) (mg:Str->Option Value) (fa:Addr) (h:Heap),(K w.params).In h->h.Ns mainGlobals mg->mg d.name=some (.ref fa)->
   ∃ fd:FuncData,(∀ (s:Shared) (u:Value),BindsTo s fd ⟨[u],[]⟩ [("script",u)])/\∀ base:Heap,(K w.params).In base->base.Ns mainGlobals mg->bZ l.prog w (K w.params) mg base cP 7 fa fd ["script"] (o8 (K w.params))) :
  WalkO q loose XP YP l.row.toRowW d [] (fun f vs=>PySem.call f vs):=
 L2.R7 (n:=63) (k:=7) (x:="script") (CX:=fun _=>cP) (sp:=fun w=>o8 (K w.params)) hn (by decide) hdf ⟨rfl,by decide,by decide⟩ hY F (fun _ _ a ns hl hO hS=>⟨a,ns,rfl,aj4 hO hS,hl,fun _=>rfl⟩) fun _ _ _ _ _ z=>z
end K_k05
open PySem PySem.W PyProof.Rows
set_option maxRecDepth 100000 in
set_option maxHeartbeats 0 in
theorem PySem.Challenge.cw_kindleweb_k05_rest_webs_holds : PySem.Challenge.rw_kindleweb_k05_rest_webs.Holds := by
 w_on; o_law; k_head; (case hw => w_witness2)
 k_fill
 refine K_k05.av5 (l := PySem.Challenge.rw_kindleweb_k05_rest_webs) rfl rfl (fun w h Y => PySem.W.kIn_of Y) ?F
 case F =>
  intro w mg fa h KX G hmg
  refine' K_k05.av4 KX G hmg ?h0 ?h1 ?h2 ?h3 ?h4 ?h5 ?h6 ?h7 ?h8 ?h9 ?h10 ?h11 ?h12 ?h13 ?h14 ?h15 ?h16 ?h17 ?a18 ?l18 ?c18 ?k18 ?z_len ?z_range ?z_tuple ?z_list ?z_sorted ?z_all ?z_any ?z_zip ?z_min ?z_max ?z_sum ?z_isinstance ?z_int ?z_bool ?z_enumerate ?aX_HE ?aX_BS ?zX_BW ?zX_BO ?zX_BP ?zX_BB ?zX_BD ?zX_NW ?zX_NP ?zX_NS ?zX_TM ?zX_NT ?zX_OR ?y_fg ?y_ft ?z_VE ?y1_HE ?y2_HE ?y3_HE ?y4_HE ?y5_HE ?y6_HE ?y7_HE ?y1_BS ?y2_BS ?y3_BS ?y4_BS ?y5_BS ?y6_BS ?y7_BS ?sB_HE ?s_BS_HE ?sN_BS ?q_BS
  (case h0 | h1 | h2 | h3 | h4 | h5 | h6 | h7 | h8 | h9 | h10 | h11 | h12 | h13 | h14 | h15 | h16 | h17 => exact ⟨by k_is, ⟨⟨_, _, _, _, _, _, _, _, _, rfl, by k_is, by k_is⟩, by k_is⟩⟩)
  (case a18|l18|c18|k18|z_len|z_range|z_tuple|z_list|z_sorted|z_all|z_any|z_zip|z_min|z_max|z_sum|z_isinstance|z_int|z_bool|z_enumerate|aX_HE|aX_BS|zX_BW|zX_BO|zX_BP|zX_BB|zX_BD|zX_NW|zX_NP|zX_NS|zX_TM|zX_NT|zX_OR|y_fg|y_ft|z_VE|y1_HE|y2_HE|y3_HE|y4_HE|y5_HE|y6_HE|y7_HE|y1_BS|y2_BS|y3_BS|y4_BS|y5_BS|y6_BS|y7_BS|sB_HE|s_BS_HE|sN_BS => k_is)
  (case q_BS => k_exc)


