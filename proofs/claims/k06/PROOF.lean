import PyProof.Rows.All
import Wide.All
import OpenK.AllK
import Wide.FinOn
import Lean
import PyProof.EqAt
import PyProof.EqKinds
import PyProof.TupleCall
import PyProof.NeKinds
import PyProof.Draws
import PyProof.ZipIter
import PyProof.DictUpdate
import PyProof.AutoSeq1
import PyProof.ListRange
import PyProof.ListMulRoad
import PyProof.FactsAll.tuple_2
import PyProof.Rows.SortShell
import PyProof.EnumFor
import PyProof.EnumMake
import PyProof.EnumStmt
import PyProof.Rows.SortWalk
import KE.KDictList
import PyProof.SumAny
import PyProof.ConsumeWalk
import PyProof.WalksMore
import PyProof.Rows.TupAssign
import PyProof.ExcArgsOwn
import PySem.Challenge.RW_kindleweb_k06_webs_written
set_option Elab.async false
set_option linter.all false
set_option maxRecDepth 100000
set_option maxHeartbeats 4000000
section
open PySem PySem.Spec PyProof.Rows
def ac9:=@wpAny_bind
def ad0:=@Heap.get?_push_of_some
def ad1:=@List.length_map
def ad2:=@List.mem_cons_self
def ad3:=@wpAny_pure
def ad4:=@Nat.lt_of_lt_of_le
def ad5:=@List.mem_cons_of_mem
def ad6:=@Nat.le_refl
def ad7:=@decide_eq_false
def ad8:=@Heap.lt_size
def ad9:=@List.getElem?_map
def ae0:=@List.mem_cons
def ae1:=@Heap.get?_push_size
def ae3:=@List.size_toArray
def ae4:=@List.mem_singleton
def ae5:=@Bool.false_eq_true
def ae6:=@Option.some.inj
def ae7:=@List.getElem?_eq_some_iff
def ae8:=@List.getElem?_eq_getElem
def ae9:=@Bool.false_ne_true
def af0:=@decide_eq_true
def af1:=@List.mem_append_right
def af3:=@List.getElem?_set_ne
def af4:=@List.length_append
def af5:=@List.not_mem_nil
def af6:=@PySem.mem_of_lookup
def af7:=@Nat.ne_of_lt
def ag0:=@List.lookup_cons
def ag1:=@Nat.le_trans
def ag2:=@List.mem_of_getElem?
def ag3:=@Nat.lt_irrefl
def ag4:=@List.mem_append
def ag5:=@List.map_append
def ag6:=@List.length_cons
def ag8:=@List.mem_map
def ag9:=@PySem.W.kia_one
def ah0:=@List.map_cons
def ah2:=@wpAny_newObj_type
def ah3:=@decide_eq_true_eq
def ah4:=@wpAny_callSpecial?_slot
def ah6:=@if_false
def ah7:=@Nat.zero_le
def ah8:=@List.getD_eq_getElem?_getD
def ah9:=@Int.emod_lt_of_pos
def ai1:=@List.getElem?_set_self
def ai3:=@wpAny_field
def ai6:=@wpAny_call_entry
def ai7:=@wpAny_mono
def ai8:=@Array.length_toList
def ai9:=@List.length_set
def aj0:=@Int.emod_nonneg
def aj1:=@PyProof.Rows.slot_tuple_getitem
def aj2:=@Bool.and_eq_true
def aj4:=@wpAny_truthy_bool
def aj5:=@Bool.eq_false_iff
def aj6:=@List.getElem?_cons_succ
def aj7:=@List.take_add_one
def aj8:=@Nat.ne_of_gt
def aj9:=@PyProof.Rows.callWith_type1
def ak0:=@Array.getD_eq_getD_getElem?
def ak1:=@List.take_of_length_le
def ak2:=@List.length_drop
def ak3:=@List.all_eq_true
def ak4:=@List.take_length
def ak5:=@wpAny_seqItems
def ak6:=@wpAny_setField_rec
def ak7:=@or_false
def ak8:=@Bool.eq_iff_iff
def al0:=@Nat.le_of_lt
def al3:=@Heap.size_push
end
namespace L2
open PySem PySem.Spec PyProof.Rows
abbrev aG:=Sum Int Str
def hZ:aG->Value->Bool
 | .inl k,v=>Value.isInt k v
 | .inr x,v=>Value.isStrOf x v
def vV (w:World):aG->Int
 | .inl k=>hashInt k
 | .inr x=>hashStr w x
theorem eN:∀ {k:aG}{v:Value},hZ k v=true->(∃ i t,k=Sum.inl i/\v=Value.int i t) ∨ (∃ x t,k=Sum.inr x/\v=Value.str x t)
 | .inl i,v,h=>by
  obtain ⟨t,e⟩:=Value.isInt_shape (k:=i) (v:=v) h
  exact .inl ⟨i,t,rfl,e⟩
 | .inr x,v,h=>by
  obtain ⟨t,e⟩:=Value.isStrOf_shape (x:=x) (v:=v) h
  exact .inr ⟨x,t,rfl,e⟩
theorem vW (i:Int) (t:Tok):hZ (.inl i) (.int i t)=true:=by simp [hZ,Value.isInt]
theorem vX (x:Str) (t:Tok):hZ (.inr x) (.str x t)=true:=by simp [hZ,Value.isStrOf]
theorem vY (a b:Int):decide ((Sum.inl a:aG)=Sum.inl b)=(a == b):=by
 by_cases e:a=b
 ·subst e; simp
 ·have h : ¬ (Sum.inl a:aG)=Sum.inl b:=fun q=>e (Sum.inl.inj q)
  rw [ad7 h]
  exact (beq_eq_false_iff_ne.mpr e).symm
theorem vZ (a b:Str):decide ((Sum.inr a:aG)=Sum.inr b)=decide (a=b):=by
 by_cases e:a=b
 ·subst e; simp
 ·have h : ¬ (Sum.inr a:aG)=Sum.inr b:=fun q=>e (Sum.inr.inj q)
  rw [ad7 h,ad7 e]
theorem w4 (a:Int) (b:Str):decide ((Sum.inl a:aG)=Sum.inr b)=false:=ad7 (fun q=>nomatch q)
theorem w5 (a:Str) (b:Int):decide ((Sum.inr a:aG)=Sum.inl b)=false:=ad7 (fun q=>nomatch q)
def cG (prog:Program) (w:World):PySem.KeyKind prog w aG where
 is:=hZ
 hash:=vV w
 inj:=fun v a b ha hb=>by
  rcases eN ha with ⟨i,t,rfl,rfl⟩ | ⟨x,t,rfl,rfl⟩
  ·rcases eN hb with ⟨j,u,rfl,e⟩ | ⟨y,u,rfl,e⟩
   ·injection e with e1 _; rw [e1]
   ·exact nomatch e
  ·rcases eN hb with ⟨j,u,rfl,e⟩ | ⟨y,u,rfl,e⟩
   ·exact nomatch e
   ·injection e with e1 _; rw [e1]
 byValue:=fun k v h=>by
  rcases eN h with ⟨i,t,rfl,rfl⟩ | ⟨x,t,rfl,rfl⟩ <;> rfl
 pyHash:=fun hv h=>by
  rcases eN hv with ⟨i,t,rfl,rfl⟩ | ⟨x,t,rfl,rfl⟩
  ·exact wpAny_pyHash_int h
  ·exact wpAny_pyHash_str h
 eqBool:=fun hu hv h=>by
  rcases eN hu with ⟨i,t,rfl,rfl⟩ | ⟨x,t,rfl,rfl⟩
  ·rcases eN hv with ⟨j,u,rfl,rfl⟩ | ⟨y,u,rfl,rfl⟩
   ·rw [vY] at h; exact wpAny_eqBool_int h
   ·rw [w4] at h; exact SeqAt.EqAt.int_str i t y u _ _ _ _ h
  ·rcases eN hv with ⟨j,u,rfl,rfl⟩ | ⟨y,u,rfl,rfl⟩
   ·rw [w5] at h; exact SeqAt.EqAt.str_int x t j u _ _ _ _ h
   ·rw [vZ] at h; exact wpAny_eqBool_str h
 «strs»:=fun k x t v h=>by
  rcases eN h with ⟨i,u,rfl,e⟩ | ⟨y,u,rfl,e⟩
  ·exact nomatch e
  ·injection e with e1 _
   subst e1
   cases v <;> rfl
theorem w6 (prog:Program) (w:World) (i:Int) (t:Tok):(cG prog w).is (.inl i) (.int i t)=true:=vW i t
theorem w9 (prog:Program) (w:World) (x:Str) (t:Tok):(cG prog w).is (.inr x) (.str x t)=true:=vX x t
inductive V where
 | non | bl (b:Bool) | int (i:Int) | str (x:Str) | byt (b:Array UInt8) | flt (b:UInt64) | ref (a:Addr) | ty (n:String)
 deriving DecidableEq
def aP:V->Value->Prop
 | .non,u=>u=Value.none
 | .bl b,u=>u=Value.bool b
 | .int i,u=>∃ t,u=Value.int i t
 | .str x,u=>∃ t,u=Value.str x t
 | .byt b,u=>∃ t,u=Value.bytes b t
 | .flt b,u=>∃ t,u=Value.float b t
 | .ref a,u=>u=Value.ref a
 | .ty n,u=>u=Value.type n
abbrev aH:List V->List Value->Prop:=Paired aP
theorem aH.length {xs:List V}{us:List Value} (r:aH xs us):xs.length=us.length:=Paired.length r
theorem aH.get:∀ {xs:List V}{us:List Value}{i:Nat}{x:V},aH xs us->xs[i]? = some x->∃ u,us[i]? = some u/\aP x u
 | _,_,_,_,.nil,e=>by simp at e
 | _,_,0,_,.cons r _,e=>by simp at e; subst e; exact⟨_,rfl,r⟩
 | _,_,i+1,x,.cons _ t,e=>by
  obtain ⟨u,h1,h2⟩:=aH.get (i:=i) (x:=x) t (by simpa using e)
  exact⟨u,by simpa using h1,h2⟩
theorem aH.append:∀ {xs ys:List V}{us ws:List Value},aH xs us->aH ys ws->aH (xs ++ ys) (us ++ ws)
 | _,_,_,_,.nil,s=>s
 | _,_,_,_,.cons r t,s=>.cons r (aH.append t s)
theorem aH.take:∀ {xs:List V}{us:List Value} (n:Nat),aH xs us->aH (xs.take n) (us.take n)
 | _,_,0,_=>.nil
 | _,_,_+1,.nil=>.nil
 | _,_,n+1,.cons r t=>.cons r (aH.take n t)
theorem aH.drop:∀ {xs:List V}{us:List Value} (n:Nat),aH xs us->aH (xs.drop n) (us.drop n)
 | _,_,0,r=>r
 | _,_,_+1,.nil=>.nil
 | _,_,n+1,.cons _ t=>aH.drop n t
def i3:Option V->Option Value->Prop
 | some v,some u=>aP v u
 | none,none=>True
 | _,_=>False
def KV {κ:Type}:List (κ × V)->List (κ × Value)->Prop:=Paired fun (p:κ × V) (q:κ × Value)=>p.1=q.1/\aP p.2 q.2
def kV:aG->V
 | .inl i=>.int i
 | .inr x=>.str x
inductive HO where
 | lst (xs:List V)
 | tup (xs:List V)
 | dK (kvs:List (aG × V)) | dT (kvs:List (List aG × V))
 | set (S:Int->Bool) (n:Nat)
 | ins (C dx:Addr) (fs:List (Str × V))
 | own (x:Addr)
 | xd (fs:List (Str × V))
 | met (f x:Addr)
 | rng (lo hi:Int)
 | frz (o:Obj) (u:HO)
 | tbl (ps:Array Value)
 | ext (φ:Heap->Prop)
abbrev Hp:=Addr->Option HO
def upd (H:Hp) (a:Addr) (o:HO):Hp:=fun b=>if b=a then some o else H b
theorem bL {H:Hp}{a:Addr}{o:HO}:upd H a o a=some o:=by unfold upd; rw [if_pos rfl]
theorem aR {H:Hp}{a b:Addr}{o:HO} (h:b ≠ a):upd H a o b=H b:=by unfold upd; rw [if_neg h]
theorem wA {H:Hp}{a b:Addr}{o u:HO} (h:H a=some o) (h':H b=some u) (d:o ≠ u):a ≠ b:=by
 intro e; subst e; rw [h] at h'; exact d (ae6 h')
theorem c9 {H:Hp}{a b:Addr}{o:HO} (h:H a=some o) (h':H b=none):a ≠ b:=by
 intro e; subst e; rw [h] at h'; cases h'
def eO (h:Heap) (a:Addr):Prop:=∀ o,h.get? a=some o->o.dict=none
theorem eO.new (h:Heap) (o:Obj) (d:o.dict=none) (s:o.isFreed=false:=by rfl):eO (h.push o) h.objs.size:=fun u e=>by
 rw [ae1 h (o:=o) s] at e
 cases e; exact d
theorem eO.stay {h h':Heap}{a:Addr}{o:Obj} (n:eO h a) (e:h.get? a=some o) (e':h'.get? a=some o):eO h' a:=fun u hu=>by
 rw [e'] at hu; cases hu; exact n _ e
section
variable (P : Program) (w : World)
def b5 (H:Hp) (h:Heap) (a:Addr):HO->Prop
 | .lst xs=>xs.length<=sizeLine/\∃ (its:List Value) (n:Nat),aH xs its/\h.get? a=some { cls:=.type "list",data:=.seq its.toArray n }
 | .tup xs=>xs.length<=sizeLine/\∃ its:List Value,aH xs its/\IsTup h a its.toArray/\eO h a
 | .dK kvs=>kvs.length<=sizeLine/\(a == sysModules)=false/\∃ vs,KV kvs vs/\h.DictOf (cG P w) a vs
 | .dT kvs=>kvs.length<=sizeLine/\(a == sysModules)=false/\∃ xs:List (List aG × Addr × Value),
   Paired (fun (p:List aG × V) (q:List aG × Addr × Value)=>p.1=q.1/\H q.2.1=some (.tup (p.1.map kV))/\aP p.2 q.2.2) kvs xs/\
   ∃ o es ep,h.get? a=some o/\o.ExactDict/\o.data = .dict es ep/\es.toList=xs.map (entryOfKey (tupleKind (cG P w)))/\(xs.map (·.1)).Nodup
 | .set S n=>h.SetOf (intKind P w) a S n
 | .ins C dx fs=>H dx=some (.own a)/\fs.length<=1000/\dx ≠ a/\h.get? a=some (PySem.W.instObj C dx)/\
   ∃ mA,h.Ns1 dx mA/\(∀ f,i3 (fs.lookup f) (mA f))/\PySem.Within mA (fs.map (·.1))
 | .own _=>∃ o,h.get? a=some o
 | .xd fs=>∃ mA,h.Ns1 a mA/\∀ f,i3 (fs.lookup f) (mA f)
 | .rng lo hi=>∃ t u v,h.get? a=some { cls:=.type "range",data:=.fields #[.int lo t,.int hi u,.int 1 v] }
 | .frz o u=>h.get? a=some o/\b5 H h a u
 | .tbl ps=>h.get? a=some { cls:=.none,data:=.fields ps }
 | .met f x=>h.get? a=some (PySem.W.methodObj (.ref f) (.ref x))
 | .ext φ=>φ h/\(∃ o,h.get? a=some o)/\∀ h1 h2:Heap,φ h1->(∀ o,h1.get? a=some o->h2.get? a=some o)->φ h2
def b7 (H:Hp) (h:Heap):Prop:=∀ a o,H a=some o->b5 P w H h a o
end
section
variable {P : Program} {w : World} {H H' : Hp} {h h' : Heap} {a : Addr} {o : HO}
theorem b5.lt (x:b5 P w H h a o):a < h.objs.size:=by
 cases o with
 | lst xs=>obtain ⟨_,_,_,_,e⟩:=x; exact ad8 e
 | tup xs=>obtain ⟨_,_,_,p,_⟩:=x; exact p.lt
 | dK kvs=>obtain ⟨_,_,_,_,o,_,_,e,_⟩:=x; exact ad8 e
 | dT kvs=>obtain ⟨_,_,_,_,o,_,_,e,_⟩:=x; exact ad8 e
 | set S n=>obtain ⟨o,_,_,_,e,_⟩:=x; exact ad8 e
 | ins C dx fs=>obtain ⟨_,_,_,e,_⟩:=x; exact ad8 e
 | own y=>obtain ⟨_,e⟩:=x; exact ad8 e
 | xd fs=>obtain ⟨_,⟨_,_,_,e,_⟩,_⟩:=x; exact ad8 e
 | rng lo hi=>obtain ⟨_,_,_,e⟩:=x; exact ad8 e
 | frz ob u=>obtain ⟨e,_⟩:=x; exact ad8 e
 | tbl ps=>exact ad8 (show h.get? a=some _ from x)
 | met f y=>exact ad8 (show h.get? a=some _ from x)
 | ext φ=>obtain ⟨_,⟨_,e⟩,_⟩:=x; exact ad8 e
theorem Paired.mapP {α β:Type}{F G:α->β->Prop}:∀ {l₁:List α}{l₂:List β},Paired F l₁ l₂->(∀ a b,F a b->G a b)->Paired G l₁ l₂
 | _,_,.nil,_=>.nil
 | _,_,.cons r t,f=>.cons (f _ _ r) (Paired.mapP t f)
theorem b5.stay (x:b5 P w H h a o) (k:∀ b u,(b=a ∨ H b=some (.own a))->h.get? b=some u->h'.get? b=some u)
  (ho:∀ b,H b=some (.own a)->H' b=some (.own a)) (ht:∀ b xs,H b=some (.tup xs)->H' b=some (.tup xs)):b5 P w H' h' a o:=by
 induction o with
 | lst xs=>obtain ⟨z,its,n,r,e⟩:=x; exact⟨z,its,n,r,k _ _ (.inl rfl) e⟩
 | tup xs=>obtain ⟨z,its,r,⟨ob,e,c⟩,nd⟩:=x; exact⟨z,its,r,⟨ob,k _ _ (.inl rfl) e,c⟩,nd.stay e (k _ _ (.inl rfl) e)⟩
 | dK kvs=>obtain ⟨z,y,vs,r,ob,es,ep,e,c⟩:=x; exact⟨z,y,vs,r,ob,es,ep,k _ _ (.inl rfl) e,c⟩
 | dT kvs=>
  obtain ⟨z,y,xs,r,ob,es,ep,e,c⟩:=x
  exact⟨z,y,xs,Paired.mapP r fun p q z=>⟨z.1,ht _ _ z.2.1,z.2.2⟩,ob,es,ep,k _ _ (.inl rfl) e,c⟩
 | set S n=>obtain ⟨ob,es,ep,t,e,c⟩:=x; exact⟨ob,es,ep,t,k _ _ (.inl rfl) e,c⟩
 | ins C dx fs=>
  obtain ⟨d,z,ne,e,mA,⟨od,es,ep,e2,c⟩,r⟩:=x
  exact⟨ho _ d,z,ne,k _ _ (.inl rfl) e,mA,⟨od,es,ep,k _ _ (.inr d) e2,c⟩,r⟩
 | own y=>obtain ⟨ob,e⟩:=x; exact⟨ob,k _ _ (.inl rfl) e⟩
 | xd fs=>obtain ⟨mA,⟨od,es,ep,e,c⟩,r⟩:=x; exact⟨mA,⟨od,es,ep,k _ _ (.inl rfl) e,c⟩,r⟩
 | rng lo hi=>obtain ⟨t,u,v,e⟩:=x; exact⟨t,u,v,k _ _ (.inl rfl) e⟩
 | frz ob u ih=>obtain ⟨e,q⟩:=x; exact⟨k _ _ (.inl rfl) e,ih q⟩
 | tbl ps=>
  have e:h.get? a=some { cls:=.none,data:=.fields ps }:=x
  show h'.get? a=some { cls:=.none,data:=.fields ps }
  exact k a _ (.inl rfl) e
 | met f y=>
  have e:h.get? a=some (PySem.W.methodObj (.ref f) (.ref y)):=x
  show h'.get? a=some (PySem.W.methodObj (.ref f) (.ref y))
  exact k a _ (.inl rfl) e
 | ext φ=>obtain ⟨p,⟨o,e⟩,st⟩:=x; exact⟨st _ _ p fun o q=>k _ _ (.inl rfl) q,⟨o,k _ _ (.inl rfl) e⟩,st⟩
theorem b7.lt (x:b7 P w H h) (e:H a=some o):a < h.objs.size:=(x a o e).lt
theorem b7.fresh (x:b7 P w H h) (e:h.objs.size<=a):H a=none:=by
 cases q:H a with
 | none=>rfl
 | some u=>exact absurd (ad4 (x.lt q) e) (ag3 _)
theorem b7.kept (x:b7 P w H h) (k:∀ b u,h.get? b=some u->h'.get? b=some u):b7 P w H h':=fun a o e=>
 (x a o e).stay (fun b u _ q=>k b u q) (fun _ q=>q) fun _ _ q=>q
theorem b7.laid (x:b7 P w H h) (k:∀ b u,h.get? b=some u->h'.get? b=some u) (hp:h.objs.size<=a) (new:b5 P w (upd H a o) h' a o):b7 P w (upd H a o) h':=fun b u e=>by
 have hn:=x.fresh hp
 by_cases hb:b=a
 ·subst hb; rw [bL] at e; cases e; exact new
 ·rw [aR hb] at e
  exact (x b u e).stay (fun c v _ q=>k c v q) (fun c q=>by rw [aR (c9 q hn)]; exact q) fun c xs q=>by rw [aR (c9 q hn)]; exact q
end
def Rd (H:Hp) (a:Addr) (u:HO):Prop:=H a=some u ∨ ∃ o,H a=some (.frz o u)
theorem Rd.ok {P:Program}{w:World}{H:Hp}{h:Heap}{a:Addr}{u:HO} (r:Rd H a u) (x:b7 P w H h):b5 P w H h a u:=by
 rcases r with r | ⟨o,r⟩
 ·exact x a u r
 ·obtain ⟨_,q⟩:=x a _ r
  exact q
def iT:Option HO->Prop
 | some (.lst _)=>True
 | some (.dK _)=>True
 | some (.dT _)=>True
 | some (.set _ _)=>True
 | some (.ins _ _ _)=>True
 | some (.ext _)=>True
 | _=>False
section
variable {P : Program} {w : World} {H : Hp} {h h' : Heap} {x e : Addr} {o' : HO}
theorem b7.write (ok:b7 P w H h) (mu:iT (H x)) (he:e=x ∨ H e=some (.own x)) (k:∀ b u,b ≠ e->h.get? b=some u->h'.get? b=some u) (heo:∃ u,h'.get? e=some u)
  (new:b5 P w (upd H x o') h' x o'):b7 P w (upd H x o') h':=fun b u q=>by
 have nown:∀ c y,H c=some (.own y)->c ≠ x:=fun c y r z=>by subst z; rw [r] at mu; exact mu
 have ntup:∀ c xs,H c=some (.tup xs)->c ≠ x:=fun c xs r z=>by subst z; rw [r] at mu; exact mu
 by_cases hb:b=x
 ·subst hb; rw [bL] at q; cases q; exact new
 ·rw [aR hb] at q
  by_cases hbe:b=e
  ·have q':H b=some (.own x):=by
    rcases he with z | z
    ·exact absurd (hbe.trans z) hb
    ·rw [hbe]; exact z
   rw [q] at q'; cases q'
   obtain ⟨v,hv⟩:=heo
   exact⟨v,by rw [hbe]; exact hv⟩
  ·refine (ok b u q).stay (fun c v hc r=>k c v ?_ r) (fun c r=>by rw [aR (nown c b r)]; exact r) fun c xs r=>by rw [aR (ntup c xs r)]; exact r
   rcases hc with rfl | hc
   ·exact hbe
   ·rintro rfl
    rcases he with z | z
    ·exact nown c b hc z
    ·rw [hc] at z; cases z; exact hb rfl
end
structure Un (fs ex:List Addr) (H H':Hp) (h h':Heap):Prop where
 keep:∀ b o,h.get? b=some o->H b=none->b ∉ fs->b ∉ ex->h'.get? b=some o
 slot:∀ b o,h.get? b=some o->H b=none->b ∈ fs->b ∉ ex->∃ sl,h'.get? b=some { o with slots:=sl }
 free:∀ b o,h.get? b=some o->H b=none->b ∉ ex->H' b=none
 there:∀ b o,h.get? b=some o->b ∉ ex->∃ o',h'.get? b=some o'
 tups:∀ b xs,H b=some (.tup xs)->H' b=some (.tup xs)
 frzs:∀ b o u,H b=some (.frz o u)->H' b=some (.frz o u)
 tbls:∀ b ps,H b=some (.tbl ps)->∃ more,H' b=some (.tbl (ps ++ more))
section
variable {fs fs' ex ex' : List Addr} {H H1 H2 : Hp} {h h1 h2 h' : Heap} {a x e : Addr} {o : HO}
theorem Un.any (u:Un fs ex H H1 h h1) {b:Addr}{ob:Obj} (q:h.get? b=some ob) (n:H b=none) (hx:b ∉ ex):∃ sl,h1.get? b=some { ob with slots:=sl }:=by
 by_cases hb:b ∈ fs
 ·exact u.slot b ob q n hb hx
 ·exact⟨ob.slots,u.keep b ob q n hb hx⟩
theorem Un.kept (k:∀ b u,h.get? b=some u->h'.get? b=some u):Un fs ex H H h h':=
 ⟨fun b ob q _ _ _=>k b ob q,fun b ob q _ _ _=>⟨ob.slots,k b ob q⟩,fun _ _ _ n _=>n,fun b ob q _=>⟨ob,k b ob q⟩,fun _ _ q=>q,fun _ _ _ q=>q,fun _ ps q=>⟨#[],by rw [q]; simp⟩⟩
theorem Un.refl:Un fs ex H H h h:=Un.kept fun _ _ q=>q
theorem Un.laid (k:∀ b u,h.get? b=some u->h'.get? b=some u) (hp:h.objs.size<=a) (hn:H a=none):Un fs ex H (upd H a o) h h' where
 keep:=fun b u q _ _ _=>k b u q
 slot:=fun b u q _ _ _=>⟨u.slots,k b u q⟩
 free:=fun b u q n _=>by rw [aR (af7 (ad4 (ad8 q) hp))]; exact n
 there:=fun b u q _=>⟨u,k b u q⟩
 tups:=fun b xs q=>by rw [aR (c9 q hn)]; exact q
 frzs:=fun b u xs q=>by rw [aR (c9 q hn)]; exact q
 tbls:=fun b ps q=>⟨#[],by rw [aR (c9 q hn),q]; simp⟩
theorem Un.write (mu:iT (H x)) (he:e=x ∨ H e=some (.own x)) (k:∀ b u,b ≠ e->h.get? b=some u->h'.get? b=some u) (heo:∃ u,h'.get? e=some u):Un fs ex H (upd H x o) h h':=by
 have hx:∀ b,H b=none->b ≠ x:=fun b n z=>by subst z; rw [n] at mu; exact mu
 have hb:∀ b,H b=none->b ≠ e:=fun b n z=>by
  subst z
  rcases he with r | r
  ·exact hx b n r
  ·rw [n] at r; cases r
 have hm:∀ b u,H b=some u->¬ iT (some u)->b ≠ x:=fun b u q nm z=>by subst z; rw [q] at mu; exact nm mu
 refine⟨fun b u q n _ _=>k b u (hb b n) q,fun b u q n _ _=>⟨u.slots,k b u (hb b n) q⟩,fun b u q n _=>by rw [aR (hx b n)]; exact n,fun b u q _=>?_,
  fun b xs q=>by rw [aR (hm b _ q fun z=>z)]; exact q,fun b u xs q=>by rw [aR (hm b _ q fun z=>z)]; exact q,fun b ps q=>⟨#[],by rw [aR (hm b _ q fun z=>z),q]; simp⟩⟩
 by_cases hbe:b=e
 ·subst hbe; exact heo
 ·exact⟨u,k b u hbe q⟩
end
def jQ (h:Heap) (H:Hp):List Addr:=(List.range h.objs.size).filter fun a=>(H a).isSome
def eQ (h:Heap) (H:Hp):Heap:=PySem.W.hideAll h (jQ h H)
theorem wB (h:Heap) (H:Hp):(eQ h H).objs.size=h.objs.size:=PySem.W.hideAll_size _ _
theorem wC {h:Heap}{H:Hp}{b:Addr}{o:Obj} (e:h.get? b=some o) (n:H b=none):(eQ h H).get? b=some o:=
 PySem.W.hideAll_get _ e fun hm=>by
  have q:(H b).isSome=true:=(List.mem_filter.mp hm).2
  rw [n] at q; simp at q
theorem wD {h:Heap}{H:Hp}{b:Addr}{o:Obj} (e:(eQ h H).get? b=some o):h.get? b=some o/\H b=none:=by
 have e':h.get? b=some o:=PySem.W.of_hideAll (jQ h H) e
 refine⟨e',?_⟩
 cases q:H b with
 | none=>rfl
 | some x=>
  have hm:b ∈ jQ h H:=List.mem_filter.mpr ⟨List.mem_range.mpr (ad8 e'),by simp [q]⟩
  have z:(eQ h H).get? b=none:=PySem.W.hideAll_none (jQ h H) hm
  rw [z] at e; cases e
def iU (g h:Heap) (L:Addr):List (Addr × Obj):=(List.range h.objs.size).filterMap fun a=>if a=L ∨ (g.get? a).isSome=true then none else (h.get? a).map fun o=>(a,o)
theorem pC {g h:Heap}{L a:Addr}{o:Obj} (h1:a ≠ L) (h2:g.get? a=none) (h3:h.get? a=some o):(a,o) ∈ iU g h L:=
 List.mem_filterMap.mpr ⟨a,List.mem_range.mpr (ad8 h3),by simp [h1,h2,h3]⟩
theorem wE {g h:Heap}{L:Addr}{p:Addr × Obj} (hp:p ∈ iU g h L):p.1 ≠ L/\g.get? p.1=none/\h.get? p.1=some p.2:=by
 obtain ⟨b,_,e⟩:=List.mem_filterMap.mp hp
 split at e
 ·cases e
 ·rename_i hn
  cases q:h.get? b with
  | none=>rw [q] at e; simp at e
  | some u=>
   rw [q] at e
   simp only [Option.map_some,Option.some.injEq] at e
   subst e
   refine⟨fun z=>hn (.inl z),?_,q⟩
   show g.get? b=none
   cases r:g.get? b with
   | none=>rfl
   | some v=>exact (hn (.inr (by simp [r]))).elim
def bS (g h:Heap) (L d:Addr):List (Addr × Obj):=(iU g h L).filter fun p=>decide (p.1 ≠ d)
theorem wF {g h:Heap}{L:Addr}:News g L h (iU g h L):=fun p hp=>let ⟨a,b,c⟩:=wE hp; ⟨c,a,b⟩
structure Mod (K:PySem.W.Frag) (mg:Str->Option Value) (base:Heap):Prop where
 kin:K.In base
 glob:base.Ns mainGlobals mg
 blt:∃ mb,base.Ns builtinsNs mb/\∀ x:Str,x ≠ "__name__"->mb x=bootBuiltins x
 nolimit:base.NoLimit
structure Cx where
 prog:Program
 w:World
 K:PySem.W.Frag
 mg:Str->Option Value
 base:Heap
 A:Around
 N:List Str
 s₀:Shared
 H₀:Hp
 env:Env
 outer:List Env
 stack:List Env
 ex:List Addr
 fn:Str->Bool
 calm:Bool
 pn:List (Addr × Obj)
 xe:Value->Shared->Prop
def dN (l:List Env):List Addr:=l.filterMap (·.frame)
abbrev Cx.fs (X:Cx):List Addr:=dN X.outer
def gH (sc:Scope) (x:Str):Prop:=sc.names.lookup x=some .local ∨ sc.names.lookup x=some .cell ∨ sc.names.lookup x=some .free
def gI (sc:Scope) (x:Str):Prop:=sc.names.lookup x=some .local ∨ sc.names.lookup x=some .cell
def wG (env:Env) (h:Heap) (m:Str->Option Value) (x:Str) (u:Value):Prop:=
 (env.kindOf x=some .local/\m x=some u) ∨ ((env.kindOf x=some .cell ∨ env.kindOf x=some .free)/\∃ c,env.cells.lookup x=some c/\h.IsCell c (some u))
structure Cx.Ok (X:Cx):Prop where
 mod:Mod X.K X.mg X.base
 kind:X.env.scope.kind = .function
 glob:X.env.globals=mainGlobals
 blt:X.env.builtins=builtinsNs
 above:X.s₀.heap.objs.size<=X.env.locals
 inj:∀ x y c,X.env.cells.lookup x=some c->X.env.cells.lookup y=some c->x=y
 has:∀ x,(X.env.kindOf x=some .cell ∨ X.env.kindOf x=some .free)->∃ c,X.env.cells.lookup x=some c
 cab:∀ x c,X.fn x=true->X.env.cells.lookup x=some c->X.s₀.heap.objs.size<=c
 hd:X.calm=true->X.A.handled=none
 frames:X.A.frames=some X.stack
 stk:X.stack=X.outer ∨ (X.stack=X.env :: X.outer/\X.env.frame=some X.env.locals)
 exf:∀ b ∈ X.ex,b ≠ X.env.locals/\∀ x c,X.env.cells.lookup x=some c->c ≠ b
 bs:∀ b o,X.base.get? b=some o->X.s₀.heap.get? b=some o/\X.H₀ b=none
 bsz:X.base.objs.size<=X.s₀.heap.objs.size
 noex:∀ b o,X.base.get? b=some o->b ∉ X.ex
 exfs:∀ b ∈ X.ex,b ∉ X.fs
 funs:X.s₀.heap.FunFrames X.base X.outer
 frf:∀ b ∈ X.fs,X.H₀ b=none
structure a5 (X:Cx) (pins:List (Addr × Obj)) (σ:List (Option V)) (H:Hp) (s:Shared):Prop where
 ok:X.Ok
 os:s.os=X.s₀.os
 bare:AllBare s.gens
 base:Un X.fs X.ex X.H₀ H X.s₀.heap s.heap
 loc:∃ m,s.heap.Ns X.env.locals m/\∀ (i:Nat) (x:Str) (v:V),X.N[i]? = some x->σ[i]? = some (some v)->gH X.env.scope x->∃ u,aP v u/\wG X.env s.heap m x u
 cell:∀ x c,X.env.cells.lookup x=some c->∃ v,s.heap.IsCell c v
 free:H X.env.locals=none
 freeC:∀ x c,X.env.cells.lookup x=some c->H c=none
 pin:∀ p ∈ X.pn ++ pins,s.heap.get? p.1=some p.2/\H p.1=none/\p.1 ≠ X.env.locals/\p.1 ∉ X.fs/\∀ v,p.2.data ≠ .cell v
 hok:b7 X.prog X.w H s.heap
 len:σ.length=X.N.length
section
variable {X : Cx} {pins : List (Addr × Obj)} {σ : List (Option V)} {H H' : Hp} {s : Shared} {h' : Heap}
theorem Cx.Ok.nofr (ok:X.Ok) {b:Addr}{o:Obj} (e:X.base.get? b=some o):b ∉ X.fs:=fun hb=>by
 have:=(ok.funs.mem hb).1
 rw [e] at this; cases this
theorem a5.bs (I:a5 X pins σ H s):∀ b o,X.base.get? b=some o->s.heap.get? b=some o/\H b=none:=fun b o e=>
 ⟨I.base.keep b o (I.ok.bs b o e).1 (I.ok.bs b o e).2 (I.ok.nofr e) (I.ok.noex b o e),I.base.free b o (I.ok.bs b o e).1 (I.ok.bs b o e).2 (I.ok.noex b o e)⟩
theorem a5.bk (I:a5 X pins σ H s):∀ b o,X.base.get? b=some o->s.heap.get? b=some o:=fun b o e=>(I.bs b o e).1
theorem a5.mod (I:a5 X pins σ H s):Mod X.K X.mg X.base:=I.ok.mod
theorem a5.kIn (I:a5 X pins σ H s):X.K.In s.heap:=I.ok.mod.kin.keeps I.bk
theorem a5.fr (I:a5 X pins σ H s):∃ m,Fr X.base X.env.locals s.heap m:=
 let ⟨m,hn,_⟩:=I.loc
 ⟨m,hn,I.bk,ag1 I.ok.bsz I.ok.above⟩
theorem a5.lt (I:a5 X pins σ H s):X.env.locals < s.heap.objs.size:=let ⟨_,hn,_⟩:=I.loc; hn.lt
theorem a5.sz (I:a5 X pins σ H s):X.s₀.heap.objs.size<=s.heap.objs.size:=ag1 I.ok.above (al0 I.lt)
theorem a5.nofs (I:a5 X pins σ H s) {a:Addr} (h:s.heap.objs.size<=a):a ∉ X.fs:=fun hb=>by
 obtain ⟨_,o,ho,_⟩:=I.ok.funs.mem hb
 exact absurd (ad4 (ad8 ho) (ag1 I.sz h)) (ag3 _)
theorem a5.cne (I:a5 X pins σ H s):∀ x c,X.env.cells.lookup x=some c->c ≠ X.env.locals:=fun x c e z=>by
 obtain ⟨v,o,ho,hd⟩:=I.cell x c e
 obtain ⟨m,⟨o',es,ep,ho',hd',_⟩,_⟩:=I.loc
 rw [z,ho'] at ho; cases ho; rw [hd'] at hd; cases hd
theorem a5.funs (I:a5 X pins σ H s):s.heap.FunFrames X.base X.outer:=by
 have all:∀ (l:List Env),(∀ b ∈ dN l,b ∈ X.fs)->X.s₀.heap.FunFrames X.base l->s.heap.FunFrames X.base l:=by
  intro l
  induction l with
  | nil=>intro _ _; trivial
  | cons env r ih=>
   intro hs hl
   obtain ⟨hk,⟨L,o,hf,hn,ho,hd⟩,hr⟩:=hl
   have hL:L ∈ X.fs:=hs L (by unfold dN; rw [List.filterMap_cons,hf]; exact ad2)
   obtain ⟨sl,e⟩:=I.base.slot L o ho (I.ok.frf L hL) hL fun z=>I.ok.exfs L z hL
   exact⟨hk,⟨L,_,hf,hn,e,hd⟩,ih (fun b hb=>hs b (by unfold dN; rw [List.filterMap_cons,hf]; exact ad5 _ hb)) hr⟩
 exact all X.outer (fun _ hb=>hb) I.ok.funs
theorem a5.stack (I:a5 X pins σ H s):s.heap.FunFrames X.base X.stack:=by
 rcases I.ok.stk with e | ⟨e,hf⟩
 ·rw [e]; exact I.funs
 ·rw [e]
  obtain ⟨m,hn,_⟩:=I.loc
  refine .cons (by rw [I.ok.kind]; decide) hf hn ?_ I.funs
  exact Heap.get?_none_of_le (ag1 I.ok.bsz I.ok.above)
theorem a5.stkSub (I:a5 X pins σ H s):∀ b ∈ dN X.stack,b ∈ X.env.locals :: X.fs:=fun b hb=>by
 rcases I.ok.stk with e | ⟨e,hf⟩
 ·rw [e] at hb; exact ad5 _ hb
 ·rw [e] at hb
  unfold dN at hb
  rw [List.filterMap_cons,hf] at hb
  exact hb
theorem a5.stkFree (I:a5 X pins σ H s):∀ b ∈ dN X.stack,H b=none:=fun b hb=>by
 rcases ae0.mp (I.stkSub b hb) with e | hb
 ·rw [e]; exact I.free
 ·obtain ⟨_,o,ho,_⟩:=I.ok.funs.mem hb
  exact I.base.free b o ho (I.ok.frf b hb) fun z=>I.ok.exfs b z hb
theorem a5.step {g':Array GenState}{t':Nat}{d':Drawn}{ch:List Addr} (I:a5 X pins σ H s)
  (hch:∀ b ∈ ch,(b ∈ X.ex ∨ X.s₀.heap.objs.size<=b)/\b ≠ X.env.locals/\(∀ x c,X.env.cells.lookup x=some c->c ≠ b)/\∀ p ∈ X.pn ++ pins,p.1 ≠ b)
  (keep:∀ b o,b ≠ X.env.locals->b ∉ X.fs->b ∉ ch->s.heap.get? b=some o->H b=none->h'.get? b=some o)
  (slot:∀ b o,b ≠ X.env.locals->b ∈ X.fs->b ∉ ch->s.heap.get? b=some o->H b=none->∃ sl,h'.get? b=some { o with slots:=sl }) (free:∀ b o,b ∉ ch->s.heap.get? b=some o->H b=none->H' b=none)
  (there:∀ b o,b ∉ ch->s.heap.get? b=some o->∃ o',h'.get? b=some o')
  (tups:∀ b xs,H b=some (.tup xs)->H' b=some (.tup xs)) (frzs:∀ b o u,H b=some (.frz o u)->H' b=some (.frz o u)) (tbls:∀ b ps,H b=some (.tbl ps)->∃ more,H' b=some (.tbl (ps ++ more)))
  (ns:∀ m,s.heap.Ns X.env.locals m->h'.Ns X.env.locals m) (hok:b7 X.prog X.w H' h') (hg:AllBare g') :
  a5 X pins σ H' { s with heap:=h',gens:=g',drawn:=d',toks:=t' }:=by
 have neL:∀ b o,X.s₀.heap.get? b=some o->b ≠ X.env.locals:=fun b o e=>af7 (ad4 (ad8 e) I.ok.above)
 have neC:∀ b o,X.s₀.heap.get? b=some o->b ∉ X.ex->b ∉ ch:=fun b o e hx hb=>by
  rcases (hch b hb).1 with z | z
  ·exact hx z
  ·exact absurd (ad4 (ad8 e) z) (ag3 _)
 have cellK:∀ x c,X.env.cells.lookup x=some c->∀ v,s.heap.IsCell c v->h'.IsCell c v:=fun x c e v ⟨o,ho,hd⟩=>by
  have nch:c ∉ ch:=fun z=>(hch c z).2.2.1 x c e rfl
  by_cases hc:c ∈ X.fs
  ·obtain ⟨sl,q⟩:=slot c o (I.cne x c e) hc nch ho (I.freeC x c e)
   exact⟨_,q,hd⟩
  ·exact⟨o,keep c o (I.cne x c e) hc nch ho (I.freeC x c e),hd⟩
 refine⟨I.ok,I.os,hg,⟨fun b o e n hb hx=>?_,fun b o e n hb hx=>?_,fun b o e n hx=>?_,fun b o e hx=>?_,fun b xs e=>tups b xs (I.base.tups b xs e),fun b o xs e=>frzs b o xs (I.base.frzs b o xs e),fun b ps e=>?_⟩,?_,fun x c e=>?_,?_,fun x c e=>?_,fun p hp=>?_,hok,I.len⟩
 ·exact keep b o (neL b o e) hb (neC b o e hx) (I.base.keep b o e n hb hx) (I.base.free b o e n hx)
 ·obtain ⟨sl,e1⟩:=I.base.slot b o e n hb hx
  obtain ⟨sl',e2⟩:=slot b _ (neL b o e) hb (neC b o e hx) e1 (I.base.free b o e n hx)
  exact⟨sl',e2⟩
 ·obtain ⟨o',e1⟩:=I.base.there b o e hx
  exact free b o' (neC b o e hx) e1 (I.base.free b o e n hx)
 ·obtain ⟨o',e1⟩:=I.base.there b o e hx
  exact there b o' (neC b o e hx) e1
 ·obtain ⟨m1,e1⟩:=I.base.tbls b ps e
  obtain ⟨m2,e2⟩:=tbls b _ e1
  exact⟨m1 ++ m2,by rw [e2,Array.append_assoc]⟩
 ·obtain ⟨m,hn,hl⟩:=I.loc
  refine⟨m,ns m hn,fun i x v e1 e2 e3=>?_⟩
  obtain ⟨u,r,l⟩:=hl i x v e1 e2 e3
  refine⟨u,r,?_⟩
  rcases l with l | ⟨k,c,e,z⟩
  ·exact .inl l
  ·exact .inr ⟨k,c,e,cellK x c e _ z⟩
 ·obtain ⟨v,z⟩:=I.cell x c e
  exact⟨v,cellK x c e v z⟩
 ·obtain ⟨m,⟨o,_,_,ho,_⟩,_⟩:=I.loc
  exact free _ o (fun z=>(hch _ z).2.1 rfl) ho I.free
 ·obtain ⟨v,o,ho,hd⟩:=I.cell x c e
  exact free c o (fun z=>(hch c z).2.2.1 x c e rfl) ho (I.freeC x c e)
 ·obtain ⟨e,n,ne,nf,d⟩:=I.pin p hp
  have nch:p.1 ∉ ch:=fun z=>(hch p.1 z).2.2.2 p hp rfl
  exact⟨keep p.1 p.2 ne nf nch e n,free p.1 p.2 nch e n,ne,nf,d⟩
theorem a5.un {t':Nat} (I:a5 X pins σ H s) (u:Un X.fs [] H H' s.heap h') (hok:b7 X.prog X.w H' h'):a5 X pins σ H' { s with heap:=h',toks:=t' }:=by
 obtain ⟨m,⟨o,es,ep,ho,r⟩,_⟩:=id I.loc
 obtain ⟨sl,hL⟩:=u.any ho I.free (by simp)
 exact I.step (g':=s.gens) (d':=s.drawn) (ch:=[]) (fun _ z=>nomatch z) (fun b o _ hb _ e n=>u.keep b o e n hb (by simp)) (fun b o _ hb _ e n=>u.slot b o e n hb (by simp)) (fun b o _ e n=>u.free b o e n (by simp)) (fun b o _ e=>u.there b o e (by simp)) u.tups u.frzs u.tbls (fun m' hm=>by
  obtain ⟨o',es',ep',ho',r'⟩:=hm
  rw [ho] at ho'; cases ho'
  exact⟨_,es',ep',hL,r'⟩) hok I.bare
theorem a5.call {g':Array GenState}{t':Nat}{d':Drawn}{ch:List Addr} (I:a5 X pins σ H s) (u:Un (dN X.stack) ch H H' s.heap h') (hok:b7 X.prog X.w H' h') (hg:AllBare g')
  (hch:∀ b ∈ ch,(b ∈ X.ex ∨ X.s₀.heap.objs.size<=b)/\b ≠ X.env.locals/\(∀ x c,X.env.cells.lookup x=some c->c ≠ b)/\∀ p ∈ X.pn ++ pins,p.1 ≠ b) :
  a5 X pins σ H' { s with heap:=h',gens:=g',drawn:=d',toks:=t' }:=by
 obtain ⟨m,⟨o,es,ep,ho,r⟩,_⟩:=id I.loc
 obtain ⟨sl,hL⟩:=u.any ho I.free fun z=>(hch _ z).2.1 rfl
 exact I.step (ch:=ch) hch (fun b o hL hb hc e n=>u.keep b o e n (fun z=>(ae0.mp (I.stkSub b z)).elim hL hb) hc) (fun b o _ _ hc e n=>u.any e n hc) (fun b o hc e n=>u.free b o e n hc) (fun b o hc e=>u.there b o e hc) u.tups u.frzs u.tbls (fun m' hm=>by
  obtain ⟨o',es',ep',ho',r'⟩:=hm
  rw [ho] at ho'; cases ho'
  exact⟨_,es',ep',hL,r'⟩) hok hg
theorem a5.turned {t':Nat}{it:Addr} (I:a5 X pins σ H s) (k:∀ b o,b ≠ it->s.heap.get? b=some o->h'.get? b=some o) (hn:H it=none) (hL:it ≠ X.env.locals)
  (h1:it ∈ X.ex ∨ X.s₀.heap.objs.size<=it) (h2:∀ x c,X.env.cells.lookup x=some c->c ≠ it) (h3:∀ p ∈ X.pn ++ pins,p.1 ≠ it):a5 X pins σ H { s with heap:=h',toks:=t' }:=by
 have nit:∀ b u,H b=some u->b ≠ it:=fun b u e z=>by rw [z,hn] at e; cases e
 refine I.step (g':=s.gens) (d':=s.drawn) (ch:=[it]) (fun b hb=>?_) (fun b o _ _ hc e _=>k b o (fun z=>hc (by simp [z])) e) (fun b o _ _ hc e _=>⟨o.slots,k b o (fun z=>hc (by simp [z])) e⟩) (fun _ _ _ _ n=>n)
  (fun b o hc e=>⟨o,k b o (fun z=>hc (by simp [z])) e⟩) (fun _ _ e=>e) (fun _ _ _ e=>e) (fun b ps e=>⟨#[],by rw [e]; simp⟩) (fun m hm=>?_) (fun b u e=>?_) I.bare
 ·have e:b=it:=by simpa using hb
  subst e
  exact⟨h1,hL,h2,h3⟩
 ·obtain ⟨o,es,ep,ho,r⟩:=hm
  exact⟨o,es,ep,k _ o (Ne.symm hL) ho,r⟩
 ·refine (I.hok b u e).stay (fun c v hc q=>k c v ?_ q) (fun _ q=>q) fun _ _ q=>q
  rcases hc with z | z
  ·rw [z]; exact nit b u e
  ·exact nit c _ z
theorem a5.tok (I:a5 X pins σ H s) (t:Nat):a5 X pins σ H { s with toks:=t }:=I.un (h':=s.heap) (t':=t) Un.refl I.hok
theorem a5.kept {t':Nat} (I:a5 X pins σ H s) (k:∀ b u,s.heap.get? b=some u->h'.get? b=some u):a5 X pins σ H { s with heap:=h',toks:=t' }:=I.un (Un.kept k) (I.hok.kept k)
theorem a5.laid {a:Addr}{o:HO}{t':Nat} (I:a5 X pins σ H s) (k:∀ b u,s.heap.get? b=some u->h'.get? b=some u) (hp:s.heap.objs.size<=a) (new:b5 X.prog X.w (upd H a o) h' a o) :
  a5 X pins σ (upd H a o) { s with heap:=h',toks:=t' }:=I.un (Un.laid k hp (I.hok.fresh hp)) (I.hok.laid k hp new)
theorem a5.write {x e:Addr}{o:HO}{t':Nat} (I:a5 X pins σ H s) (mu:iT (H x)) (he:e=x ∨ H e=some (.own x)) (k:∀ b u,b ≠ e->s.heap.get? b=some u->h'.get? b=some u) (heo:∃ u,h'.get? e=some u)
  (new:b5 X.prog X.w (upd H x o) h' x o):a5 X pins σ (upd H x o) { s with heap:=h',toks:=t' }:=I.un (Un.write mu he k heo) (I.hok.write mu he k heo new)
theorem a5.weak {σ':List (Option V)} (I:a5 X pins σ H s) (hl:σ'.length=σ.length) (w:∀ (i:Nat) v,σ'[i]? = some (some v)->σ[i]? = some (some v)):a5 X pins σ' H s:=
 ⟨I.ok,I.os,I.bare,I.base,let ⟨m,hn,hl'⟩:=I.loc; ⟨m,hn,fun i x v e1 e2 e3=>hl' i x v e1 (w i v e2) e3⟩,I.cell,I.free,I.freeC,I.pin,I.hok,hl.trans I.len⟩
theorem a5.pins_of {pins':List (Addr × Obj)} (I:a5 X pins σ H s) (h:∀ p ∈ pins',s.heap.get? p.1=some p.2/\H p.1=none/\p.1 ≠ X.env.locals/\p.1 ∉ X.fs/\∀ v,p.2.data ≠ .cell v):a5 X pins' σ H s:=
 ⟨I.ok,I.os,I.bare,I.base,I.loc,I.cell,I.free,I.freeC,fun p hp=>(ag4.mp hp).elim (fun z=>I.pin p (List.mem_append_left _ z)) (h p),I.hok,I.len⟩
theorem pD {N:List Str} (hN:N.Nodup) {i j:Nat}{x:Str} (a:N[i]? = some x) (b:N[j]? = some x):i=j:=by
 obtain ⟨h1,e1⟩:=ae7.mp a
 obtain ⟨h2,e2⟩:=ae7.mp b
 exact (List.getElem_inj hN).mp (e1.trans e2.symm)
theorem pE {M:Model}{A:Around}{E:Value->Shared->Prop}{i:Nat}{x:Str}{v:V}{u:Value}{Q:Unit->Shared->Prop} (I:a5 X pins σ H s) (hN:X.N.Nodup) (hi:X.N[i]? = some x) (hx:gI X.env.scope x) (r:aP v u)
  (h:∀ s',a5 X pins (σ.set i (some v)) H s'->(∃ a,Heap.SameBut a s.heap s'.heap/\(a=X.env.locals ∨ X.env.cells.lookup x=some a))->Q () s') (hf:X.fn x=true ∨ X.env.scope.names.lookup x=some .local:=by first | exact .inl rfl | exact .inr rfl | assumption):wpAny M A (storeName X.env x u) Q E s:=by
 obtain ⟨m,hn,hl⟩:=id I.loc
 have hcls:(X.env.scope.kind == .class || (X.env.scope.kind == .module && X.env.locals != X.env.globals))=false:=by rw [I.ok.kind]; rfl
 have hiσ:i < σ.length:=by rw [I.len]; exact (ae7.mp hi).1
 have cne:=I.cne
 have tracked:∀ {a:Addr}{h':Heap},(∃ o,s.heap.get? a=some o/\H a=none)->Heap.SameBut a s.heap h'->b7 X.prog X.w H h':=fun {a h'} ha hs b ob e=>by
  obtain ⟨_,_,hfree⟩:=ha
  refine (I.hok b ob e).stay (fun c w' hc q=>(hs.2 c ?_).trans q) (fun _ q=>q) fun _ _ q=>q
  rintro rfl
  rcases hc with rfl | hc
  ·rw [hfree] at e; cases e
  ·rw [hfree] at hc; cases hc
 rcases hx with hk | hk
 ·refine wpAny_storeName_local hk hn (fun h' hn' hs=>?_) hcls
  obtain ⟨oL,_,_,hoL,_⟩:=id hn
  refine h _ ⟨I.ok,I.os,I.bare,⟨fun b o e n hb hx=>?_,fun b o e n hb hx=>?_,I.base.free,fun b o e hx=>?_,I.base.tups,I.base.frzs,I.base.tbls⟩,⟨_,hn',fun j y v' e1 e2 e3=>?_⟩,fun y c e=>?_,I.free,I.freeC,fun p hp=>?_,tracked ⟨oL,hoL,I.free⟩ hs,by simpa using I.len⟩ ⟨_,hs,.inl rfl⟩
  ·exact (hs.2 b (af7 (ad4 (ad8 e) I.ok.above))).trans (I.base.keep b o e n hb hx)
  ·obtain ⟨sl,e1⟩:=I.base.slot b o e n hb hx
   exact⟨sl,(hs.2 b (af7 (ad4 (ad8 e) I.ok.above))).trans e1⟩
  ·obtain ⟨o',e1⟩:=I.base.there b o e hx
   exact⟨o',(hs.2 b (af7 (ad4 (ad8 e) I.ok.above))).trans e1⟩
  ·by_cases hj:j=i
   ·subst hj
    rw [hi] at e1; cases e1
    rw [ai1 hiσ] at e2
    cases e2
    exact⟨u,r,.inl ⟨hk,by simp⟩⟩
   ·rw [af3 (Ne.symm hj)] at e2
    obtain ⟨u',r',q⟩:=hl j y v' e1 e2 e3
    refine⟨u',r',?_⟩
    rcases q with ⟨k,e⟩ | ⟨k,c,e,z⟩
    ·refine .inl ⟨k,?_⟩
     have:y ≠ x:=fun e=>hj (pD hN e1 (e ▸ hi))
     simp [this,e]
    ·exact .inr ⟨k,c,e,z.sameBut hs (cne y c e)⟩
  ·obtain ⟨w',z⟩:=I.cell y c e
   exact⟨w',z.sameBut hs (cne y c e)⟩
  ·obtain ⟨e,n,ne,nf,d⟩:=I.pin p hp
   exact⟨(hs.2 p.1 ne).trans e,n,ne,nf,d⟩
 ·have hfn:X.fn x=true:=by
   rcases hf with z | z
   ·exact z
   ·rw [z] at hk; cases hk
  obtain ⟨c,hc⟩:=I.ok.has x (.inl hk)
  obtain ⟨w',z⟩:=I.cell x c hc
  refine wpAny_storeName_cell I.ok.kind hk hc z (fun h' hc' hs=>?_)
  obtain ⟨oc,hoc,hocd⟩:=id z
  refine h { s with heap:=h' } ⟨I.ok,I.os,I.bare,⟨fun b o e n hb hx=>?_,fun b o e n hb hx=>?_,I.base.free,fun b o e hx=>?_,I.base.tups,I.base.frzs,I.base.tbls⟩,⟨m,hn.sameBut hs (Ne.symm (cne x c hc)),fun j y v' e1 e2 e3=>?_⟩,fun y c' e=>?_,I.free,I.freeC,fun p hp=>?_,tracked ⟨oc,hoc,I.freeC x c hc⟩ hs,by simpa using I.len⟩ ⟨c,hs,.inr hc⟩
  ·exact (hs.2 b (af7 (ad4 (ad8 e) (I.ok.cab x c hfn hc)))).trans (I.base.keep b o e n hb hx)
  ·obtain ⟨sl,e1⟩:=I.base.slot b o e n hb hx
   exact⟨sl,(hs.2 b (af7 (ad4 (ad8 e) (I.ok.cab x c hfn hc)))).trans e1⟩
  ·obtain ⟨o',e1⟩:=I.base.there b o e hx
   exact⟨o',(hs.2 b (af7 (ad4 (ad8 e) (I.ok.cab x c hfn hc)))).trans e1⟩
  ·by_cases hj:j=i
   ·subst hj
    rw [hi] at e1; cases e1
    rw [ai1 hiσ] at e2
    cases e2
    exact⟨u,r,.inr ⟨.inl hk,c,hc,hc'⟩⟩
   ·rw [af3 (Ne.symm hj)] at e2
    obtain ⟨u',r',q⟩:=hl j y v' e1 e2 e3
    refine⟨u',r',?_⟩
    rcases q with q | ⟨k,c',e,z'⟩
    ·exact .inl q
    ·refine .inr ⟨k,c',e,z'.sameBut hs ?_⟩
     rintro rfl
     exact hj (pD hN e1 (I.ok.inj _ _ _ e hc ▸ hi))
  ·by_cases hcc:c'=c
   ·subst hcc; exact⟨_,hc'⟩
   ·obtain ⟨w2,z2⟩:=I.cell y c' e
    exact⟨w2,z2.sameBut hs hcc⟩
  ·obtain ⟨e,n,ne,nf,d⟩:=I.pin p hp
   refine⟨(hs.2 p.1 ?_).trans e,n,ne,nf,d⟩
   intro q
   rw [q,hoc] at e
   have q':oc=p.2:=ae6 e
   exact d w' (by rw [<- q']; exact hocd)
theorem pF {M:Model}{A:Around}{E:Value->Shared->Prop}{i:Nat}{x:Str}{v:V}{u:Value}{Q:Unit->Shared->Prop} (I:a5 X pins σ H s) (hN:X.N.Nodup) (hi:X.N[i]? = some x) (hx:gI X.env.scope x) (r:aP v u)
  (h:∀ s',a5 X pins (σ.set i (some v)) H s'->Q () s') (hf:X.fn x=true ∨ X.env.scope.names.lookup x=some .local:=by first | exact .inl rfl | exact .inr rfl | assumption):wpAny M A (storeName X.env x u) Q E s:=
 pE I hN hi hx r (fun s' I' _=>h s' I') hf
theorem a5.call' {s':Shared}{ch:List Addr} (I:a5 X pins σ H s) (ho:s'.os=s.os) (u:Un (dN X.stack) ch H H' s.heap s'.heap) (hok:b7 X.prog X.w H' s'.heap) (hg:AllBare s'.gens)
  (hch:∀ b ∈ ch,(b ∈ X.ex ∨ X.s₀.heap.objs.size<=b)/\b ≠ X.env.locals/\(∀ x c,X.env.cells.lookup x=some c->c ≠ b)/\∀ p ∈ X.pn ++ pins,p.1 ≠ b):a5 X pins σ H' s':=by
 obtain ⟨h',g',d',t',o'⟩:=s'
 have e:o'=s.os:=ho
 subst e
 exact I.call (g':=g') (t':=t') (d':=d') u hok hg hch
end
abbrev XK:=Value->Option Addr->Hp->Prop
abbrev St:=List (Option V)
abbrev VK:=V->Hp->Prop
abbrev TE:=St->Hp->VK->Prop
abbrev TT:=St->Hp->(Bool->Hp->Prop)->Prop
abbrev TA:=St->Hp->(List V->Hp->Prop)->Prop
structure cH where
 nx:St->Hp->Prop
 rt:VK
 bk:St->Hp->Prop:=fun _ _=>False
 ct:St->Hp->Prop:=fun _ _=>False
abbrev TS:=cH->St->Hp->Prop
def EP (X:Cx) (pins:List (Addr × Obj)) (σ:St) (Q:VK) (u:Value) (s':Shared):Prop:=∃ v H',a5 X pins σ H' s'/\aP v u/\Q v H'
def TP (X:Cx) (pins:List (Addr × Obj)) (σ:St) (Q:Bool->Hp->Prop) (b:Bool) (s':Shared):Prop:=∃ H',a5 X pins σ H' s'/\Q b H'
def AP (X:Cx) (pins:List (Addr × Obj)) (σ:St) (Q:List V->Hp->Prop) (us:List Value) (s':Shared):Prop:=∃ vs H',a5 X pins σ H' s'/\aH vs us/\Q vs H'
def SP (X:Cx) (pins:List (Addr × Obj)) (D:cH) (f:Flow) (s':Shared):Prop:=
 match f with
 | .next=>∃ σ' H',a5 X pins σ' H' s'/\D.nx σ' H'
 | .brk=>∃ σ' H',a5 X pins σ' H' s'/\D.bk σ' H'
 | .cont=>∃ σ' H',a5 X pins σ' H' s'/\D.ct σ' H'
 | .ret u=>∃ v σ' H',a5 X pins σ' H' s'/\aP v u/\D.rt v H'
def PE (X:Cx) (e:Expr) (t:TE):Prop:=
 ∀ (pins:List (Addr × Obj)) (s:Shared) (σ:St) (H:Hp) (Q:VK),a5 X pins σ H s->t σ H Q->wpAny (model X.prog X.w) X.A (eval e X.env) (EP X pins σ Q) X.xe s
def PT (X:Cx) (e:Expr) (t:TT):Prop:=
 ∀ (pins:List (Addr × Obj)) (s:Shared) (σ:St) (H:Hp) (Q:Bool->Hp->Prop),a5 X pins σ H s->t σ H Q->wpAny (model X.prog X.w) X.A (isTrue e X.env (eval e X.env)) (TP X pins σ Q) X.xe s
def PW (X:Cx) (e:Expr) (t:TT):Prop:=
 ∀ (whole:Sem Value) (pins:List (Addr × Obj)) (s:Shared) (σ:St) (H:Hp) (Q:Bool->Hp->Prop),a5 X pins σ H s->t σ H Q->wpAny (model X.prog X.w) X.A (isTrue e X.env whole) (TP X pins σ Q) X.xe s
theorem PW.pt {X:Cx}{e:Expr}{t:TT} (h:PW X e t):PT X e t:=h _
def PA (X:Cx) (es:List Expr) (t:TA):Prop:=
 ∀ (pos:Pos) (pins:List (Addr × Obj)) (s:Shared) (σ:St) (H:Hp) (Q:List V->Hp->Prop),a5 X pins σ H s->t σ H Q->wpAny (model X.prog X.w) X.A (spliced (backTo pos (starEach es X.env))) (AP X pins σ Q) X.xe s
def PS (X:Cx) (st:Stmt) (t:TS):Prop:=
 ∀ (pins:List (Addr × Obj)) (s:Shared) (σ:St) (H:Hp) (D:cH),a5 X pins σ H s->t D σ H->wpAny (model X.prog X.w) X.A (exec st X.env) (SP X pins D) X.xe s
def cC (X:Cx) (st:List Stmt) (t:TS):Prop:=
 ∀ (pins:List (Addr × Obj)) (s:Shared) (σ:St) (H:Hp) (D:cH),a5 X pins σ H s->t D σ H->wpAny (model X.prog X.w) X.A (execs st X.env) (SP X pins D) X.xe s
theorem aI {α:Type}{t:Sem α}{Q Q':α->Shared->Prop}{M:Model}{A:Around}{E:Value->Shared->Prop}{s:Shared} (h:wpAny M A t Q E s) (hQ:∀ a s,Q a s->Q' a s):wpAny M A t Q' E s:=ai7 h hQ fun _ _ x=>x
section
variable {X : Cx}
theorem bin {a b:Expr}{ta tb:TE} (ha:PE X a ta) (hb:PE X b tb) {pins:List (Addr × Obj)}{s:Shared}{σ:St}{H:Hp}{R:V->V->Hp->Prop} (I:a5 X pins σ H s) (h:ta σ H fun x H1=>tb σ H1 fun y H2=>R x y H2)
  {α:Type}{Q:α->Shared->Prop}{f:Value->Value->Sem α}
  (hf:∀ v u s2 x y H2,a5 X pins σ H2 s2->aP x v->aP y u->R x y H2->wpAny (model X.prog X.w) X.A (f v u) Q X.xe s2) :
  wpAny (model X.prog X.w) X.A (eval a X.env) (fun v s₁=>wpAny (model X.prog X.w) X.A (eval b X.env) (fun u s₂=>wpAny (model X.prog X.w) X.A (f v u) Q X.xe s₂) X.xe s₁) X.xe s:=by
 refine aI (ha pins s σ H _ I h) fun v s1 ⟨x,H1,I1,r1,q1⟩=>?_
 refine aI (hb pins s1 σ H1 _ I1 q1) fun u s2 ⟨y,H2,I2,r2,q2⟩=>?_
 exact hf v u s2 x y H2 I2 r1 r2 q2
def iV (i:Nat):TE:=fun σ H Q=>∃ v,σ[i]? = some (some v)/\Q v H
def tC (v:V):TE:=fun _ H Q=>Q v H
theorem jR {i:Nat}{x:Str}{pos:Pos} (hN:X.N[i]? = some x) (hv:gH X.env.scope x) (hd:(x == ("__debug__" : Str))=false:=by decide) (hcd:(x == ("__classdict__" : Str))=false:=by decide):PE X (.Name x pos) (iV i):=by
 intro pins s σ H Q I h
 obtain ⟨v,e,h⟩:=h
 obtain ⟨m,hn,hl⟩:=I.loc
 obtain ⟨u,r,l⟩:=hl i x v hN e hv
 have fin:EP X pins σ Q u s:=⟨v,H,I,r,h⟩
 rcases l with ⟨hk,hm⟩ | ⟨hk,c,hc,hcell⟩
 ·exact wpAny_Name (wpAny_loadName_local I.ok.kind hk hn hm fin) hd
 ·rcases hk with hk | hk
  ·exact wpAny_Name (wpAny_loadName_cell I.ok.kind hk hc hcell fin) hd
  ·exact wpAny_Name (wpAny_loadName_free I.ok.kind hk hc hcell fin hcd) hd
theorem wH {i j pos}:PE X (.Constant (.int i) j pos) (tC (.int i)):=fun _ _ _ H _ I h=>wpAny_Constant_int ⟨.int i,H,I.tok _,⟨_,rfl⟩,h⟩
theorem wI {b j pos}:PE X (.Constant (.bool b) j pos) (tC (.bl b)):=fun _ _ _ H _ I h=>Constant_bool ⟨.bl b,H,I,rfl,h⟩
theorem wJ {x j pos}:PE X (.Constant (.str x) j pos) (tC (.str x)):=fun _ _ _ H _ I h=>Calls.Constant_str ⟨.str x,H,I.tok _,⟨_,rfl⟩,h⟩
def Gl (X:Cx) (x:Str):Prop:=X.env.kindOf x=some .globalImplicit
theorem pG {E:Value->Shared->Prop}{pins:List (Addr × Obj)}{s:Shared}{σ:St}{H:Hp}{x:Str}{u:Value}{pos:Pos}{Q:Value->Shared->Prop} (I:a5 X pins σ H s) (hg:Gl X x) (hm:X.mg x=some u) (h:Q u s)
  (hd:(x == ("__debug__" : Str))=false:=by decide):wpAny (model X.prog X.w) X.A (eval (.Name x pos) X.env) Q E s:=
 Calls.Name_function_global I.ok.kind hg (Calls.loadGlobal_global (by rw [I.ok.glob]; exact I.mod.glob.keeps I.bk) hm h) hd
theorem i4 {E:Value->Shared->Prop}{pins:List (Addr × Obj)}{s:Shared}{σ:St}{H:Hp}{x:Str}{u:Value}{pos:Pos}{Q:Value->Shared->Prop} (I:a5 X pins σ H s) (hg:Gl X x) (hm:X.mg x=none) (hv:bootBuiltins x=some u) (h:Q u s)
  (hn:x ≠ "__name__":=by decide) (hd:(x == ("__debug__" : Str))=false:=by decide):wpAny (model X.prog X.w) X.A (eval (.Name x pos) X.env) Q E s:=by
 obtain ⟨mb,h1,h2⟩:=I.mod.blt
 exact Calls.Name_function_global I.ok.kind hg (Calls.loadGlobal_builtin (by rw [I.ok.glob]; exact I.mod.glob.keeps I.bk) hm (by rw [I.ok.blt]; exact h1.keeps I.bk) ((h2 x hn).trans hv) h) hd
theorem pH {x:Str}{v:V}{u:Value}{pos:Pos} (hg:Gl X x) (hm:X.mg x=some u) (r:aP v u) (hd:(x == ("__debug__" : Str))=false:=by decide):PE X (.Name x pos) (tC v):=
 fun _ _ _ H _ I h=>pG I hg hm ⟨v,H,I,r,h⟩ hd
theorem wK {x:Str}{v:V}{u:Value}{pos:Pos} (hg:Gl X x) (hm:X.mg x=none) (hv:bootBuiltins x=some u) (r:aP v u) (hn:x ≠ "__name__":=by decide) (hd:(x == ("__debug__" : Str))=false:=by decide):PE X (.Name x pos) (tC v):=
 fun _ _ _ H _ I h=>i4 I hg hm hv ⟨v,H,I,r,h⟩ hn hd
variable {a b : Expr} {ta tb : TE} {pos : Pos}
def PC (X:Cx) (op:CmpOp) (a b:Expr) (t:TE):Prop:=
 ∀ (pins:List (Addr × Obj)) (s:Shared) (σ:St) (H:Hp) (Q:VK),a5 X pins σ H s->t σ H Q->
  wpAny (model X.prog X.w) X.A (eval a X.env) (fun v s₁=>wpAny (model X.prog X.w) X.A (eval b X.env) (fun u s₂=>wpAny (model X.prog X.w) X.A (compareOp op v u) (EP X pins σ Q) X.xe s₂) X.xe s₁) X.xe s
def tB (t:TE):TT:=fun σ H Q=>t σ H fun x H1=>∃ c,x = .bl c/\Q c H1
theorem ac4 {op:CmpOp}{t:TE} (h:PC X op a b t) (h1:behindInMarks op b=false:=by first | exact nobehind _ (by decide) (by decide) | rfl):PT X (.Compare a [op] [b] pos) (tB t):=by
 intro pins s σ H Q I hw
 refine wpAny_isTrue_Compare1 (aI (h pins s σ H _ I hw) fun v s1 h1=>aI h1 fun u s2 h2=>aI h2 fun c s3 ⟨x,H1,I1,r1,q1⟩=>?_) h1
 obtain ⟨d,rfl,q⟩:=q1
 cases r1
 exact aj4 ⟨H1,I1,q⟩
theorem wL {e:Expr}{t:TE} (h:PE X e t) (he:∀ whole,isTrue e X.env whole=(do let v <- whole; standAt e.pos; holding [v] (truthy v)):=by intro _; rfl):PT X e (tB t):=by
 intro pins s σ H Q I hw
 refine isTrue_plain (aI (h pins s σ H _ I hw) fun v s1 ⟨x,H1,I1,r1,q1⟩=>?_) (he _)
 obtain ⟨d,rfl,q⟩:=q1
 cases r1
 exact aj4 ⟨H1,I1,q⟩
variable {tA tB' : TT} {bS : List Expr}
def pI (t u:TT):TT:=fun σ H Q=>t σ H fun c H1=>if c=true then u σ H1 Q else Q false H1
def pJ (t u:TT):TT:=fun σ H Q=>t σ H fun c H1=>if c=true then Q true H1 else u σ H1 Q
def pK (t:TT):TT:=fun σ H Q=>t σ H fun c H1=>Q (!c) H1
theorem wM (ha:PT X a tA):PW X (.BoolOp .And [a] pos) tA:=by
 intro wh pins s σ H Q I h
 refine isTrue_and (aI (ha pins s σ H Q I h) fun c s1 e=>?_)
 cases c with
 | true=>exact isTrue_and_nil e
 | false=>exact e
theorem wN (ha:PT X a tA):PW X (.BoolOp .Or [a] pos) tA:=by
 intro wh pins s σ H Q I h
 refine isTrue_or (aI (ha pins s σ H Q I h) fun c s1 e=>?_)
 cases c with
 | false=>exact isTrue_or_nil e
 | true=>exact e
theorem wO (ha:PT X a tA) (hb:PW X (.BoolOp .And (b :: bS) pos) tB'):PW X (.BoolOp .And (a :: b :: bS) pos) (pI tA tB'):=by
 intro wh pins s σ H Q I h
 refine isTrue_and (aI (ha pins s σ H _ I h) fun c s1 ⟨H1,I1,q1⟩=>?_)
 cases c with
 | true=>exact hb wh pins s1 σ H1 Q I1 q1
 | false=>exact⟨H1,I1,q1⟩
theorem wP (ha:PT X a tA) (hb:PW X (.BoolOp .Or (b :: bS) pos) tB'):PW X (.BoolOp .Or (a :: b :: bS) pos) (pJ tA tB'):=by
 intro wh pins s σ H Q I h
 refine isTrue_or (aI (ha pins s σ H _ I h) fun c s1 ⟨H1,I1,q1⟩=>?_)
 cases c with
 | true=>exact⟨H1,I1,q1⟩
 | false=>exact hb wh pins s1 σ H1 Q I1 q1
theorem wQ (ha:PT X a tA):PT X (.UnaryOp .Not a pos) (pK tA):=by
 intro pins s σ H Q I h
 exact isTrue_not (ha pins s σ H (fun c H1=>Q (!c) H1) I h)
def pL (ta tb:TE):TE:=fun σ H Q=>ta σ H fun x H1=>∃ c,x = .bl c/\if c=true then tb σ H1 Q else Q (.bl false) H1
def pM (ta:TE):TE:=fun σ H Q=>ta σ H fun x H1=>∃ c,x = .bl c/\Q (.bl (!c)) H1
theorem wR {op}{t:TE} (h:PE X a t):PE X (.BoolOp op [a] pos) t:=fun pins s σ H Q I hw=>BoolOp_one (h pins s σ H Q I hw)
theorem wS (ha:PE X a ta) (hb:PE X (.BoolOp .And (b :: bS) pos) tb):PE X (.BoolOp .And (a :: b :: bS) pos) (pL ta tb):=by
 intro pins s σ H Q I h
 refine BoolOp_and (aI (ha pins s σ H _ I h) fun v s1 ⟨x,H1,I1,r1,q1⟩=>?_)
 obtain ⟨c,rfl,q1⟩:=q1
 cases r1
 refine aj4 ?_
 cases c with
 | true=>exact hb pins s1 σ H1 Q I1 q1
 | false=>exact⟨.bl false,H1,I1,rfl,q1⟩
theorem wT (ha:PE X a ta):PE X (.UnaryOp .Not a pos) (pM ta):=by
 intro pins s σ H Q I h
 refine UnaryOp_ (aI (ha pins s σ H _ I h) fun v s1 ⟨x,H1,I1,r1,q1⟩=>?_)
 obtain ⟨c,rfl,q1⟩:=q1
 cases r1
 exact not_of (aj4 ⟨.bl (!c),H1,I1,rfl,q1⟩)
end
def aM (K:PySem.W.Frag) (H:Hp) (a:Addr) (xs:List V):Prop:=
 Rd H a (.lst xs) ∨
  ∃ (o:Obj) (its:Array Value) (n:Nat),K.lookup a=some o/\o.cls = .type "list"/\o.dict=none/\o.data = .seq its n/\its.size<=sizeLine/\aH xs its.toList
def aO (K:PySem.W.Frag) (H:Hp) (a:Addr) (xs:List V):Prop:=
 Rd H a (.tup xs) ∨
  ∃ (o:Obj) (its:Array Value) (n:Nat),K.lookup a=some o/\o.cls = .type "tuple"/\o.data = .seq its n/\its.size<=sizeLine/\aH xs its.toList
def wU:Value->Option V
 | .none=>some .non
 | .bool b=>some (.bl b)
 | .int i _=>some (.int i)
 | .str x _=>some (.str x)
 | .bytes b _=>some (.byt b)
 | .float b _=>some (.flt b)
 | .ref a=>some (.ref a)
 | .type n=>some (.ty n)
 | _=>none
theorem aP.abs {x:V}{u:Value} (r:aP x u):wU u=some x:=by
 cases x with
 | non=>cases r; rfl
 | bl _=>cases r; rfl
 | int _=>obtain ⟨t,rfl⟩:=r; rfl
 | str _=>obtain ⟨t,rfl⟩:=r; rfl
 | byt _=>obtain ⟨t,rfl⟩:=r; rfl
 | flt _=>obtain ⟨t,rfl⟩:=r; rfl
 | ref _=>cases r; rfl
 | ty _=>cases r; rfl
theorem aP.inj {x y:V}{u:Value} (r:aP x u) (q:aP y u):x=y:=ae6 (r.abs.symm.trans q.abs)
theorem aH.inj:∀ {xs ys:List V}{us:List Value},aH xs us->aH ys us->xs=ys
 | _,_,_,.nil,.nil=>rfl
 | _,_,_,.cons r t,.cons r' t'=>by rw [r.inj r',aH.inj t t']
section
variable {X : Cx} {pins : List (Addr × Obj)} {σ : St} {H : Hp} {s : Shared} {a : Addr} {xs ys : List V}
theorem aM.of {K:PySem.W.Frag} (h:H a=some (.lst xs)):aM K H a xs:=.inl (.inl h)
theorem aO.of {K:PySem.W.Frag} (h:H a=some (.tup xs)):aO K H a xs:=.inl (.inl h)
theorem a5.list (I:a5 X pins σ H s) (h:aM X.K H a xs):∃ its:List Value,aH xs its/\PlainL s.heap a its.toArray/\xs.length<=sizeLine:=by
 rcases h with h | ⟨o,its,n,hk,hc,hd,hs,hz,r⟩
 ·obtain ⟨z,its,n,r,e⟩:=h.ok I.hok
  exact⟨its,r,⟨_,n,e,rfl,rfl,rfl⟩,z⟩
 ·refine⟨its.toList,r,⟨o,n,I.kIn a o hk,hc,hd,by simpa using hs⟩,?_⟩
  have e:=r.length
  simp only [ai8] at e
  omega
theorem a5.tuple (I:a5 X pins σ H s) (h:aO X.K H a xs):∃ its:List Value,aH xs its/\IsTup s.heap a its.toArray/\xs.length<=sizeLine:=by
 rcases h with h | ⟨o,its,n,hk,hc,hs,hz,r⟩
 ·obtain ⟨z,its,r,p,_⟩:=h.ok I.hok
  exact⟨its,r,p,z⟩
 ·refine⟨its.toList,r,⟨o,I.kIn a o hk,hc,n,by simpa using hs⟩,?_⟩
  have e:=r.length
  simp only [ai8] at e
  omega
theorem a5.list_inj (I:a5 X pins σ H s) (h:aM X.K H a xs) (h':aM X.K H a ys):xs=ys:=by
 obtain ⟨its,r,⟨o,n,e,_,_,d⟩,_⟩:=I.list h
 obtain ⟨its',r',⟨o',n',e',_,_,d'⟩,_⟩:=I.list h'
 rw [e] at e'; cases e'
 rw [d] at d'
 injection d' with d1 _
 have:its=its':=by simpa using congrArg Array.toList d1
 subst this
 exact r.inj r'
theorem a5.tuple_inj (I:a5 X pins σ H s) (h:aO X.K H a xs) (h':aO X.K H a ys):xs=ys:=by
 obtain ⟨its,r,⟨o,e,_,n,d⟩,_⟩:=I.tuple h
 obtain ⟨its',r',⟨o',e',_,n',d'⟩,_⟩:=I.tuple h'
 rw [e] at e'; cases e'
 rw [d] at d'
 injection d' with d1 _
 have:its=its':=by simpa using congrArg Array.toList d1
 subst this
 exact r.inj r'
end
abbrev Cx.wish (X:Cx) (E:Value->Shared->Prop):Cx:={ X with xe:=E }
abbrev Cx.nox (X:Cx):Cx:=X.wish fun _ _=>False
theorem Cx.Ok.wish {X:Cx} (ok:X.Ok) (E:Value->Shared->Prop):(X.wish E).Ok:=
 ⟨ok.mod,ok.kind,ok.glob,ok.blt,ok.above,ok.inj,ok.has,ok.cab,ok.hd,ok.frames,ok.stk,ok.exf,ok.bs,ok.bsz,ok.noex,ok.exfs,ok.funs,ok.frf⟩
theorem Cx.Ok.unwish {X:Cx}{E:Value->Shared->Prop} (ok:(X.wish E).Ok):X.Ok:=
 ⟨ok.mod,ok.kind,ok.glob,ok.blt,ok.above,ok.inj,ok.has,ok.cab,ok.hd,ok.frames,ok.stk,ok.exf,ok.bs,ok.bsz,ok.noex,ok.exfs,ok.funs,ok.frf⟩
section
variable {X : Cx} {pins : List (Addr × Obj)} {σ : St} {H : Hp} {s : Shared} {E : Value → Shared → Prop}
theorem a5.wish (I:a5 X pins σ H s) (E:Value->Shared->Prop):a5 (X.wish E) pins σ H s:=⟨I.ok.wish E,I.os,I.bare,I.base,I.loc,I.cell,I.free,I.freeC,I.pin,I.hok,I.len⟩
theorem a5.unwish (I:a5 (X.wish E) pins σ H s):a5 X pins σ H s:=⟨I.ok.unwish,I.os,I.bare,I.base,I.loc,I.cell,I.free,I.freeC,I.pin,I.hok,I.len⟩
theorem SP.unwish {D:cH}{f:Flow}{s':Shared} (h:SP (X.wish E) pins D f s'):SP X pins D f s':=by
 cases f with
 | next=>obtain ⟨σ',H',I,q⟩:=h; exact⟨σ',H',I.unwish,q⟩
 | brk=>obtain ⟨σ',H',I,q⟩:=h; exact⟨σ',H',I.unwish,q⟩
 | cont=>obtain ⟨σ',H',I,q⟩:=h; exact⟨σ',H',I.unwish,q⟩
 | ret u=>obtain ⟨v,σ',H',I,r,q⟩:=h; exact⟨v,σ',H',I.unwish,r,q⟩
theorem cC.nox {st:List Stmt}{t:TS} (h:cC X.nox st t):cC X st t:=fun pins s σ H D I hw=>
 ai7 (h pins s σ H D (I.wish _) hw) (fun _ _ q=>q.unwish) fun _ _ z=>False.elim z
end
section
variable {X : Cx} {st : Stmt} {bS : List Stmt} {t u : TS} {e : Expr} {te : TE} {pos : Pos}
def pN:TS:=fun D σ H=>D.nx σ H
def pO (t u:TS):TS:=fun D σ H=>t { D with nx:=u D } σ H
theorem wV:cC X [] pN:=fun _ _ σ H _ I h=>wpAny_execs_nil ⟨σ,H,I,h⟩
theorem wW (h1:PS X st t) (h2:cC X bS u):cC X (st :: bS) (pO t u):=by
 intro pins s σ H D I h
 refine wpAny_execs_cons (aI (h1 pins s σ H { D with nx:=u D } I h) fun f s1 q=>?_)
 cases f with
 | next=>
  obtain ⟨σ',H',I',q⟩:=q
  exact h2 pins s1 σ' H' D I' q
 | ret v=>exact q
 | brk=>exact q
 | cont=>exact q
theorem wX (h1:PS X st t):cC X [st] t:=by
 intro pins s σ H D I h
 refine wpAny_execs_cons (aI (h1 pins s σ H D I h) fun f s1 q=>?_)
 cases f with
 | next=>exact wpAny_execs_nil q
 | ret v=>exact q
 | brk=>exact q
 | cont=>exact q
theorem a5.quiet {pins:List (Addr × Obj)}{σ:St}{H:Hp}{s:Shared} (I:a5 X pins σ H s):interactive X.env=false:=by simp [interactive,I.ok.kind]
def pP (te:TE):TS:=fun D σ H=>te σ H fun _ H1=>D.nx σ H1
theorem wY (he:PE X e te) (hs:swapsWith e none pos.line X.env=pure false:=by rfl):PS X (.Expr e pos) (pP te):=by
 intro pins s σ H D I h
 exact wpAny_Expr_any (aI (he pins s σ H _ I h) fun v s1 ⟨x,H1,I1,r1,q1⟩=>⟨σ,H1,I1,q1⟩) I.quiet hs
def m5 (te:TE):TS:=fun D σ H=>te σ H D.rt
theorem pQ (he:PE X e te):PS X (.Return (some e) pos) (m5 te):=by
 intro pins s σ H D I h
 exact wpAny_Return_some (aI (he pins s σ H _ I h) fun v s1 ⟨x,H1,I1,r1,q1⟩=>⟨x,σ,H1,I1,r1,q1⟩)
def pR (c:TT) (t u:TS):TS:=fun D σ H=>c σ H fun b H1=>if b=true then t D σ H1 else u D σ H1
theorem wZ {c:Expr}{a b:List Stmt}{tc:TT} (hc:PT X c tc) (ha:cC X a t) (hb:cC X b u):PS X (.If c a b pos) (pR tc t u):=by
 intro pins s σ H D I h
 refine wpAny_If (aI (hc pins s σ H _ I h) fun d s1 ⟨H1,I1,q1⟩=>?_)
 cases d with
 | true=>exact ha pins s1 σ H1 D I1 q1
 | false=>exact hb pins s1 σ H1 D I1 q1
def x3:TS:=fun _ _ _=>False
theorem x4:PS X st x3:=fun _ _ _ _ _ _ h=>h.elim
end
abbrev TG:=V->St->Hp->(St->Hp->Prop)->Prop
abbrev gJ:=List V->St->Hp->(St->Hp->Prop)->Prop
def PG (X:Cx) (target:Expr) (t:TG):Prop:=
 ∀ (pins:List (Addr × Obj)) (s:Shared) (σ:St) (H:Hp) (v:V) (u:Value) (Q:St->Hp->Prop),a5 X pins σ H s->aP v u->t v σ H Q->
  wpAny (model X.prog X.w) X.A (assign target X.env u) (fun _ s'=>∃ σ' H',a5 X pins σ' H' s'/\Q σ' H') X.xe s
def jS (X:Cx) (ts:List Expr) (t:gJ):Prop:=
 ∀ (pins:List (Addr × Obj)) (s:Shared) (σ:St) (H:Hp) (vs:List V) (us:List Value) (Q:St->Hp->Prop),a5 X pins σ H s->aH vs us->t vs σ H Q->
  wpAny (model X.prog X.w) X.A (assignInOrder ((assignEach ts X.env).map (·.2)) us) (fun _ s'=>∃ σ' H',a5 X pins σ' H' s'/\Q σ' H') X.xe s
section
variable {X : Cx} {pos : Pos}
def cD (i:Nat):TG:=fun v σ H Q=>Q (σ.set i (some v)) H
theorem jT {i:Nat}{x:Str} (hN:X.N.Nodup) (hi:X.N[i]? = some x) (hx:gI X.env.scope x) (hf:X.fn x=true ∨ X.env.scope.names.lookup x=some .local:=by first | exact .inl rfl | exact .inr rfl | assumption):PG X (.Name x pos) (cD i):=by
 intro pins s σ H v u Q I r h
 exact wpAny_assign_Name (pF I hN hi hx r (fun s' I'=>⟨_,H,I',h⟩) hf)
def jU:gJ:=fun vs σ H Q=>vs = []/\Q σ H
def gK (t:TG) (u:gJ):gJ:=fun vs σ H Q=>∃ v r,vs=v :: r/\t v σ H fun σ' H'=>u r σ' H' Q
theorem x5:jS X [] jU:=by
 intro pins s σ H vs us Q I r h
 obtain ⟨e,h⟩:=h
 subst e
 cases r
 exact assignInOrder_nil ⟨σ,H,I,h⟩
theorem pS {e:Expr}{es:List Expr}{t:TG}{u:gJ} (h1:PG X e t) (h2:jS X es u)
  (hs:(assignEach (e :: es) X.env).map (·.2)=assign e X.env :: (assignEach es X.env).map (·.2):=by rfl):jS X (e :: es) (gK t u):=by
 intro pins s σ H vs us Q I r h
 obtain ⟨v,vr,e1,h⟩:=h
 subst e1
 cases r with
 | cons r rr=>
  rw [hs]
  refine assignInOrder_cons (aI (h1 pins s σ H _ _ _ I r h) fun _ s1 ⟨σ1,H1,I1,q1⟩=>?_)
  exact h2 pins s1 σ1 H1 _ _ Q I1 rr q1
def jV (K:PySem.W.Frag) (n:Nat) (t:gJ):TG:=fun v σ H Q=>∃ a xs,v = .ref a/\aO K H a xs/\xs.length=n/\t xs σ H Q
theorem x6 {es:List Expr}{k:Nat}{t:gJ}{n:Nat} (hc:X.calm=true) (h:jS X es t)
  (hn:(assignEach es X.env).length=n:=by rfl) (hst:(assignEach es X.env).findIdx? (·.1)=none:=by rfl):PG X (.Tuple es k pos) (jV X.K n t):=by
 intro pins s σ H v u Q I r hw
 obtain ⟨a,xs,e1,hq,hl,hw⟩:=hw
 subst e1
 cases r
 obtain ⟨its,rv,ht,hz⟩:=I.tuple hq
 refine assign_Tuple_tuple (I.ok.hd hc) ht (by simp [hn,<- hl,rv.length]) hst fun h' hx=>?_
 have I1:a5 X pins σ H { s with heap:=h' }:=I.kept (t':=s.toks) fun b o e=>hx b o (af7 (ad8 e)) e
 exact h pins _ σ H xs _ Q I1 (by simpa using rv) hw
def jW (te:TE) (g:TG):TS:=fun D σ H=>te σ H fun x H1=>g x σ H1 D.nx
theorem pT {i:Nat}{x:Str}{e:Expr}{te:TE}{pos':Pos} (hN:X.N.Nodup) (hi:X.N[i]? = some x) (hx:gI X.env.scope x) (he:PE X e te) (hs:swapsWith e (some (.Name x pos')) pos.line X.env=pure false:=by rfl) (hf:X.fn x=true ∨ X.env.scope.names.lookup x=some .local:=by first | exact .inl rfl | exact .inr rfl | assumption) :
  PS X (.Assign [.Name x pos'] e pos) (jW te (cD i)):=by
 intro pins s σ H D I h
 refine wpAny_Assign_Name (aI (he pins s σ H _ I h) fun v s1 ⟨y,H1,I1,r1,q1⟩=>?_) hs
 exact pF I1 hN hi hx r1 (fun s2 I2=>⟨_,H1,I2,q1⟩) hf
end
structure It where
 go:Nat->Hp->Prop
 yld:Nat->Hp->V->Hp->Prop
 stop:Nat->Hp->Prop
def cQ (X:Cx) (pins:List (Addr × Obj)) (H:Hp) (b:Addr):Prop:=
 H b=none/\b ≠ X.env.locals/\b ∉ X.fs/\(b ∈ X.ex ∨ X.s₀.heap.objs.size<=b)/\(∀ x c,X.env.cells.lookup x=some c->c ≠ b)/\∀ p ∈ X.pn ++ pins,p.1 ≠ b
theorem a5.fpOk {X:Cx}{pins:List (Addr × Obj)}{σ:St}{H H':Hp}{s:Shared}{b:Addr} (I:a5 X pins σ H s) (hb:s.heap.objs.size<=b) (hn:H' b=none):cQ X pins H' b:=by
 refine⟨hn,aj8 (ad4 I.lt hb),I.nofs hb,.inr (ag1 I.sz hb),fun x c e z=>?_,fun p hp z=>?_⟩
 ·obtain ⟨v,q⟩:=I.cell x c e
  exact absurd (ad4 q.lt (by rw [z]; exact hb)) (ag3 _)
 ·exact absurd (ad4 (ad8 (I.pin p hp).1) (by rw [z]; exact hb)) (ag3 _)
structure eR (P:Program) (w:World) (K:PySem.W.Frag) (tg:Expr) (J:It) (fp:List Addr) (it:Addr) (tn:Nat->Heap->Prop):Prop where
 mem:it ∈ fp
 obj:∀ i h,tn i h->∀ b ∈ fp,∃ o,h.get? b=some o/\∀ v,o.data ≠ .cell v
 keep:∀ i h h',tn i h->(∀ b ∈ fp,∀ o,h.get? b=some o->h'.get? b=some o)->tn i h'
 item:∀ (X:Cx),X.prog=P->X.w=w->X.K=K->X.calm=true->∀ (i:Nat) (pins:List (Addr × Obj)) (s:Shared) (σ:St) (H:Hp) (E:Value->Shared->Prop),a5 X pins σ H s->(∀ b ∈ fp,cQ X pins H b)->tn i s.heap->J.go i H->
  wpAny (model P w) X.A (pyNext (.ref it)) (fun r s1=>∃ u,r=some u/\
   wpAny (model P w) X.A (letOwnedTupleGo tg (.ref it) u) (fun _ s2=>∃ x H',a5 X pins σ H' s2/\aP x u/\J.yld i H x H'/\tn (i+1) s2.heap/\∀ b ∈ fp,H' b=none) E s1) E s
 done:∀ (X:Cx),X.prog=P->X.w=w->X.K=K->X.calm=true->∀ (i:Nat) (pins:List (Addr × Obj)) (s:Shared) (σ:St) (H:Hp) (E:Value->Shared->Prop),a5 X pins σ H s->(∀ b ∈ fp,cQ X pins H b)->tn i s.heap->J.stop i H->
  wpAny (model P w) X.A (pyNext (.ref it)) (fun r s1=>r=none/\a5 X pins σ H s1) E s
 self:∀ (A:Around) (i:Nat) (s:Shared) (Q:Value->Shared->Prop) (E:Value->Shared->Prop),tn i s.heap->Q (.ref it) s->wpAny (model P w) A (pyIter (.ref it)) Q E s
abbrev TI:=St->Hp->(It->Hp->Prop)->Prop
def pU (X:Cx) (pins:List (Addr × Obj)) (σ:St) (tg:Expr) (R:It->Hp->Prop) (itv:Value) (s2:Shared):Prop:=
 ∃ (it:Addr) (fp:List Addr) (tn:Nat->Heap->Prop) (J:It) (H':Hp),itv = .ref it/\a5 X pins σ H' s2/\eR X.prog X.w X.K tg J fp it tn/\tn 0 s2.heap/\(∀ b ∈ fp,cQ X pins H' b)/\R J H'
def PI (X:Cx) (tg iter:Expr) (wi:TI):Prop:=
 ∀ (pins:List (Addr × Obj)) (s:Shared) (σ:St) (H:Hp) (R:It->Hp->Prop),a5 X pins σ H s->wi σ H R->
  wpAny (model X.prog X.w) X.A (eval iter X.env) (fun v s1=>wpAny (model X.prog X.w) X.A (pyIter v) (pU X pins σ tg R) X.xe s1) X.xe s
theorem jX {M:Model}{A:Around}{E:Value->Shared->Prop}{s:Shared}{tg:Expr}{it:Addr}{u:Value}{o:Obj}{n:String}{vs:Array Value}{Q:Unit->Shared->Prop} (ho:s.heap.get? it=some o) (hc:o.cls = .type n) (hd:o.data = .fields vs)
    (hn : ["enumerate","zip","dict_itemiterator","dict_reverseitemiterator","odict_iterator","itertools.zip_longest","itertools.pairwise"].contains n=false) (hQ:Q () s):wpAny M A (letOwnedTupleGo tg (.ref it) u) Q E s:=by
  unfold letOwnedTupleGo
  cases tg <;> first
    | exact ad3 hQ
    | (cases u <;> first
        | exact ad3 hQ
        | (refine ac9 (wpAny_load ho ?_)
           rw [hc,hd]
           show wpAny M A (if (["enumerate","zip","dict_itemiterator","dict_reverseitemiterator","odict_iterator","itertools.zip_longest","itertools.pairwise"].contains n && vs[0]? == some (rawInt _))=true then _ else _) Q E s
           rw [if_neg (by intro h; rw [hn,Bool.false_and] at h; cases h)]
           exact ad3 hQ))
def m6 (K:PySem.W.Frag) (a:Addr):It:=
 ⟨fun i H=>∃ xs x,aM K H a xs/\xs[i]? = some x,fun i H x H'=>H'=H/\∀ xs,aM K H a xs->xs[i]? = some x,fun i H=>∃ xs,aM K H a xs/\xs.length<=i⟩
def m7 (K:PySem.W.Frag) (a:Addr):It:=
 ⟨fun i H=>∃ xs x,aO K H a xs/\xs[i]? = some x,fun i H x H'=>H'=H/\∀ xs,aO K H a xs->xs[i]? = some x,fun i H=>∃ xs,aO K H a xs/\xs.length<=i⟩
def iW (lo:Int) (n:Nat):It:=⟨fun i _=>i < n,fun i H x H'=>H'=H/\x = .int (lo+i),fun i _=>n<=i⟩
theorem x8 {P:Program}{w:World}{K:PySem.W.Frag}{tg:Expr} (a it:Addr):eR P w K tg (m6 K a) [it] it (fun i h=>h.IsListIter it a i) where
 mem:=by simp
 obj:=fun i h st b hb=>by
  have e:b=it:=by simpa using hb
  subst e
  obtain ⟨o,e,c,d⟩:=st
  exact⟨o,e,fun v z=>by rw [d] at z; cases z⟩
 keep:=fun i h h' st k=>st.at fun o e=>k it (by simp) o e
 item:=by
  intro X hP hw hK hc i pins s σ H E I hf st hg
  subst hP hw hK
  obtain ⟨xs,x,hq,hx⟩:=hg
  obtain ⟨its,rv,p,hz⟩:=I.list hq
  obtain ⟨u,hu,ru⟩:=rv.get hx
  obtain ⟨f0,f1,f2,f3,f4,f5⟩:=hf it (by simp)
  refine wpAny_pyNext_list_item st p.isList (x:=u) (by simpa using hu) fun h' st' sb=>?_
  have I1:a5 X pins σ H { s with heap:=h' }:=I.turned (t':=s.toks) (fun b o hb e=>(sb.2 b hb).trans e) f0 f1 f3 f4 f5
  obtain ⟨o,e,c,d⟩:=id st'
  exact⟨u,rfl,jX (s:={ s with heap:=h' }) e c d (by decide) ⟨x,H,I1,ru,⟨rfl,fun ys hy=>by rw [I.list_inj hy hq]; exact hx⟩,st',fun b hb=>(hf b hb).1⟩⟩
 done:=by
  intro X hP hw hK hc i pins s σ H E I hf st hg
  subst hP hw hK
  obtain ⟨xs,hq,hx⟩:=hg
  obtain ⟨its,rv,p,hz⟩:=I.list hq
  obtain ⟨f0,f1,f2,f3,f4,f5⟩:=hf it (by simp)
  have hl:=rv.length
  exact wpAny_pyNext_list_end (I.ok.hd hc) st p.isList (by simp; omega) fun h' eb=>⟨rfl,I.turned (t':=s.toks) (fun b o hb e=>eb b o hb e) f0 f1 f3 f4 f5⟩
 self:=fun _ _ _ _ _ st h=>wpAny_pyIter_listiter st h
theorem x9 {P:Program}{w:World}{K:PySem.W.Frag}{tg:Expr} (a it:Addr):eR P w K tg (m7 K a) [it] it (fun i h=>h.IsTupleIter it a i) where
 mem:=by simp
 obj:=fun i h st b hb=>by
  have e:b=it:=by simpa using hb
  subst e
  obtain ⟨o,e,c,d⟩:=st
  exact⟨o,e,fun v z=>by rw [d] at z; cases z⟩
 keep:=fun i h h' st k=>st.at fun o e=>k it (by simp) o e
 item:=by
  intro X hP hw hK hc i pins s σ H E I hf st hg
  subst hP hw hK
  obtain ⟨xs,x,hq,hx⟩:=hg
  obtain ⟨its,rv,p,hz⟩:=I.tuple hq
  obtain ⟨u,hu,ru⟩:=rv.get hx
  obtain ⟨f0,f1,f2,f3,f4,f5⟩:=hf it (by simp)
  refine wpAny_pyNext_tuple_item st (show s.heap.IsTuple a its.toArray from p) (x:=u) (by simpa using hu) fun h' st' sb=>?_
  have I1:a5 X pins σ H { s with heap:=h' }:=I.turned (t':=s.toks) (fun b o hb e=>(sb.2 b hb).trans e) f0 f1 f3 f4 f5
  obtain ⟨o,e,c,d⟩:=id st'
  exact⟨u,rfl,jX (s:={ s with heap:=h' }) e c d (by decide) ⟨x,H,I1,ru,⟨rfl,fun ys hy=>by rw [I.tuple_inj hy hq]; exact hx⟩,st',fun b hb=>(hf b hb).1⟩⟩
 done:=by
  intro X hP hw hK hc i pins s σ H E I hf st hg
  subst hP hw hK
  obtain ⟨xs,hq,hx⟩:=hg
  obtain ⟨its,rv,p,hz⟩:=I.tuple hq
  obtain ⟨f0,f1,f2,f3,f4,f5⟩:=hf it (by simp)
  have hl:=rv.length
  exact wpAny_pyNext_tuple_end (I.ok.hd hc) st (show s.heap.IsTuple a its.toArray from p) (by simp; omega) fun h' eb=>⟨rfl,I.turned (t':=s.toks) (fun b o hb e=>eb b o hb e) f0 f1 f3 f4 f5⟩
 self:=fun _ _ _ _ _ st h=>wpAny_pyIter_tupleiter st h
theorem xA {P:Program}{w:World}{K:PySem.W.Frag}{tg:Expr} (it:Addr) (lo:Int) (n:Nat):eR P w K tg (iW lo n) [it] it (fun i h=>IsRangeIter h it (lo+(i:Nat) * 1) ((n:Int) - (i:Nat)) 1) where
 mem:=by simp
 obj:=fun i h st b hb=>by
  have e:b=it:=by simpa using hb
  subst e
  exact⟨_,st,fun v z=>by
   have z':Data.fields _=Data.cell v:=z
   cases z'⟩
 keep:=fun i h h' st k=>k it (by simp) _ st
 item:=by
  intro X hP hw hK hc i pins s σ H E I hf st hg
  subst hP hw hK
  obtain ⟨f0,f1,f2,f3,f4,f5⟩:=hf it (by simp)
  have W:=Walks.range (prog:=X.prog) (w:=X.w) (I.ok.hd hc) it lo 1 n
  refine W.item i s _ _ hg st fun v h' tk hv st' kk=>?_
  obtain ⟨t,rfl⟩:=hv
  have I1:a5 X pins σ H { s with heap:=h',toks:=tk }:=I.turned (fun b o hb e=>kk b o (by simpa using hb) e) f0 f1 f3 f4 f5
  refine⟨_,rfl,jX (s:={ s with heap:=h',toks:=tk }) (n:="range_iterator") st' rfl rfl (by decide) ⟨.int (lo+i),H,I1,⟨t,?_⟩,⟨rfl,rfl⟩,st',fun b hb=>(hf b hb).1⟩⟩
  rw [Int.mul_one]
 done:=by
  intro X hP hw hK hc i pins s σ H E I hf st hg
  subst hP hw hK
  obtain ⟨f0,f1,f2,f3,f4,f5⟩:=hf it (by simp)
  exact wpAny_pyNext_range_end (I.ok.hd hc) st (by have:n<=i:=hg; omega) fun h' eb=>⟨rfl,I.turned (t':=s.toks) (fun b o hb e=>eb b o hb e) f0 f1 f3 f4 f5⟩
 self:=fun _ _ _ _ _ st h=>wpAny_pyIter_rangeiter st h
section
variable {X : Cx} {tg : Expr}
theorem pV {pins:List (Addr × Obj)}{σ:St}{H:Hp}{s:Shared}{R:It->Hp->Prop}{E:Value->Shared->Prop}{lo hi:Int}{t u v:Tok}{tk:Nat} (I:a5 X pins σ H s) (h1 : -(2 ^ 62)<=lo) (h2:lo < 2 ^ 62) (h3 : -(2 ^ 62)<=hi) (h4:hi < 2 ^ 62)
  (q:R (iW lo (hi - lo).toNat) H):wpAny (model X.prog X.w) X.A (pyIter (.ref s.heap.objs.size)) (pU X pins σ tg R) E { s with heap:=s.heap.push { cls:=.type "range",data:=.fields #[.int lo t,.int hi u,.int 1 v] },toks:=tk }:=by
 refine wpAny_pyIter_range (IsRange.new ..) (small_one h1 h2 h3 h4) ?_
 have I1:a5 X pins σ H { s with heap:=s.heap.push { cls:=.type "range",data:=.fields #[.int lo t,.int hi u,.int 1 v] },toks:=tk }:=I.kept fun b o e=>ad0 _ e
 refine⟨(s.heap.push { cls:=.type "range",data:=.fields #[.int lo t,.int hi u,.int 1 v] }).objs.size,[(s.heap.push { cls:=.type "range",data:=.fields #[.int lo t,.int hi u,.int 1 v] }).objs.size],_,_,H,rfl,
  I1.kept (t':=tk) fun b o e=>ad0 _ e,xA _ lo (hi - lo).toNat,?_,fun b hb=>?_,q⟩
 ·have e1:lo+((0:Nat):Int) * 1=lo:=by simp
  have e2:(((hi - lo).toNat:Nat):Int) - ((0:Nat):Int)=Builtin.Range.rangeSize lo hi 1:=by rw [rangeSize_one]; split <;> omega
  show IsRangeIter _ _ (lo+((0:Nat):Int) * 1) ((((hi - lo).toNat:Nat):Int) - ((0:Nat):Int)) 1
  rw [e1,e2]
  exact ae1 _ rfl
 ·have e:b=(s.heap.push { cls:=.type "range",data:=.fields #[.int lo t,.int hi u,.int 1 v] }).objs.size:=by simpa using hb
  subst e
  exact I1.fpOk (ad6 _) (I1.hok.fresh (ad6 _))
def pW (ta:TA):TI:=fun σ H R=>ta σ H fun vs H1=>∃ j:Int,vs = [.int j]/\-(2 ^ 62)<=j/\j < 2 ^ 62/\R (iW 0 j.toNat) H1
def pX (ta:TA):TI:=fun σ H R=>ta σ H fun vs H1=>∃ i j:Int,vs = [.int i,.int j]/\(-(2 ^ 62)<=i/\i < 2 ^ 62/\-(2 ^ 62)<=j/\j < 2 ^ 62)/\R (iW i (j - i).toNat) H1
theorem xB {a:Expr}{ta:TA}{p pos:Pos} (hg:Gl X "range") (hm:X.mg "range" = none) (ha:PA X [a] ta) (hs:starEach [a] X.env = [(false,eval a X.env)]:=by rfl):PI X tg (.Call (.Name "range" p) [a] [] pos) (pW ta):=by
 intro pins s σ H R I h
 refine Call_ (i4 I hg hm boot_range (aj9 (aI (ha pos pins s σ H _ I h) fun us s1 ⟨vs,H1,I1,r1,q1⟩=>?_) hs rfl))
 obtain ⟨j,e,q1,q2,q⟩:=q1
 subst e
 cases r1 with
 | cons r rr=>
  cases rr
  obtain ⟨t,rfl⟩:=r
  exact call_range_1 (pV I1 (by omega) (by omega) q1 q2 (by simpa using q))
theorem xC {a b:Expr}{ta:TA}{p pos:Pos} (hg:Gl X "range") (hm:X.mg "range" = none) (ha:PA X [a,b] ta) (hs:starEach [a,b] X.env = [(false,eval a X.env),(false,eval b X.env)]:=by rfl) (hs2:starEach [b] X.env = [(false,eval b X.env)]:=by rfl) :
  PI X tg (.Call (.Name "range" p) [a,b] [] pos) (pX ta):=by
 intro pins s σ H R I h
 refine Call_ (i4 I hg hm boot_range (aj9 (aI (ha pos pins s σ H _ I h) fun us s1 ⟨vs,H1,I1,r1,q1⟩=>?_) (by rw [hs,hs2]) (by rw [hs2]; rfl)))
 obtain ⟨i,j,e,⟨q1,q2,q3,q4⟩,q⟩:=q1
 subst e
 cases r1 with
 | cons r rr=>
  cases rr with
  | cons r' rr=>
   cases rr
   obtain ⟨t,rfl⟩:=r
   obtain ⟨t',rfl⟩:=r'
   exact call_range_2 (pV I1 q1 q2 q3 q4 q)
def pY (wi:TI) (g:TG) (tb:TS):TS:=fun D σ H=>wi σ H fun J H1=>∃ W:Nat->Nat->St->Hp->Prop,(∃ m,W 0 m σ H1)/\∀ i m σ H,W i m σ H->
 (J.stop i H/\D.nx σ H) ∨ (J.go i H/\∃ N:St->Hp->Prop,(∀ σ' H',N σ' H'->∃ m',m' < m/\W (i+1) m' σ' H')/\∀ x H',J.yld i H x H'->g x σ H' fun σ2 H2=>tb { D with nx:=N,ct:=N,bk:=D.nx } σ2 H2)
def iX (fp:List Addr) (h:Heap):List (Addr × Obj):=fp.filterMap fun b=>(h.get? b).map fun o=>(b,o)
theorem jY {fp:List Addr}{h:Heap}{b:Addr}{o:Obj} (hb:b ∈ fp) (e:h.get? b=some o):(b,o) ∈ iX fp h:=List.mem_filterMap.mpr ⟨b,hb,by rw [e]; rfl⟩
theorem xD {fp:List Addr}{h:Heap}{p:Addr × Obj} (hp:p ∈ iX fp h):p.1 ∈ fp/\h.get? p.1=some p.2:=by
 obtain ⟨b,hb,e⟩:=List.mem_filterMap.mp hp
 cases q:h.get? b with
 | none=>rw [q] at e; cases e
 | some o=>
  rw [q] at e
  have e':(b,o)=p:=ae6 e
  subst e'
  exact⟨hb,q⟩
theorem a5.pinned {pins:List (Addr × Obj)}{σ:St}{H:Hp}{s:Shared}{fp:List Addr} (I:a5 X pins σ H s) (hf:∀ b ∈ fp,cQ X pins H b) (ho:∀ b ∈ fp,∃ o,s.heap.get? b=some o/\∀ v,o.data ≠ .cell v):a5 X (pins ++ iX fp s.heap) σ H s:=
 I.pins_of fun p hp=>(ag4.mp hp).elim (fun z=>I.pin p (af1 _ z)) fun z=>by
  obtain ⟨hb,e⟩:=xD z
  obtain ⟨f0,f1,f2,_⟩:=hf p.1 hb
  obtain ⟨o,e',d⟩:=ho p.1 hb
  rw [e] at e'; cases e'
  exact⟨e,f0,f1,f2,d⟩
theorem a5.unpinned {pins pl:List (Addr × Obj)}{σ:St}{H:Hp}{s:Shared} (I:a5 X (pins ++ pl) σ H s):a5 X pins σ H s:=I.pins_of fun p hp=>I.pin p (af1 _ (List.mem_append_left _ hp))
theorem xE {iter:Expr}{body:List Stmt}{wi:TI}{g:TG}{tb:TS}{pos:Pos} (hp:PassesOwn (model X.prog X.w) X.A X.env X.xe) (hc:X.calm=true) (hi:PI X tg iter wi) (hg:PG X tg g) (hb:cC X body tb)
  (hs:∀ x,foldedSetIterable iter X.env x=pure x:=by intro _; rfl):PS X (.For tg iter body [] pos) (pY wi g tb):=by
 intro pins s σ H D I h
 refine wpAny_For (aI (hi pins s σ H _ I h) fun v s1 h1=>aI h1 fun itv s2 h2=>?_) hs
 obtain ⟨it,fp,tn,J,H2,e,I2,T,st2,f2,W,⟨m0,w0⟩,turn⟩:=h2
 subst e
 have stat:∀ {H':Hp},(∀ b ∈ fp,H' b=none)->∀ b ∈ fp,cQ X pins H' b:=fun hn b hb=>⟨hn b hb,(f2 b hb).2⟩
 refine codeAny_forLoop_any (fun n s'=>∃ i σ' H',a5 X pins σ' H' s'/\tn i s'.heap/\(∀ b ∈ fp,H' b=none)/\W i n σ' H') ?_ m0 ⟨0,σ,H2,I2,st2,fun b hb=>(f2 b hb).1,w0⟩
 rintro n s3 ⟨i,σ3,H3,I3,st3,fr3,w3⟩
 rcases turn i n σ3 H3 w3 with ⟨stop,qn⟩ | ⟨go,N,hN,step⟩
 ·refine wpAny_passesOwn hp (aI (T.done X rfl rfl rfl hc i pins s3 σ3 H3 X.xe I3 (stat fr3) st3 stop) fun r s4 ⟨hr,I4⟩=>?_)
  subst hr
  exact wpAny_execs_nil ⟨σ3,H3,I4,qn⟩
 ·refine wpAny_passesOwn hp (aI (T.item X rfl rfl rfl hc i pins s3 σ3 H3 X.xe I3 (stat fr3) st3 go) fun r s4 ⟨u,hr,h4⟩=>?_)
  subst hr
  refine wpAny_passesOwn hp (aI h4 fun _ s5 ⟨x,H5,I5,r5,y5,st5,fr5⟩=>?_)
  have I5':=I5.pinned (stat fr5) (T.obj _ _ st5)
  refine wpAny_passesOwn hp (aI (hg _ s5 σ3 H5 x u _ I5' r5 (step x H5 y5)) fun _ s6 ⟨σ6,H6,I6,q6⟩=>?_)
  refine wpAny_passesOwn hp (aI (hb _ s6 σ6 H6 _ I6 q6) fun f s7 q7=>?_)
  have again:∀ {σ7:St}{H7:Hp},a5 X (pins ++ iX fp s5.heap) σ7 H7 s7->N σ7 H7->∃ m,m < n/\∃ i σ' H',a5 X pins σ' H' s7/\tn i s7.heap/\(∀ b ∈ fp,H' b=none)/\W i m σ' H':=fun {σ7 H7} I7 n7=>by
   obtain ⟨m',hm,w7⟩:=hN σ7 H7 n7
   refine⟨m',hm,i+1,σ7,H7,I7.unpinned,T.keep _ _ _ st5 fun b hb o e=>(I7.pin (b,o) (af1 _ (af1 _ (jY hb e)))).1,fun b hb=>?_,w7⟩
   obtain ⟨o,e,d⟩:=T.obj _ _ st5 b hb
   exact (I7.pin (b,o) (af1 _ (af1 _ (jY hb e)))).2.1
  cases f with
  | next=>obtain ⟨σ7,H7,I7,n7⟩:=q7; exact again I7 n7
  | cont=>obtain ⟨σ7,H7,I7,n7⟩:=q7; exact again I7 n7
  | brk=>obtain ⟨σ7,H7,I7,q7⟩:=q7; exact⟨σ7,H7,I7.unpinned,q7⟩
  | ret v=>obtain ⟨x7,σ7,H7,I7,r7,q7⟩:=q7; exact⟨x7,σ7,H7,I7.unpinned,r7,q7⟩
end
abbrev R2:=V->V->Hp->VK->Prop
def bM (X:Cx) (f:Value->Value->Sem Value) (r:R2):Prop:=
 ∀ (pins:List (Addr × Obj)) (s:Shared) (σ:St) (H:Hp) (x y:V) (v u:Value) (Q:VK),a5 X pins σ H s->aP x v->aP y u->r x y H Q->
  wpAny (model X.prog X.w) X.A (f v u) (EP X pins σ Q) X.xe s
def bW (X:Cx) (f:Value) (r:List V->Hp->VK->Prop):Prop:=
 ∀ (pins:List (Addr × Obj)) (s:Shared) (σ:St) (H:Hp) (xs:List V) (us:List Value) (Q:VK),a5 X pins σ H s->aH xs us->r xs H Q->
  wpAny (model X.prog X.w) X.A (call f us) (EP X pins σ Q) X.xe s
def xF (X:Cx) (r:V->Hp->(Bool->Hp->Prop)->Prop):Prop:=
 ∀ (pins:List (Addr × Obj)) (s:Shared) (σ:St) (H:Hp) (x:V) (v:Value) (Q:Bool->Hp->Prop),a5 X pins σ H s->aP x v->r x H Q->
  wpAny (model X.prog X.w) X.A (truthy v) (TP X pins σ Q) X.xe s
def iY (r:R2) (ta tb:TE):TE:=fun σ H Q=>ta σ H fun x H1=>tb σ H1 fun y H2=>r x y H2 Q
def rI (C:Int->Int->Prop) (g:Int->Int->V):R2:=fun x y H Q=>∃ i j,x = .int i/\y = .int j/\C i j/\Q (g i j) H
def e8 (g:Int->Int->V):R2:=fun x y H Q=>∃ i j,x = .int i/\y = .int j/\Q (g i j) H
section
variable {X : Cx} {a b c : Expr} {ta tb tc : TE} {pos : Pos}
theorem m8 (ha:PE X a ta) (hb:PE X b tb) {pins:List (Addr × Obj)}{s:Shared}{σ:St}{H:Hp}{R:V->V->Hp->Prop} (I:a5 X pins σ H s)
  (h:ta σ H fun x H1=>tb σ H1 fun y H2=>R x y H2) {Q:Value->Shared->Prop}{f:Value->Value->Sem Value}
  (hf:∀ v u s2 x y H2,a5 X pins σ H2 s2->aP x v->aP y u->R x y H2->wpAny (model X.prog X.w) X.A (f v u) Q X.xe s2) :
  wpAny (model X.prog X.w) X.A (eval a X.env) (fun v s₁=>wpAny (model X.prog X.w) X.A (eval b X.env) (fun u s₂=>wpAny (model X.prog X.w) X.A (f v u) Q X.xe s₂) X.xe s₁) X.xe s:=by
 refine aI (ha pins s σ H _ I h) fun v s1 ⟨x,H1,I1,r1,q1⟩=>?_
 refine aI (hb pins s1 σ H1 _ I1 q1) fun u s2 ⟨y,H2,I2,r2,q2⟩=>?_
 exact hf v u s2 x y H2 I2 r1 r2 q2
theorem xG {op:Operator}{r:R2} (ho:bM X (binaryOp op) r) (ha:PE X a ta) (hb:PE X b tb):PE X (.BinOp a op b pos) (iY r ta tb):=by
 intro pins s σ H Q I h
 exact wpAny_BinOp (m8 ha hb I h fun v u s2 x y H2 I2 rx ry q=>ho pins s2 σ H2 x y v u Q I2 rx ry q)
theorem m9 {f:Value->Value->Sem Value}{C:Int->Int->Prop}{g:Int->Int->Int}
  (rule:∀ (i j:Int) (t u:Tok) (s:Shared) (Q:Value->Shared->Prop) (E:Value->Shared->Prop),C i j->Q (.int (g i j) s.toks) { s with toks:=s.toks+1 }->wpAny (model X.prog X.w) X.A (f (.int i t) (.int j u)) Q E s) :
  bM X f (rI C fun i j=>.int (g i j)):=by
 intro pins s σ H x y v u Q I rx ry h
 obtain ⟨i,j,rfl,rfl,hc,q⟩:=h
 obtain ⟨t,rfl⟩:=rx
 obtain ⟨t',rfl⟩:=ry
 exact rule i j t t' s _ _ hc ⟨.int (g i j),H,I.tok _,⟨_,rfl⟩,q⟩
theorem pZ {f:Value->Value->Sem Value}{g:Int->Int->Int}
  (rule:∀ (i j:Int) (t u:Tok) (s:Shared) (Q:Value->Shared->Prop) (E:Value->Shared->Prop),Q (.int (g i j) s.toks) { s with toks:=s.toks+1 }->wpAny (model X.prog X.w) X.A (f (.int i t) (.int j u)) Q E s) :
  bM X f (e8 fun i j=>.int (g i j)):=by
 intro pins s σ H x y v u Q I rx ry h
 obtain ⟨i,j,rfl,rfl,q⟩:=h
 obtain ⟨t,rfl⟩:=rx
 obtain ⟨t',rfl⟩:=ry
 exact rule i j t t' s _ _ ⟨.int (g i j),H,I.tok _,⟨_,rfl⟩,q⟩
theorem mB {f:Value->Value->Sem Value}{g:Int->Int->Bool}
  (rule:∀ (i j:Int) (t u:Tok) (s:Shared) (Q:Value->Shared->Prop) (E:Value->Shared->Prop),Q (.bool (g i j)) s->wpAny (model X.prog X.w) X.A (f (.int i t) (.int j u)) Q E s) :
  bM X f (e8 fun i j=>.bl (g i j)):=by
 intro pins s σ H x y v u Q I rx ry h
 obtain ⟨i,j,rfl,rfl,q⟩:=h
 obtain ⟨t,rfl⟩:=rx
 obtain ⟨t',rfl⟩:=ry
 exact rule i j t t' s _ _ ⟨.bl (g i j),H,I,rfl,q⟩
def mC (i j:Int):Prop:=0 < j/\j < 1073741824
def iZ (i j:Int):Prop:=(-(2 ^ 64) < i/\i < 2 ^ 64) ∨ (-(2 ^ 64) < j/\j < 2 ^ 64)
theorem iZ.ok {i j:Int} (h:iZ i j):IntMulOk i j:=by
 rcases h with ⟨h1,h2⟩ | ⟨h1,h2⟩
 ·exact .of_left (intBits_le_64 h1 h2)
 ·exact .of_right (intBits_le_64 h1 h2)
theorem xH:bM X (binaryOp .Add) (e8 fun i j=>.int (i+j)):=pZ fun _ _ _ _ _ _ _ q=>add_int q
theorem xI:bM X (binaryOp .Sub) (e8 fun i j=>.int (i - j)):=pZ fun _ _ _ _ _ _ _ q=>sub_int q
theorem xJ:bM X (binaryOp .Mult) (rI iZ fun i j=>.int (i * j)):=m9 fun _ _ _ _ _ _ _ hc q=>mul_int q hc.ok
theorem xK:bM X (binaryOp .FloorDiv) (rI mC fun i j=>.int (i / j)):=m9 fun i j _ _ _ _ _ hc q=>by
 have h1:(0:Int) < j:=hc.1
 have h2:j < 1073741824:=hc.2
 exact floordiv_int (by omega) (by rw [Int.fdiv_eq_ediv_of_nonneg i (by omega)]; exact q) (.inl (PyProof.noPylong_small (by omega)))
theorem xL:bM X (binaryOp .Mod) (rI (fun _ j=>0 < j) fun i j=>.int (i % j)):=m9 fun i j _ _ _ _ _ hc q=>by
 have h1:(0:Int) < j:=hc
 exact mod_int' (by omega) (by rw [Int.fmod_eq_emod_of_nonneg i (by omega)]; exact q)
end
def qA:V->V->Bool
 | .non,.non=>true | .non,.int _=>true | .int _,.non=>true | .non,.bl _=>true | .bl _,.non=>true | .non,.str _=>true | .str _,.non=>true
 | .int _,.int _=>true | .bl _,.bl _=>true | .str _,.str _=>true | .byt _,.byt _=>true
 | .int _,.str _=>true | .str _,.int _=>true | .bl _,.str _=>true | .str _,.bl _=>true
 | _,_=>false
def mD:R2:=fun x y H Q=>qA x y=true/\Q (.bl (decide (x=y))) H
def mE:R2:=fun x y H Q=>qA x y=true/\Q (.bl (!decide (x=y))) H
theorem qB {i j:Int}:decide (V.int i=V.int j)=(i == j):=by
 rw [ak8]
 simp
theorem qD {i j:Bool}:decide (V.bl i=V.bl j)=(i == j):=by
 rw [ak8]
 simp
theorem qE {i j:Str}:decide (V.str i=V.str j)=(i == j):=by
 rw [ak8]
 simp
theorem qF {i j:Array UInt8}:decide (V.byt i=V.byt j)=(i.toList == j.toList):=by
 rw [ak8]
 cases i
 cases j
 simp
section
variable {X : Cx} {a b c : Expr} {ta tb tc : TE} {pos : Pos}
theorem b6 {pins:List (Addr × Obj)}{σ:St}{H:Hp}{s:Shared}{Q:VK}{k k':Bool} (I:a5 X pins σ H s) (q:Q (.bl k) H) (e:k=k'):EP X pins σ Q (.bool k') s:=by
 subst e
 exact⟨.bl k,H,I,rfl,q⟩
theorem qG:bM X (compareOp .Eq) mD:=by
 intro pins s σ H x y v u Q I rx ry h
 obtain ⟨hs,q⟩:=h
 cases x with
 | non=>
  cases rx
  cases y with
  | non=>cases ry; exact PySem.EqNone.eq_none_none (b6 I q (by simp))
  | bl j=>cases ry; exact PySem.EqNone.eq_none_bool (b6 I q (by simp))
  | int j=>obtain ⟨t',rfl⟩:=ry; exact PySem.EqNone.eq_none_int (b6 I q (by simp))
  | str j=>obtain ⟨t',rfl⟩:=ry; exact PySem.EqNone.eq_none_str (b6 I q (by simp))
  | _=>exact absurd (show false=true from hs) ae9
 | bl i=>
  cases rx
  cases y with
  | non=>cases ry; exact PySem.EqNone.eq_bool_none (b6 I q (by simp))
  | bl j=>cases ry; exact eq_bool (b6 I q qD)
  | str j=>obtain ⟨t',rfl⟩:=ry; exact PySem.EqMixed.eq_bool_str (b6 I q (by simp))
  | _=>exact absurd (show false=true from hs) ae9
 | int i=>
  obtain ⟨t,rfl⟩:=rx
  cases y with
  | non=>cases ry; exact PySem.EqNone.eq_int_none (b6 I q (by simp))
  | int j=>obtain ⟨t',rfl⟩:=ry; exact eq_int (b6 I q qB)
  | str j=>obtain ⟨t',rfl⟩:=ry; exact PySem.EqMixed.eq_int_str (b6 I q (by simp))
  | _=>exact absurd (show false=true from hs) ae9
 | str i=>
  obtain ⟨t,rfl⟩:=rx
  cases y with
  | non=>cases ry; exact PySem.EqNone.eq_str_none (b6 I q (by simp))
  | bl j=>cases ry; exact PySem.EqMixed.eq_str_bool (b6 I q (by simp))
  | int j=>obtain ⟨t',rfl⟩:=ry; exact PySem.EqMixed.eq_str_int (b6 I q (by simp))
  | str j=>obtain ⟨t',rfl⟩:=ry; exact eq_str (b6 I q qE)
  | _=>exact absurd (show false=true from hs) ae9
 | byt i=>
  obtain ⟨t,rfl⟩:=rx
  cases y with
  | byt j=>obtain ⟨t',rfl⟩:=ry; exact PySem.W.eq_bytes (b6 I q qF)
  | _=>exact absurd (show false=true from hs) ae9
 | _=>cases y <;> exact absurd (show false=true from hs) ae9
theorem qH:bM X (compareOp .NotEq) mE:=by
 intro pins s σ H x y v u Q I rx ry h
 obtain ⟨hs,q⟩:=h
 cases x with
 | non=>
  cases rx
  cases y with
  | non=>cases ry; exact PySem.EqNone.ne_none_none (b6 I q (by simp))
  | bl j=>cases ry; exact PySem.EqNone.ne_none_bool (b6 I q (by simp))
  | int j=>obtain ⟨t',rfl⟩:=ry; exact PySem.EqNone.ne_none_int (b6 I q (by simp))
  | str j=>obtain ⟨t',rfl⟩:=ry; exact PySem.EqNone.ne_none_str (b6 I q (by simp))
  | _=>exact absurd (show false=true from hs) ae9
 | bl i=>
  cases rx
  cases y with
  | non=>cases ry; exact PySem.EqNone.ne_bool_none (b6 I q (by simp))
  | bl j=>cases ry; exact ne_bool (b6 I q (congrArg not qD))
  | str j=>obtain ⟨t',rfl⟩:=ry; exact PySem.EqMixed.ne_bool_str (b6 I q (by simp))
  | _=>exact absurd (show false=true from hs) ae9
 | int i=>
  obtain ⟨t,rfl⟩:=rx
  cases y with
  | non=>cases ry; exact PySem.EqNone.ne_int_none (b6 I q (by simp))
  | int j=>obtain ⟨t',rfl⟩:=ry; exact ne_int (b6 I q (congrArg not qB))
  | str j=>obtain ⟨t',rfl⟩:=ry; exact PySem.EqMixed.ne_int_str (b6 I q (by simp))
  | _=>exact absurd (show false=true from hs) ae9
 | str i=>
  obtain ⟨t,rfl⟩:=rx
  cases y with
  | non=>cases ry; exact PySem.EqNone.ne_str_none (b6 I q (by simp))
  | bl j=>cases ry; exact PySem.EqMixed.ne_str_bool (b6 I q (by simp))
  | int j=>obtain ⟨t',rfl⟩:=ry; exact PySem.EqMixed.ne_str_int (b6 I q (by simp))
  | str j=>obtain ⟨t',rfl⟩:=ry; exact ne_str (b6 I q (congrArg not qE))
  | _=>exact absurd (show false=true from hs) ae9
 | byt i=>
  obtain ⟨t,rfl⟩:=rx
  cases y with
  | byt j=>obtain ⟨t',rfl⟩:=ry; exact PySem.W.ne_bytes (b6 I q (congrArg not qF))
  | _=>exact absurd (show false=true from hs) ae9
 | _=>cases y <;> exact absurd (show false=true from hs) ae9
theorem qI:bM X (compareOp .Lt) (e8 fun i j=>.bl (decide (i < j))):=mB fun _ _ _ _ _ _ _ q=>lt_int q
theorem xM:bM X (compareOp .Gt) (e8 fun i j=>.bl (decide (j < i))):=mB fun _ _ _ _ _ _ _ q=>gt_int q
theorem xN:bM X (compareOp .GtE) (e8 fun i j=>.bl (decide (j<=i))):=mB fun _ _ _ _ _ _ _ q=>ge_int q
theorem xO:bM X (compareOp .In) (fun x y H Q=>∃ i j,x = .str i/\y = .str j/\Q (.bl (!(Builtin.Str.occurrences j i 0 j.length 1).isEmpty)) H):=by
 intro pins s σ H x y v u Q I rx ry h
 obtain ⟨i,j,rfl,rfl,q⟩:=h
 obtain ⟨t,rfl⟩:=rx
 obtain ⟨t',rfl⟩:=ry
 exact in_str (b6 I q rfl)
theorem fN (b:Expr) {op:CmpOp} (h:op ≠ .In:=by decide) (h2:op ≠ .NotIn:=by decide):behindInMarks op b=false:=by
 have e1:(op == CmpOp.In)=false:=by cases op <;> first | rfl | exact absurd rfl h
 have e2:(op == CmpOp.NotIn)=false:=by cases op <;> first | rfl | exact absurd rfl h2
 cases b <;> simp [behindInMarks,e1,e2]
theorem xP {op:CmpOp}{r:R2} (ho:bM X (compareOp op) r) (ha:PE X a ta) (hb:PE X b tb) (hm:behindInMarks op b=false):PE X (.Compare a [op] [b] pos) (iY r ta tb):=by
 intro pins s σ H Q I h
 exact wpAny_Compare1 (m8 ha hb I h fun v u s2 x y H2 I2 rx ry q=>ho pins s2 σ H2 x y v u Q I2 rx ry q) hm
def xQ (t:TE):TT:=fun σ H Q=>t σ H fun x H'=>∃ k,x = .bl k/\Q k H'
theorem xR {op:CmpOp}{r:R2} (ho:bM X (compareOp op) r) (ha:PE X a ta) (hb:PE X b tb) (hm:behindInMarks op b=false):PT X (.Compare a [op] [b] pos) (xQ (iY r ta tb)):=by
 intro pins s σ H Q I h
 refine wpAny_isTrue_Compare1 (aI (ha pins s σ H _ I h) fun v s1 ⟨x,H1,I1,r1,q1⟩=>aI (hb pins s1 σ H1 _ I1 q1) fun u s2 ⟨y,H2,I2,r2,q2⟩=>
  aI (ho pins s2 σ H2 x y v u _ I2 r1 r2 q2) fun c s3 ⟨z,H3,I3,r3,k,e,q3⟩=>?_) hm
 subst e
 cases r3
 exact aj4 ⟨H3,I3,q3⟩
def mF (K:PySem.W.Frag) (x:V) (H:Hp) (k:Bool):Prop:=
 match x with
 | .non=>k=false
 | .bl b=>k=b
 | .int i=>k=(i != 0)
 | .str y=>y.length<=sizeLine/\k=((y.length:Int) != 0)
 | .byt y=>y.size<=sizeLine/\k=((y.size:Int) != 0)
 | .ref p=>(∃ xs,aM K H p xs/\k = !xs.isEmpty) ∨ (∃ xs,aO K H p xs/\k = !xs.isEmpty) ∨ ∃ kvs,H p=some (.dK kvs)/\k = !kvs.isEmpty
 | _=>False
theorem xS {κ:Type}{kvs:List (κ × V)}{vs:List (κ × Value)} (r:KV kvs vs):(!vs.isEmpty) = !kvs.isEmpty:=by
 cases r <;> rfl
theorem qJ {xs:List V}{its:List Value} (r:aH xs its):(!its.toArray.isEmpty) = !xs.isEmpty:=by
 cases r <;> simp
theorem i5:(sizeLine:Nat) < 2 ^ 63:=by rw [sizeLine_eq]; decide
theorem xT:xF X (fun x H Q=>∃ k,mF X.K x H k/\Q k H):=by
 intro pins s σ H x v Q I rx h
 obtain ⟨k,e,q⟩:=h
 have hl:=i5
 have hs:sizeLine=16777216:=sizeLine_eq
 cases x with
 | non=>
  cases rx
  have e':k=false:=e
  subst e'
  exact truthy_none ⟨H,I,q⟩
 | bl b=>
  cases rx
  have e':k=b:=e
  subst e'
  exact aj4 ⟨H,I,q⟩
 | int i=>
  obtain ⟨t,rfl⟩:=rx
  have e':k=(i != 0):=e
  subst e'
  exact PySem.P.truthy_int ⟨H,I,q⟩
 | str y=>
  obtain ⟨t,rfl⟩:=rx
  obtain ⟨hy,e'⟩:y.length<=sizeLine/\k=((y.length:Int) != 0):=e
  subst e'
  exact PySem.P.truthy_str (by omega) ⟨H,I.tok _,q⟩
 | byt y=>
  obtain ⟨t,rfl⟩:=rx
  obtain ⟨hy,e'⟩:y.size<=sizeLine/\k=((y.size:Int) != 0):=e
  subst e'
  exact PySem.W.truthy_bytes (by omega) ⟨H,I.tok _,q⟩
 | ref p=>
  cases rx
  have e':(∃ xs,aM X.K H p xs/\k = !xs.isEmpty) ∨ (∃ xs,aO X.K H p xs/\k = !xs.isEmpty) ∨ ∃ kvs,H p=some (.dK kvs)/\k = !kvs.isEmpty:=e
  rcases e' with ⟨xs,hx,e'⟩ | ⟨xs,hx,e'⟩ | ⟨kvs,hx,e'⟩
  ·subst e'
   obtain ⟨its,r,pl,hz⟩:=I.list hx
   have hlen:=r.length
   exact wpAny_truthy_list pl.isList (by simp only [ae3]; omega) ⟨H,I.tok _,by rw [qJ r]; exact q⟩
  ·subst e'
   obtain ⟨its,r,pl,hz⟩:=I.tuple hx
   have hlen:=r.length
   exact truthy_tuple pl (by simp only [ae3]; omega) ⟨H,I.tok _,by rw [qJ r]; exact q⟩
  ·subst e'
   obtain ⟨hz,hS,vs,r,m⟩:kvs.length<=sizeLine/\(p == sysModules)=false/\∃ vs,KV kvs vs/\s.heap.DictOf (cG X.prog X.w) p vs:=I.hok p _ hx
   have hlen:kvs.length=vs.length:=Paired.length r
   exact wpAny_truthy_dict hS m (by omega) ⟨H,I.tok _,by rw [xS r]; exact q⟩
 | _=>exact (show False from e).elim
theorem xU (ha:PE X a ta) (he:∀ whole,isTrue a X.env whole=(do let v <- whole; standAt a.pos; holding [v] (truthy v))) :
  PT X a (fun σ H Q=>ta σ H fun x H'=>∃ k,mF X.K x H' k/\Q k H'):=by
 intro pins s σ H Q I h
 exact isTrue_plain (aI (ha pins s σ H _ I h) fun v s1 ⟨x,H1,I1,r1,q1⟩=>xT pins s1 σ H1 x v Q I1 r1 q1) (he _)
theorem xV:bM X (binaryOp .Add) (fun x y H Q=>∃ i j,x = .str i/\y = .str j/\i.length+j.length<=sizeLine/\Q (.str (i ++ j)) H):=by
 intro pins s σ H x y v u Q I rx ry h
 obtain ⟨i,j,rfl,rfl,hz,q⟩:=h
 obtain ⟨t,rfl⟩:=rx
 obtain ⟨t',rfl⟩:=ry
 exact add_str (fun t' tk=>⟨.str (i ++ j),H,I.tok _,⟨_,rfl⟩,q⟩) hz
theorem dO {x:V}{us:List Value} (r:aH [x] us):∃ u,us = [u]/\aP x u:=by
 cases r with
 | cons r1 r2=>cases r2; exact⟨_,rfl,r1⟩
theorem jZ {x y:V}{us:List Value} (r:aH [x,y] us):∃ u w',us = [u,w']/\aP x u/\aP y w':=by
 cases r with
 | cons r1 r2=>
  cases r2 with
  | cons r3 r4=>cases r4; exact⟨_,_,rfl,r1,r3⟩
theorem xW (hc:X.calm=true):bW X (.builtin "max") (fun xs H Q=>∃ i j,xs = [.int i,.int j]/\Q (.int (if j > i then j else i)) H):=by
 intro pins s σ H xs us Q I r h
 obtain ⟨i,j,rfl,q⟩:=h
 obtain ⟨u,w',rfl,⟨t,rfl⟩,⟨t',rfl⟩⟩:=jZ r
 refine max_two_ints (I.ok.hd hc) fun h' tk k=>⟨_,H,I.kept k,?_,q⟩
 by_cases hj:j > i
 ·rw [if_pos hj,if_pos hj]; exact⟨_,rfl⟩
 ·rw [if_neg hj,if_neg hj]; exact⟨_,rfl⟩
theorem xX (hc:X.calm=true):bW X (.builtin "min") (fun xs H Q=>∃ i j,xs = [.int i,.int j]/\Q (.int (if j < i then j else i)) H):=by
 intro pins s σ H xs us Q I r h
 obtain ⟨i,j,rfl,q⟩:=h
 obtain ⟨u,w',rfl,⟨t,rfl⟩,⟨t',rfl⟩⟩:=jZ r
 refine min_two_ints (I.ok.hd hc) fun h' tk k=>⟨_,H,I.kept k,?_,q⟩
 by_cases hj:j < i
 ·rw [if_pos hj,if_pos hj]; exact⟨_,rfl⟩
 ·rw [if_neg hj,if_neg hj]; exact⟨_,rfl⟩
theorem xY:bW X (.type "str") (fun xs H Q=>∃ i,xs = [.int i]/\i.natAbs.log2 < 1920/\Q (.str (toString i)) H):=by
 intro pins s σ H xs us Q I r h
 obtain ⟨i,rfl,hz,q⟩:=h
 obtain ⟨u,rfl,t,rfl⟩:=dO r
 exact PySem.P.str_of_int hz ⟨.str _,H,I.tok _,⟨_,rfl⟩,q⟩
end
structure mG (h:Heap) (x dx C:Addr) (mA:Str->Option Value):Prop where
 obj:h.get? x=some (PySem.W.instObj C dx)
 ns:h.Ns1 dx mA
 ne:dx ≠ x
theorem xZ {h:Heap}{dx:Addr}{mA:Str->Option Value} (n:h.Ns1 dx mA):∃ od,h.get? dx=some od/\∀ name,PySem.W.lookIn name od=some (mA name):=by
 obtain ⟨o,es,ep,ho,hd,hk,_,hm⟩:=n
 refine⟨o,ho,fun name=>?_⟩
 have e:=hm name
 unfold nsFind findBy at e
 rw [<- Array.find?_toList] at e
 unfold PySem.W.lookIn
 rw [hd]
 dsimp only
 split
 ·rename_i y q
  rw [q] at e
  exact congrArg some e
 ·rename_i q
  rw [q] at e
  have a:es.toList.any (·.refKey)=false:=by
   rw [List.any_eq_false]
   intro y hy
   obtain ⟨z,t,hkey⟩:=hk y (Array.mem_toList_iff.mp hy)
   simp [DictEntry.refKey,hkey]
  have a' : ¬ es.toList.any (·.refKey)=true:=by rw [a]; exact ae9
  rw [if_neg a']
  exact congrArg some e
theorem mG.look {h:Heap}{x dx C:Addr}{mA:Str->Option Value} (I:mG h x dx C mA):∃ od,PySem.W.InstAt h x (PySem.W.instObj C dx) C (some od)/\∀ name,PySem.W.lookIn name od=some (mA name):=
 let ⟨od,ho,hl⟩:=xZ I.ns
 ⟨od,⟨I.obj,rfl,rfl,ho⟩,hl⟩
section
variable {P : Program} {w : World} {H H' : Hp} {h h' : Heap} {a C dx : Addr} {fs fs' : List (Str × V)}
theorem y3 (hok:b7 P w H h) (e:H a=some (.ins C dx fs)):∃ mA,mG h a dx C mA/\(∀ f,i3 (fs.lookup f) (mA f))/\PySem.Within mA (fs.map (·.1))/\fs.length<=1000/\H dx=some (.own a):=by
 obtain ⟨d,z,ne,ob,mA,n,r,q⟩:=(show b5 P w H h a (.ins C dx fs) from hok a _ e)
 exact⟨mA,⟨ob,n,ne⟩,r,q,z,d⟩
end
structure mH (K:PySem.W.Frag) (C:Addr):Prop where
 pg:PySem.W.plainGet K C Str.empty=true
 hd:PySem.W.hasDictIn K C=true
 po:PySem.W.plainOver K C=true
 sa:PySem.W.findIn K (.ref C) "__setattr__" = some (some (.builtin "object.__setattr__"))
theorem mH.get {K:PySem.W.Frag}{C:Addr} (c:mH K C) (f:Str):PySem.W.plainGet K C f=true:=c.pg
section
variable {X : Cx} {pins : List (Addr × Obj)} {σ : St} {H : Hp} {s : Shared} {A : Around} {E : Value → Shared → Prop} {Q : Value → Shared → Prop} {c : Value} {b : Bool}
inductive cI (K:PySem.W.Frag) (H:Hp):V->Value->Prop where
 | non:cI K H .non (.type "NoneType")
 | bl (x:Bool):cI K H (.bl x) (.type "bool")
 | int (i:Int):cI K H (.int i) (.type "int")
 | str (x:Str):cI K H (.str x) (.type "str")
 | flt (x:UInt64):cI K H (.flt x) (.type "float")
 | lst {a:Addr}{xs:List V} (e:H a=some (.lst xs)):cI K H (.ref a) (.type "list")
 | frz {a:Addr}{o:Obj}{xs:List V} (e:H a=some (.frz o (.lst xs))):cI K H (.ref a) (.type "list")
 | tup {a:Addr}{xs:List V} (e:H a=some (.tup xs)):cI K H (.ref a) (.type "tuple")
 | dK {a:Addr}{kvs:List (aG × V)} (e:H a=some (.dK kvs)):cI K H (.ref a) (.type "dict")
 | dT {a:Addr}{kvs:List (List aG × V)} (e:H a=some (.dT kvs)):cI K H (.ref a) (.type "dict")
 | ins {a C dx:Addr}{fs:List (Str × V)} (e:H a=some (.ins C dx fs)) (cl:mH K C) (ha:PySem.W.findIn K (.ref C) "__class__" = some (some (.builtin "object.__class__")))
   (hn:PySem.W.specialIn K (.builtin "object.__class__") "__get__" = some (some (.builtin "getset_descriptor.__get__"))) (htk:PySem.W.takesIn K (.builtin "object.__class__")=some true)
   (hm:PySem.W.mroIn K C (.type "object")=some true):cI K H (.ref a) (.ref C)
theorem y4 {x:V}{u t:Value} (I:a5 X pins σ H s) (rx:aP x u) (ty:cI X.K H x t) (e:PySem.W.kitOne X.K t c=some b) (h:∀ tk,Q (.bool b) { s with toks:=tk }) :
  wpAny (model X.prog X.w) A (call (.builtin "isinstance") [u,c]) Q E s:=by
 cases ty with
 | non=>cases (show u=Value.none from rx); exact ag9 PySem.W.kitx_none I.kIn True.intro e (fun z=>nomatch z) h
 | bl y=>cases (show u=Value.bool y from rx); exact ag9 PySem.W.kitx_bool I.kIn True.intro e (fun z=>nomatch z) h
 | int i=>obtain ⟨t,q⟩:=(show ∃ t,u=Value.int i t from rx); cases q; exact ag9 PySem.W.kitx_int I.kIn True.intro e (fun z=>nomatch z) h
 | str y=>obtain ⟨t,q⟩:=(show ∃ t,u=Value.str y t from rx); cases q; exact ag9 PySem.W.kitx_str I.kIn True.intro e (fun z=>nomatch z) h
 | flt y=>obtain ⟨t,q⟩:=(show ∃ t,u=Value.float y t from rx); cases q; exact ag9 PySem.W.kitx_float I.kIn True.intro e (fun z=>nomatch z) h
 | @lst a xs ea=>
  cases (show u=Value.ref a from rx)
  obtain ⟨_,_,n,_,h1⟩:=(show b5 X.prog X.w H s.heap a (.lst xs) from I.hok a _ ea)
  exact ag9 PySem.W.kitx_list I.kIn ⟨_,h1,rfl⟩ e (fun z=>nomatch z) h
 | @frz a ob xs ea=>
  cases (show u=Value.ref a from rx)
  obtain ⟨_,_,_,n,_,h1⟩:=(show b5 X.prog X.w H s.heap a (.frz ob (.lst xs)) from I.hok a _ ea)
  exact ag9 PySem.W.kitx_list I.kIn ⟨_,h1,rfl⟩ e (fun z=>nomatch z) h
 | @tup a xs ea=>
  cases (show u=Value.ref a from rx)
  obtain ⟨_,_,_,p,_⟩:=(show b5 X.prog X.w H s.heap a (.tup xs) from I.hok a _ ea)
  obtain ⟨o,h1,h2,_⟩:=p
  exact ag9 PySem.W.kitx_tuple I.kIn ⟨o,h1,h2⟩ e (fun z=>nomatch z) h
 | @dK a kvs ea=>
  cases (show u=Value.ref a from rx)
  obtain ⟨_,_,vs,_,p⟩:=(show b5 X.prog X.w H s.heap a (.dK kvs) from I.hok a _ ea)
  obtain ⟨o,es,ep,h1,h2,_⟩:=p
  exact ag9 PySem.W.kitx_dict I.kIn ⟨o,h1,h2.1⟩ e (fun z=>nomatch z) h
 | @dT a kvs ea=>
  cases (show u=Value.ref a from rx)
  obtain ⟨_,_,xs,_,o,es,ep,h1,h2,_⟩:=(show b5 X.prog X.w H s.heap a (.dT kvs) from I.hok a _ ea)
  exact ag9 PySem.W.kitx_dict I.kIn ⟨o,h1,h2.1⟩ e (fun z=>nomatch z) h
 | @ins a C dx fs ea cl ha hn htk hm=>
  cases (show u=Value.ref a from rx)
  obtain ⟨mA,O,_⟩:=y3 I.hok ea
  obtain ⟨od,J,_⟩:=O.look
  exact ag9 (PySem.W.kitx_own (cl.get _) cl.hd ha hn htk hm) I.kIn J e (fun z=>nomatch z) h
end
structure bT (k:Nat) (A:Around):Prop where
 hd:A.handled=none
 dp:A.depth+3 * k+5 < recursionLimit
 un:A.units+16 * k+200 < cLine
theorem bT.mono {j k:Nat}{A:Around} (r:bT k A) (h:j<=k):bT j A:=⟨r.hd,by have:=r.dp; omega,by have:=r.un; omega⟩
theorem bT.deeper {k:Nat}{A:Around} (r:bT (k+1) A) (env:Env):bT k (A.deeper env):=
 ⟨r.hd,by have:=r.dp; show A.depth+1+3 * k+5 < _; omega,by have:=r.un; show A.units+3+16 * k+200 < _; omega⟩
theorem bT.depth {k:Nat}{A:Around} (r:bT k A):A.depth < recursionLimit:=by have:=r.dp; omega
theorem bT.units {k:Nat}{A:Around} (r:bT k A):A.units+64 < cLine:=by have:=r.un; omega
def i6:TA:=fun _ H Q=>Q [] H
def fO (ta:TE) (tr:TA):TA:=fun σ H Q=>ta σ H fun x H1=>tr σ H1 fun xs H2=>Q (x :: xs) H2
section
variable {X : Cx} {e : Expr} {es : List Expr} {te : TE} {t : TA} {pos : Pos}
theorem i7:PA X [] i6:=fun _ _ _ _ H Q I h=>Calls.spliced_nil ⟨[],H,I,.nil,h⟩
theorem eS (ha:PE X e te) (hr:PA X es t) (hs:starEach (e :: es) X.env=(false,eval e X.env) :: starEach es X.env:=by rfl):PA X (e :: es) (fO te t):=by
 intro pos pins s σ H Q I h
 rw [hs]
 show wpAny _ _ (spliced ((false,eval e X.env) :: backTo pos (starEach es X.env))) _ _ s
 refine Calls.spliced_cons (aI (ha pins s σ H _ I h) fun u s1 ⟨x,H1,I1,r1,q1⟩=>?_)
 exact aI (hr pos pins s1 σ H1 _ I1 q1) fun us s2 ⟨xs,H2,I2,r2,q2⟩=>⟨x :: xs,H2,I2,.cons r1 r2,q2⟩
def qK (t:TA):TE:=fun σ H Q=>t σ H fun xs H1=>xs.length<=sizeLine/\∀ p,H1 p=none->Q (.ref p) (upd H1 p (.tup xs))
def qL (t:TA):TE:=fun σ H Q=>t σ H fun xs H1=>xs.length<=sizeLine/\∀ p,H1 p=none->Q (.ref p) (upd H1 p (.lst xs))
theorem y8 {x1} (h:PA X es t):PE X (.Tuple es x1 pos) (qK t):=by
 intro pins s σ H Q I hq
 refine wpAny_Tuple_spliced (aI (h pos pins s σ H _ I hq) fun us s1 ⟨xs,H1,I1,r,z,q⟩=>⟨by rw [<- r.length]; exact z,?_⟩)
 have hf:H1 s1.heap.objs.size=none:=I1.hok.fresh (ad6 _)
 refine⟨.ref s1.heap.objs.size,upd H1 s1.heap.objs.size (.tup xs),I1.laid (t':=s1.toks) (fun b u e=>ad0 _ e) (ad6 _) ?_,rfl,q _ hf⟩
 exact⟨z,us,r,⟨_,ae1 _ rfl,rfl,_,rfl⟩,eO.new _ _ rfl⟩
theorem y9 (h:PA X es t):PE X (.List es pos) (qL t):=by
 intro pins s σ H Q I hq
 refine wpAny_List_spliced (aI (h pos pins s σ H _ I hq) fun us s1 ⟨xs,H1,I1,r,z,q⟩=>⟨by rw [<- r.length]; exact z,?_⟩)
 have hf:H1 s1.heap.objs.size=none:=I1.hok.fresh (ad6 _)
 refine⟨.ref s1.heap.objs.size,upd H1 s1.heap.objs.size (.lst xs),I1.laid (t':=s1.toks) (fun b u e=>ad0 _ e) (ad6 _) ?_,rfl,q _ hf⟩
 exact⟨z,us,0,r,ae1 _ rfl⟩
end
abbrev Sp:=List V->Hp->VK->XK->Prop
abbrev dP:=List Env->Hp->Shared->XK->Value->Shared->Prop
structure k0 (P:Program) (w:World) (K:PySem.W.Frag) (mg:Str->Option Value) (base:Heap) (A:Around) (outer:List Env) (s:Shared) (H:Hp):Prop where
 frames:A.frames=some outer
 mod:Mod K mg base
 bs:∀ b o,base.get? b=some o->s.heap.get? b=some o/\H b=none
 bsz:base.objs.size<=s.heap.objs.size
 funs:s.heap.FunFrames base outer
 frf:∀ b ∈ dN outer,H b=none
 hok:b7 P w H s.heap
 bare:AllBare s.gens
def CE (outer:List Env) (P:Program) (w:World) (H:Hp) (s:Shared) (Q:VK) (u:Value) (s':Shared):Prop:=
 ∃ v H',s'.os=s.os/\AllBare s'.gens/\Un (dN outer) [] H H' s.heap s'.heap/\b7 P w H' s'.heap/\aP v u/\Q v H'
def CR (CX:dP) (outer:List Env) (P:Program) (w:World) (H:Hp) (s:Shared) (Q:VK) (E:XK) (r:Result) (s':Shared):Prop:=
 match r with
 | .ok (.ret u)=>CE outer P w H s Q u s'
 | .ok _=>False
 | .error e=>CX outer H s E e s'
structure cA (P:Program) (w:World) (K:PySem.W.Frag) (mg:Str->Option Value) (base:Heap) (CX:dP) (k:Nat) (f:Addr) (fd:FuncData) (ps:List Str) (sp:Sp):Prop where
 len:∀ vs H Q E,sp vs H Q E->vs.length=ps.length
 run:∀ (A:Around) (outer:List Env) (s:Shared) (H:Hp) (args:Args) (us:List Value) (vs:List V) (Q:VK) (E:XK),bT k A->k0 P w K mg base A outer s H->BindsTo s fd args (ps.zip us)->aH vs us->sp vs H Q E->
  codeAny (model P w) A (.call (.ref f) args) (CR CX outer P w H s Q E) s
theorem cA.imp {P:Program}{w:World}{K:PySem.W.Frag}{mg:Str->Option Value}{base:Heap}{CX:dP}{k:Nat}{f:Addr}{fd:FuncData}{ps:List Str}{sp sp':Sp} (F:cA P w K mg base CX k f fd ps sp)
  (h:∀ vs H Q E,sp' vs H Q E->sp vs H Q E):cA P w K mg base CX k f fd ps sp':=
 ⟨fun vs H Q E q=>F.len vs H Q E (h _ _ _ _ q),fun A outer s H args us vs Q E hr he hb hv hs=>F.run A outer s H args us vs Q E hr he hb hv (h _ _ _ _ hs)⟩
section
variable {X : Cx} {pins : List (Addr × Obj)} {σ : St} {H : Hp} {s s' : Shared}
theorem a5.env0 (I:a5 X pins σ H s):k0 X.prog X.w X.K X.mg X.base X.A X.stack s H:=
 ⟨I.ok.frames,I.ok.mod,I.bs,ag1 I.ok.bsz I.sz,I.stack,I.stkFree,I.hok,I.bare⟩
theorem a5.after {Q:VK}{u:Value} (I:a5 X pins σ H s) (h:CE X.stack X.prog X.w H s Q u s'):EP X pins σ Q u s':=by
 obtain ⟨v,H',os,bare,un,hok,r,q⟩:=h
 obtain ⟨hh,g,d,t,os'⟩:=s'
 obtain rfl:os'=s.os:=os
 exact⟨v,H',I.call (h':=hh) (g':=g) (d':=d) (t':=t) (ch:=[]) un hok bare (fun b z=>absurd z (by simp)),r,q⟩
end
def qM (sp:Sp) (dvs:List V) (E:XK) (t:TA):TE:=fun σ H Q=>t σ H fun vs H1=>sp (vs ++ dvs) H1 Q E
def i8 (K:PySem.W.Frag) (fd:FuncData) (ps:List Str) (ds:List Value):Prop:=
 ∀ (s:Shared) (us:List Value),K.In s.heap->(us ++ ds).length=ps.length->BindsTo s fd ⟨us,[]⟩ (ps.zip (us ++ ds))
theorem i8.all {K:PySem.W.Frag}{fd:FuncData}{ps:List Str} (h:∀ us:List Value,us.length=ps.length->bindArgs fd ⟨us,[]⟩=pure (ps.zip us)):i8 K fd ps []:=fun s us _ hl=>by
 rw [List.append_nil] at hl ⊢
 exact .of_eq (h us hl)
def mI (CX:dP) (X:Cx) (E:XK):Prop:=∀ (pins:List (Addr × Obj)) (σ:St) (H:Hp) (s:Shared) (e:Value) (s':Shared),a5 X pins σ H s->CX X.stack H s E e s'->X.xe e s'
section
variable {X : Cx} {CX : dP} {k : Nat} {f C : Addr} {fd : FuncData} {ps : List Str} {sp : Sp} {dvs : List V} {ds : List Value} {E : XK} {x m : Str} {p pos apos : Pos} {e o : Expr} {es : List Expr} {ta : TE} {t : TA}
theorem yA {pins:List (Addr × Obj)}{σ:St}{H:Hp}{s:Shared}{Q:VK}{us:List Value}{vs:List V} (F:cA X.prog X.w X.K X.mg X.base CX k f fd ps sp) (hr:bT k X.A) (hb:i8 X.K fd ps ds) (hd:aH dvs ds) (hx:mI CX X E)
  (I:a5 X pins σ H s) (r:aH vs us) (h:sp (vs ++ dvs) H Q E):wpAny (model X.prog X.w) X.A (call (.ref f) us) (EP X pins σ Q) X.xe s:=by
 have r2:aH (vs ++ dvs) (us ++ ds):=r.append hd
 have hl:(us ++ ds).length=ps.length:=by rw [<- r2.length]; exact F.len _ _ _ _ h
 refine wpAny_call (codeAny_mono (F.run X.A X.stack s H ⟨us,[]⟩ (us ++ ds) (vs ++ dvs) Q E hr I.env0 (hb s us I.kIn hl) r2 h) fun r s' hq=>?_)
 cases r with
 | error e=>exact hx pins σ H s e s' I hq
 | ok fl=>
  cases fl with
  | ret u=>exact I.after hq
  | next=>exact False.elim hq
  | brk=>exact False.elim hq
  | cont=>exact False.elim hq
theorem yB (F:cA X.prog X.w X.K X.mg X.base CX k f fd ps sp) (hr:bT k X.A) (hg:Gl X x) (hm:X.mg x=some (.ref f)) (hk:PySem.W.keepIn X.K (.ref f)=true) (hb:i8 X.K fd ps ds) (hd:aH dvs ds) (hx:mI CX X E)
  (ha:PA X (e :: es) t) (hdb:(x == ("__debug__" : Str))=false:=by decide) (he:starEach (e :: es) X.env=(false,eval e X.env) :: starEach es X.env:=by rfl) (hpl:(backTo pos (starEach es X.env)).any (·.1)=false:=by rfl) :
  PE X (.Call (.Name x p) (e :: es) [] pos) (qM sp dvs E t):=by
 intro pins s σ H Q I h
 refine wpAny_Call_Name_kw (pG I hg hm ?_ hdb)
 refine PySem.W.callWith_K (h₀:=X.base) I.ok.mod.kin hk (aI (ha pos pins s σ H _ I h) fun us s1 ⟨vs,H1,I1,r,q⟩=>⟨I1.kIn,?_⟩) he hpl
 exact yA F hr hb hd hx I1 r q
end
def PK (X:Cx) (kws:List Keyword) (t:TA):Prop:=
 ∀ (pos:Pos) (pins:List (Addr × Obj)) (s:Shared) (σ:St) (H:Hp) (Q:List V->Hp->Prop),a5 X pins σ H s->t σ H Q->wpAny (model X.prog X.w) X.A (evalAll ((backToKw pos (keywordEach kws X.env)).map (·.2))) (AP X pins σ Q) X.xe s
structure FnScope (N P:List Str) (sc:Scope):Prop where
 kind:sc.kind = .function
 co:sc.isCoroutine=false
 gen:sc.isGenerator=false
 nd:N.Nodup
 pre:N.take P.length=P
 par:∀ x ∈ P,sc.names.lookup x=some .local ∨ sc.names.lookup x=some .cell
 nofree:∀ y ∈ sc.names,y.2 ≠ .free
theorem qN {kindOf:Str->Option NameKind}{x:Str}:∀ {binds:List (Str × Value)}{m:Str->Option Value},(∀ v,(x,v) ∉ binds)->bindL kindOf binds m x=m x
 | [],_,_=>rfl
 | (n,v) :: r,m,h=>by
  unfold bindL
  rw [qN fun w hw=>h w (ad5 _ hw)]
  split
  ·have:x ≠ n:=by rintro rfl; exact h v ad2
   simp [this]
  ·rfl
theorem qO {kindOf:Str->Option NameKind}{x:Str}:∀ {binds:List (Str × Value)}{m:Str->Option Value},(∀ v,(x,v) ∉ binds)->bindC kindOf binds m x=m x
 | [],_,_=>rfl
 | (n,v) :: r,m,h=>by
  unfold bindC
  rw [qO fun w hw=>h w (ad5 _ hw)]
  split
  ·rfl
  ·have:x ≠ n:=by rintro rfl; exact h v ad2
   simp [this]
theorem qP {kindOf:Str->Option NameKind}{x:Str}{v:Value}:∀ {P:List Str}{vs:List Value}{i:Nat}{m:Str->Option Value},P.Nodup->P[i]? = some x->vs[i]? = some v->kindOf x=some .local->
  bindL kindOf (P.zip vs) m x=some v
 | [],_,_,_,_,h,_,_=>by simp at h
 | _ :: _,[],_,_,_,_,h,_=>by simp at h
 | p :: P,w :: vs,0,m,nd,h1,h2,hk=>by
  simp at h1 h2; subst h1; subst h2
  show bindL kindOf ((p,w) :: P.zip vs) m p=_
  unfold bindL
  rw [qN fun v hv=>(List.nodup_cons.mp nd).1 (List.of_mem_zip hv).1,if_pos hk]
  simp
 | p :: P,w :: vs,i+1,m,nd,h1,h2,hk=>by
  show bindL kindOf ((p,w) :: P.zip vs) m x=_
  unfold bindL
  exact qP (i:=i) (List.nodup_cons.mp nd).2 (by simpa using h1) (by simpa using h2) hk
theorem qQ {kindOf:Str->Option NameKind}{x:Str}{v:Value}:∀ {P:List Str}{vs:List Value}{i:Nat}{m:Str->Option Value},P.Nodup->P[i]? = some x->vs[i]? = some v->kindOf x ≠ some .local->
  bindC kindOf (P.zip vs) m x=some v
 | [],_,_,_,_,h,_,_=>by simp at h
 | _ :: _,[],_,_,_,_,h,_=>by simp at h
 | p :: P,w :: vs,0,m,nd,h1,h2,hk=>by
  simp at h1 h2; subst h1; subst h2
  show bindC kindOf ((p,w) :: P.zip vs) m p=_
  unfold bindC
  rw [qO fun v hv=>(List.nodup_cons.mp nd).1 (List.of_mem_zip hv).1,if_neg hk]
  simp
 | p :: P,w :: vs,i+1,m,nd,h1,h2,hk=>by
  show bindC kindOf ((p,w) :: P.zip vs) m x=_
  unfold bindC
  exact qQ (i:=i) (List.nodup_cons.mp nd).2 (by simpa using h1) (by simpa using h2) hk
def dQ (N:List Str) (vs:List V):St:=vs.map some ++ List.replicate (N.length - vs.length) none
def eU (CX:dP) (P:Program) (w:World) (K:PySem.W.Frag) (mg:Str->Option Value) (base:Heap) (N:List Str) (qual:Str) (scope:Scope) (f:Addr) (cd:Value) (A:Around) (outer:List Env) (s:Shared) (H:Hp) (E:XK):Cx where
 prog:=P
 w:=w
 K:=K
 mg:=mg
 base:=base
 A:=A.deeper (envOfC qual scope s.heap.objs.size f cd)
 N:=N
 s₀:=s
 H₀:=H
 env:=envOfC qual scope s.heap.objs.size f cd
 outer:=outer
 stack:=envOfC qual scope s.heap.objs.size f cd :: outer
 ex:=[]
 calm:=true
 fn:=fun _=>true
 pn:=[]
 xe:=fun e s'=>wpAny (model P w) (A.deeper (envOfC qual scope s.heap.objs.size f cd)) (leaving (envOfC qual scope s.heap.objs.size f cd) e) (fun _ s''=>CX outer H s E e s'') (fun e' s''=>CX outer H s E e' s'') s'
theorem qR {sc:Scope}{n:Nat}{x:Str} (h:sc.names.lookup x=some .cell):∃ c,(cellsFrom n sc.names []).lookup x=some c:=by
 have q:=PySem.W.cellsFrom_some sc.names n [] (.inl h)
 exact Option.isSome_iff_exists.mp q
theorem yC {CX:dP}{P:Program}{w:World}{K:PySem.W.Frag}{mg:Str->Option Value}{base:Heap}{N ps:List Str}{qual:Str}{scope:Scope}{f:Addr}{cd:Value}{A:Around}{outer:List Env}{s s1:Shared}{H:Hp}{E:XK}{us:List Value}{vs:List V}
  (S:FnScope N ps scope) (hd:A.handled=none) (e0:k0 P w K mg base A outer s H) (hl:vs.length=ps.length) (r:aH vs us)
  (x:InCallC s s.heap.objs.size (bindL (envOfC qual scope s.heap.objs.size f cd).kindOf (ps.zip us) fun _=>none) (cellsFrom (s.heap.objs.size+1) scope.names []) (bindC (envOfC qual scope s.heap.objs.size f cd).kindOf (ps.zip us) fun _=>none) s1) :
  a5 (eU CX P w K mg base N qual scope f cd A outer s H E) [] (dQ N vs) H s1:=by
 have hpl:ps.length<=N.length:=by have:=congrArg List.length S.pre; rw [List.length_take] at this; omega
 obtain ⟨h1,tk,rfl,hk⟩:=x.done
 have noA:∀ b:Addr,b ∉ (eU CX P w K mg base N qual scope f cd A outer s H E).ex:=fun b z=>absurd (show b ∈ ([]:List Addr) from z) (by simp)
 refine⟨⟨e0.mod,S.kind,rfl,rfl,ad6 _,fun y z c h1 h2=>?_,fun y hy=>?_,fun y c _ h=>?_,fun _=>hd,Around.frames_deeper e0.frames,.inr ⟨rfl,rfl⟩,fun b z=>absurd z (noA b),e0.bs,e0.bsz,fun b _ _=>noA b,fun b z=>absurd z (noA b),e0.funs,e0.frf⟩,
  rfl,e0.bare,Un.kept hk,⟨_,x.toInCall.ns,fun i y v h1 h2 h3=>?_⟩,fun y c h=>⟨_,x.cell y c h⟩,e0.hok.fresh (ad6 _),fun y c h=>?_,fun p hp=>absurd (show p ∈ ([]:List (Addr × Obj)) from hp) (by simp),e0.hok.kept hk,?_⟩
 ·exact name_of_addr x.apart (af6 h1) (af6 h2)
 ·have hy:scope.names.lookup y=some .cell ∨ scope.names.lookup y=some .free:=hy
  rcases hy with hy | hy
  ·exact qR hy
  ·exact absurd rfl (S.nofree _ (af6 hy))
 ·exact al0 (x.above y c (af6 h))
 ·have hi:i < vs.length:=by
   unfold dQ at h2
   by_cases hi:i < vs.length
   ·exact hi
   ·rw [List.getElem?_append_right (by simpa using hi)] at h2
    rw [List.getElem?_replicate] at h2
    split at h2 <;> cases h2
  have ha:vs[i]? = some v:=by
   unfold dQ at h2
   rw [List.getElem?_append_left (by simpa using hi),ad9] at h2
   cases e:vs[i]? with
   | none=>rw [e] at h2; cases h2
   | some a=>rw [e] at h2; cases h2; rfl
  obtain ⟨u,hu,rv⟩:=r.get ha
  have hp:ps[i]? = some y:=by
   rw [<- S.pre,List.getElem?_take_of_lt (by omega)]; exact h1
  have ndP:ps.Nodup:=by rw [<- S.pre]; exact S.nd.sublist (List.take_sublist _ _)
  refine⟨u,rv,?_⟩
  rcases S.par y (ag2 hp) with k | k
  ·exact .inl ⟨k,qP ndP hp hu k⟩
  ·obtain ⟨c,e⟩:=qR (n:=s.heap.objs.size+1) k
   refine .inr ⟨.inl k,c,e,?_⟩
   have q:=x.cell y c e
   rw [qQ ndP hp hu (by show scope.names.lookup y ≠ _; rw [k]; decide)] at q
   exact q
 ·exact e0.hok.fresh (al0 (x.above y c (af6 h)))
 ·unfold dQ
  show _=N.length
  rw [af4,ad1,List.length_replicate]
  omega
theorem yD {CX:dP}{P:Program}{w:World}{K:PySem.W.Frag}{mg:Str->Option Value}{base:Heap}{k:Nat}{f:Addr}{name qual:Str}{params:Arguments}{body:List Stmt}{scope:Scope}{dV kV doc pm cdv ct oc:Value}{an od:Option Addr}
  {osl:Array (Option Value)}{N ps:List Str}{sp:Sp} (lk:K.lookup f=some ⟨oc,od,.func (PySem.W.fnOf name qual params body scope dV kV doc pm an cdv ct),osl⟩) (hcd:PySem.W.codeIn K cdv qual=true) (S:FnScope N ps scope)
  (len:∀ vs H Q E,sp vs H Q E->vs.length=ps.length)
  (hbody:∀ (A:Around) (outer:List Env) (s:Shared) (H:Hp) (vs:List V) (Q:VK) (E:XK),bT k (A.deeper (envOfC qual scope s.heap.objs.size f cdv))->sp vs H Q E->
   ∃ t,cC (eU CX P w K mg base N qual scope f cdv A outer s H E) body t/\t { nx:=fun _ H'=>Q .non H',rt:=Q } (dQ N vs) H) :
  cA P w K mg base CX (k+1) f (PySem.W.fnOf name qual params body scope dV kV doc pm an cdv ct) ps sp:=by
 refine⟨len,fun A outer s H args us vs Q E hr e0 hb r hsp=>?_⟩
 have hl:=len _ _ _ _ hsp
 have KX:K.In s.heap:=e0.mod.kin.keeps fun b o e=>(e0.bs b o e).1
 have lim:s.heap.NoLimit:=e0.mod.nolimit.keeps fun b o e=>(e0.bs b o e).1
 have hkind:∀ y ∈ ps.zip us,scope.names.lookup y.1=some .local ∨ (scope.names.lookup y.1=some .cell/\((cellsFrom (s.heap.objs.size+1) scope.names []).lookup y.1).isSome=true):=fun ⟨n,v⟩ hy=>by
  rcases S.par n (List.of_mem_zip hy).1 with q | q
  ·exact .inl q
  ·exact .inr ⟨q,PySem.W.cellsFrom_some _ _ _ (.inl q)⟩
 refine codeAny_call_function hr.depth (KX _ _ lk) rfl S.co S.gen rfl (PySem.W.codeRec_of KX hcd) (hb _ _ _ _ ?_)
 refine wpAny_newFunctionEnv_cells S.kind hkind fun env he s1 x=>?_
 subst he
 refine⟨lim.keeps x.toInCall.keep,codeAny_func ?_⟩
 obtain ⟨t,ht,hq⟩:=hbody A outer s H vs Q E (hr.deeper _) hsp
 have I:a5 (eU CX P w K mg base N qual scope f cdv A outer s H E) [] (dQ N vs) H s1:=yC S hr.hd e0 hl r x
 refine ai7 (ht [] s1 (dQ N vs) H _ I hq) (fun fl s' hs=>?_) fun e s' hs=>hs
 have fin:∀ {σ':St}{H':Hp}{v:V}{u:Value},a5 (eU CX P w K mg base N qual scope f cdv A outer s H E) [] σ' H' s'->aP v u->Q v H'->CE outer P w H s Q u s':=
  fun {σ' H' v u} J rv q=>⟨v,H',J.os,J.bare,J.base,J.hok,rv,q⟩
 cases fl with
 | ret u=>
  obtain ⟨v,σ',H',J,rv,q⟩:=hs
  exact fin J rv q
 | next=>
  obtain ⟨σ',H',J,q⟩:=hs
  exact fin (v:=V.non) (u:=Value.none) J rfl q
 | brk=>
  obtain ⟨_,_,_,q⟩:=hs
  exact False.elim q
 | cont=>
  obtain ⟨_,_,_,q⟩:=hs
  exact False.elim q
section
variable {X : Cx} {x : Str} {p pos : Pos} {e : Expr} {es : List Expr} {t : TA} {id T : String} {r : List V → Hp → VK → Prop}
def mJ (r:List V->Hp->VK->Prop) (t:TA):TE:=fun σ H Q=>t σ H fun vs H1=>r vs H1 Q
theorem qS (hc:bW X (.builtin id) r) (hg:Gl X x) (hm:X.mg x=none) (hv:bootBuiltins x=some (.builtin id)) (ha:PA X (e :: es) t) (hn:x ≠ "__name__":=by decide) (hdb:(x == ("__debug__" : Str))=false:=by decide)
  (he:starEach (e :: es) X.env=(false,eval e X.env) :: starEach es X.env:=by rfl) (hpl:(backTo pos (starEach es X.env)).any (·.1)=false:=by rfl):PE X (.Call (.Name x p) (e :: es) [] pos) (mJ r t):=by
 intro pins s σ H Q I h
 refine wpAny_Call_Name_kw (i4 I hg hm hv ?_ hn hdb)
 exact PyProof.Rows.callWith_builtin1 (aI (ha pos pins s σ H _ I h) fun us s1 ⟨vs,H1,I1,r1,q1⟩=>hc pins s1 σ H1 vs us Q I1 r1 q1) he hpl
theorem yE (hc:bW X (.type T) r) (hg:Gl X x) (hm:X.mg x=none) (hv:bootBuiltins x=some (.type T)) (ha:PA X (e :: es) t) (hn:x ≠ "__name__":=by decide) (hdb:(x == ("__debug__" : Str))=false:=by decide)
  (he:starEach (e :: es) X.env=(false,eval e X.env) :: starEach es X.env:=by rfl) (hpl:(backTo pos (starEach es X.env)).any (·.1)=false:=by rfl):PE X (.Call (.Name x p) (e :: es) [] pos) (mJ r t):=by
 intro pins s σ H Q I h
 refine wpAny_Call_Name_kw (i4 I hg hm hv ?_ hn hdb)
 exact aj9 (aI (ha pos pins s σ H _ I h) fun us s1 ⟨vs,H1,I1,r1,q1⟩=>hc pins s1 σ H1 vs us Q I1 r1 q1) he hpl
end
end L2
namespace HT
open PySem PyProof.Rows
def b4:List Int->List Int->Bool
 | [],[]=>false
 | [],_ :: _=>true
 | _ :: _,[]=>false
 | x :: xs,y :: ys=>if x=y then b4 xs ys else decide (x < y)
theorem fP (x y:Int) (xs ys:List Int):b4 (x :: xs) (y :: ys)=if x=y then b4 xs ys else decide (x < y):=rfl
theorem qT:b4 [] []=false:=rfl
theorem yF (y:Int) (ys:List Int):b4 [] (y :: ys)=true:=rfl
theorem yG (x:Int) (xs:List Int):b4 (x :: xs) []=false:=rfl
theorem yH (A:Around) (s:Shared) (a:Int) (t:Tok) (c:Int) (u:Tok):∃ e,SeqAt.EqAt A s (.int a t) (.int c u) e/\(e=true ↔ a=c):=
 ⟨(a == c),SeqAt.EqAt.int_int a t c u,by simp⟩
theorem yI (A:Around) (s:Shared) (a:Int) (t:Tok) (c:Int) (u:Tok) (prog:Program) (w:World) (E:Value->Shared->Prop) (Q:Value->Shared->Prop) (h:Q (.bool (decide (a < c))) s) :
  wpAny (model prog w) A (richCompare .Lt (.int a t) (.int c u)) Q E s:=
 (PyProof.Rows.lt_int h:wpAny (model prog w) A (compareOp .Lt (.int a t) (.int c u)) Q E s)
section
open PySem.SeqAt
open PySem.AutoSeq1 (wpAny_loadPart')
open PySem.MeetsSeq PySem.MeetsSeq2 PySem.MeetsSeq3
theorem yJ (l b:Addr) (items items2:Array Value) (n n2:Nat) (dd dd2:Option Addr) (sl sl2:Array (Option Value)) (ns ms:List Int) (hi:IntsAre items.toList ns) (hj:IntsAre items2.toList ms) :
  Meets (Builtin.«tuple.__lt__» ⟨[.ref l,.ref b],[]⟩)
   (fun _ R s=>s.heap.get? l=some { cls:=.type "tuple",dict:=dd,data:=.seq items n,slots:=sl }/\s.heap.get? b=some { cls:=.type "tuple",dict:=dd2,data:=.seq items2 n2,slots:=sl2 }/\
    R (.ok (.ret (.bool (b4 ns ms)))) s):=
 .of_wp fun prog w A R s h=>by
  obtain ⟨hp,g,d,tk,os⟩:=s; obtain ⟨hl,hb,h⟩:=h
  have f2:=AutoSeq1.sub_tuple_tuple
  have z1:items.size=ns.length:=by rw [<- hi.length]; simp
  have z2:items2.size=ms.length:=by rw [<- hj.length]; simp
  wp_walk using wpAny_loadPart' hl,wpAny_loadPart' hb,wpAny_forIn_list _ (fun bS b s'=>b.1=none/\s'=⟨hp,g,d,tk,os⟩/\∃ (vs ws:List Value) (ns' ms':List Int),bS=vs.zip ws/\
   IntsAre vs ns'/\IntsAre ws ms'/\ns'.length+items2.size=ms'.length+items.size/\R (.ok (.ret (.bool (b4 ns' ms')))) ⟨hp,g,d,tk,os⟩) _
  case turn=>
   rintro ⟨y,x⟩ bS b s' ⟨hb',rfl,vs,ws,ns',ms',hz,hvi,hwi,hlen,hR⟩
   cases hvi with
   | nil=>rw [List.zip_nil_left] at hz; cases hz
   | cons a t hvi'=>
    cases hwi with
    | nil=>rw [List.zip_nil_right] at hz; cases hz
    | cons c u hwi'=>
     rw [List.zip_cons_cons] at hz
     injection hz with hyx hrest
     injection hyx with hy hx
     subst hy hx
     rw [fP] at hR
     simp only [ag6] at hlen
     obtain ⟨e,he,hiff⟩:=yH A.in1 ⟨hp,g,d,tk,os⟩ a t c u
     refine ac9 (he prog w _ _ ?_)
     cases e with
     | true=>
      rw [if_pos (hiff.mp rfl)] at hR
      wp_walk
      exact⟨rfl,rfl,_,_,_,_,hrest,hvi',hwi',by omega,hR⟩
     | false=>
      rw [if_neg (fun q=>absurd (hiff.mpr q) ae9)] at hR
      have hri:=yI A.in1 ⟨hp,g,d,tk,os⟩ a t c u prog w
      wp_walk using hri
      exact⟨_,rfl,by simpa using hR⟩
  case fin=>
   rintro ⟨b1,b2⟩ s' ⟨hb',rfl,vs,ws,ns',ms',hz,hvi,hwi,hlen,hR⟩
   simp only at hb'
   subst hb'
   have hv:b4 ns' ms'=decide (items.size < items2.size):=by
    cases hvi with
    | nil=>
     cases hwi with
     | nil=>
      simp only [List.length_nil] at hlen
      rw [qT]
      exact (ad7 (by omega)).symm
     | cons c u hw=>
      simp only [List.length_nil,ag6] at hlen
      rw [yF]
      exact (af0 (by omega)).symm
    | cons a t hv=>
     cases hwi with
     | nil=>
      simp only [List.length_nil,ag6] at hlen
      rw [yG]
      exact (ad7 (by omega)).symm
     | cons c u hw=>
      rw [List.zip_cons_cons] at hz
      cases hz
   rw [hv] at hR
   wp_walk
   exact⟨_,rfl,by simpa [Builtin.Tuple.tupleCompareSizes] using hR⟩
  case h=>
   exact⟨rfl,rfl,items.toList,items2.toList,ns,ms,rfl,hi,hj,by omega,h⟩
end
section
variable {prog : Program} {w : World} {A : Around} {E : Value → Shared → Prop} {s : Shared}
theorem yK {l b:Addr}{items items2:Array Value}{ns ms:List Int}{Q:Value->Shared->Prop} (hl:IsTup s.heap l items) (hb:IsTup s.heap b items2) (hi:IntsAre items.toList ns) (hj:IntsAre items2.toList ms)
  (hu:A.units < cLine) (h:Q (.bool (b4 ns ms)) s):wpAny (model prog w) A (compareOp .Lt (.ref l) (.ref b)) Q E s:=by
 obtain ⟨⟨cls,dd,data,sl⟩,ho,hc,n,hd⟩:=id hl
 obtain ⟨⟨cls2,dd2,data2,sl2⟩,ho2,hc2,n2,hd2⟩:=id hb
 simp only at hc hd hc2 hd2
 subst hc hd hc2 hd2
 exact richCompare_meets_room (op:=.Lt) ⟨_,ho,rfl⟩ ⟨_,ho2,rfl⟩ PySem.F.slot_tuple_lt PySem.F.entry_tuple_lt (PySem.F.args_tuple_lt_2 _ _) (yJ l b items items2 n n2 dd dd2 sl sl2 ns ms hi hj)
  ⟨ho,ho2,show Value.bool (b4 ns ms) ≠ Value.notImplemented/\Q (.bool (b4 ns ms)) s from ⟨(fun x=>nomatch x),h⟩⟩ hu
def aJ (n d:Nat):Option Int->Nat
 | none=>d
 | some v=>if v < 0 then (v+(n:Int)).toNat else min v.toNat n
theorem yL (n d k:Nat):aJ n d (some (k:Int))=min k n:=by
 show (if (k:Int) < 0 then ((k:Int)+(n:Int)).toNat else min (k:Int).toNat n)=min k n
 rw [if_neg (by omega),Int.toNat_natCast]
theorem yM (n d:Nat) (hd:d<=n) (o:Option Int):aJ n d o<=n:=by
 cases o with
 | none=>exact hd
 | some v=>
  show (if v < 0 then (v+(n:Int)).toNat else min v.toNat n)<=n
  by_cases hv:v < 0
  ·rw [if_pos hv]; omega
  ·rw [if_neg hv]; exact Nat.min_le_right _ _
theorem qU (v:Int) (n d:Nat):(if v < 0 then max (v+(n:Int)) 0 else min v (n:Int))=((aJ n d (some v):Nat):Int):=by
 show (if v < 0 then max (v+(n:Int)) 0 else min v (n:Int))=(((if v < 0 then (v+(n:Int)).toNat else min v.toNat n):Nat):Int)
 by_cases hv:v < 0
 ·simp only [if_pos hv]; omega
 ·simp only [if_neg hv]; omega
theorem yN (lo hi:Option Int) (n:Nat):Builtin.Slice.sliceAdjust lo hi 1 (n:Int)=(((aJ n 0 lo:Nat):Int),((aJ n n hi:Nat):Int)):=by
 have h1 : ¬ ((1:Int) < 0):=by omega
 unfold Builtin.Slice.sliceAdjust
 simp only [h1,ah6]
 refine Prod.ext ?_ ?_
 ·cases lo with
  | none=>rfl
  | some v=>exact qU v n 0
 ·cases hi with
  | none=>rfl
  | some v=>exact qU v n n
theorem yO (i j:Nat):Builtin.Slice.slicePlaces (i:Int) (j:Int) 1=j - i:=by
 unfold Builtin.Slice.slicePlaces
 have h1:(1:Int) > 0:=by omega
 simp only [h1,if_true,Int.ediv_one]
 split <;> omega
theorem qV {v:Value}{o:Option Int}{Q:Option Int->Shared->Prop} (p:IsPart v o) (h:Q o s):wpAny (model prog w) A (Builtin.Slice.slicePartIndex v) Q E s:=by
 cases p with
 | none=>exact slicePart_none h
 | int i t=>exact slicePart_int h
theorem qW {sl:Addr}{vl vu:Value}{lo hi:Option Int}{n:Nat}{Q:Int × Int × Nat->Shared->Prop} (hs:s.heap.IsSliceOf sl vl vu .none) (pl:IsPart vl lo) (pu:IsPart vu hi)
  (h:Q (((aJ n 0 lo:Nat):Int),1,aJ n n hi - aJ n 0 lo) s):wpAny (model prog w) A (Builtin.Slice.sliceApplied (.ref sl) (pure (n:Int))) Q E s:=by
 obtain ⟨os,hos,hcs,hds⟩:=id hs
 unfold Builtin.Slice.sliceApplied Builtin.Slice.sliceFields
 refine ac9 (ac9 (ai3 hos hds (x:=vl) rfl (ac9 (ai3 hos hds (x:=vu) rfl (ac9 (ai3 hos hds (x:=.none) rfl (ad3 ?_)))))))
 refine ac9 (slicePart_none ?_)
 show wpAny _ _ (if ((1:Int) == 0)=true then _ else _) _ _ s
 rw [if_neg (by decide)]
 refine ac9 (qV pl (ac9 (qV pu (ac9 (ad3 ?_)))))
 show wpAny _ _ (match Builtin.Slice.sliceAdjust lo hi 1 (n:Int) with | (lo,hi)=>pure (lo,(1:Int),Builtin.Slice.slicePlaces lo hi 1)) _ _ s
 rw [yN lo hi n]
 show wpAny _ _ (pure (((aJ n 0 lo:Nat):Int),(1:Int),Builtin.Slice.slicePlaces ((aJ n 0 lo:Nat):Int) ((aJ n n hi:Nat):Int) 1)) _ _ s
 rw [yO]
 exact ad3 h
theorem yP (xs:Array Value) (i k:Nat):((List.range k).filterMap fun (m:Nat)=>xs[((i:Int)+(m:Int) * 1).toNat]?).toArray=((xs.toList.drop i).take k).toArray:=by
 have e:(fun (m:Nat)=>xs[((i:Int)+(m:Int) * 1).toNat]?)=fun m=>xs[i+m]?:=by
  funext m
  have:((i:Int)+(m:Int) * 1).toNat=i+m:=by omega
  rw [this]
 rw [e]
 have:=pick_run xs i k
 rw [List.filterMap_map] at this
 have e2:((fun x=>xs[x]?) ∘ fun x=>i+x)=fun m=>xs[i+m]?:=rfl
 rw [e2] at this
 rw [this]
theorem yQ {t sl:Addr}{items:Array Value}{vl vu:Value}{lo hi:Option Int}{Q:Value->Shared->Prop} (ht:IsTup s.heap t items) (hs:s.heap.IsSliceOf sl vl vu .none) (pl:IsPart vl lo) (pu:IsPart vu hi)
  (hw : ¬ (aJ items.size 0 lo=0/\aJ items.size items.size hi=items.size))
  (h:Q (.ref s.heap.objs.size) { s with heap:=s.heap.push { cls:=.type "tuple",data:=.seq ((items.toList.drop (aJ items.size 0 lo)).take (aJ items.size items.size hi - aJ items.size 0 lo)).toArray } })
  (hsz:items.size<=sizeLine):wpAny (model prog w) A (getItem (.ref t) (.ref sl)) Q E s:=by
 have htake:sizeOk (.seq ((items.toList.drop (aJ items.size 0 lo)).take (aJ items.size items.size hi - aJ items.size 0 lo)).toArray):=by
  show ((items.toList.drop (aJ items.size 0 lo)).take (aJ items.size items.size hi - aJ items.size 0 lo)).toArray.size<=sizeLine
  rw [ae3,List.length_take,ak2,ai8]
  omega
 have hj:aJ items.size items.size hi<=items.size:=yM _ _ (ad6 _) hi
 obtain ⟨os,hos,hcs,hds⟩:=id hs
 have hTs:s.TypeIs (.ref sl) "slice":=⟨os,hos,hcs⟩
 unfold getItem
 try with_reducible refine wpAny_holding ?_
 first | refine ac9 (ad3 ?_) | skip
 refine ac9 (wpAny_sequenceKey ht.typeIs (by decide) ?_)
 refine ac9 (ah4 (name:=Str.ofString "__getitem__") ht.typeIs aj1
  (ai6 aj1 ht.typeIs entry_tuple_getitem ?_ (args_tuple_getitem _ _)))
 show wpAny _ _ (Builtin.Tuple.tupleItemsOf (.ref t) >>= _) _ _ s
 refine ac9 (tupleItemsOf_ ht ?_)
 refine ac9 (wpAny_typeOf hTs ?_)
 rw [if_pos (by decide)]
 refine ac9 (qW hs pl pu ?_)
 have hno : ¬ ((((aJ items.size 0 lo:Nat):Int) == 0 && (1:Int) == 1 && (aJ items.size items.size hi - aJ items.size 0 lo) == items.size)=true):=by
  intro q
  rw [aj2,aj2] at q
  have q1:((aJ items.size 0 lo:Nat):Int)=0:=eq_of_beq q.1.1
  have q2:aJ items.size items.size hi - aJ items.size 0 lo=items.size:=eq_of_beq q.2
  exact hw ⟨by omega,by omega⟩
 show wpAny _ _ (if (((aJ items.size 0 lo:Nat):Int) == 0 && (1:Int) == 1 && (aJ items.size items.size hi - aJ items.size 0 lo) == items.size)=true then _ else _) _ _ s
 rw [if_neg hno,yP]
 first
  | exact ac9 (m:=Builtin.Tuple.tupleExact _) (ah2 (ad3 ⟨_,rfl,ad3 h⟩) htake)
  | exact ac9 (m:=Builtin.Tuple.tupleExact _) (ah2 (ac9 (ad3 (ad3 ⟨_,rfl,ad3 h⟩))) htake)
  | exact ac9 (ac9 (m:=Builtin.Tuple.tupleExact _) (ah2 (ad3 (ad3 ⟨_,rfl,ad3 h⟩)) htake))
  | exact ac9 (ac9 (m:=Builtin.Tuple.tupleExact _) (ah2 (ad3 ⟨_,rfl,ad3 h⟩) htake))
end
end HT
namespace L2
open PySem PySem.Spec PyProof.Rows
abbrev TO:=St->Hp->(Option Int->Hp->Prop)->Prop
def PO (X:Cx) (e:Option Expr) (t:TO):Prop:=
 ∀ (pins:List (Addr × Obj)) (s:Shared) (σ:St) (H:Hp) (Q:Option Int->Hp->Prop),a5 X pins σ H s->t σ H Q->
  wpAny (model X.prog X.w) X.A (evalPart e X.env) (fun u s'=>∃ o H',a5 X pins σ H' s'/\IsPart u o/\Q o H') X.xe s
def yR:TO:=fun _ H Q=>Q none H
def yS (t:TE):TO:=fun σ H Q=>t σ H fun x H1=>∃ i,x = .int i/\Q (some i) H1
theorem k6 {ns:List Int}:∀ {us:List Value},aH (ns.map V.int) us->IntsAre us ns:=by
 induction ns with
 | nil=>intro us r; rw [List.map_nil] at r; cases r; exact .nil
 | cons n ns ih=>
  intro us r
  rw [ah0] at r
  cases r with
  | cons r1 r2=>
   obtain ⟨t,e⟩:=r1
   subst e
   exact .cons n t (ih r2)
section
variable {X : Cx} {e : Expr} {te : TE} {lo hi : Option Expr} {tl th : TO} {pos p2 : Pos}
theorem yT:PO X none yR:=by
 intro pins s σ H Q I h
 rw [evalPart_none]
 exact ad3 ⟨none,H,I,.none,h⟩
theorem yU (h:PE X e te):PO X (some e) (yS te):=by
 intro pins s σ H Q I hw
 rw [evalPart_some]
 refine aI (h pins s σ H _ I hw) fun u s1 ⟨x,H1,I1,r1,q1⟩=>?_
 obtain ⟨i,rfl,q⟩:=q1
 obtain ⟨t,rfl⟩:=r1
 exact⟨some i,H1,I1,.int i t,q⟩
def eV (X:Cx) (r:V->Option Int->Option Int->Hp->VK->Prop):Prop:=
 ∀ (pins:List (Addr × Obj)) (s:Shared) (σ:St) (H:Hp) (x:V) (v vl vu:Value) (lo hi:Option Int) (sl:Addr) (Q:VK),a5 X pins σ H s->aP x v->s.heap.IsSliceOf sl vl vu .none->IsPart vl lo->IsPart vu hi->r x lo hi H Q->
  ∃ T id,typeLookup (.type T) "__getitem__" = pure (some (.builtin id))/\s.TypeIs v T/\wpAny (model X.prog X.w) X.A (getItem v (.ref sl)) (EP X pins σ Q) X.xe s
theorem eV.or {r r':V->Option Int->Option Int->Hp->VK->Prop} (h:eV X r) (h':eV X r'):eV X (fun x lo hi H Q=>r x lo hi H Q ∨ r' x lo hi H Q):=by
 intro pins s σ H x v vl vu lo hi sl Q I rx hs pl pu q
 rcases q with q | q
 ·exact h pins s σ H x v vl vu lo hi sl Q I rx hs pl pu q
 ·exact h' pins s σ H x v vl vu lo hi sl Q I rx hs pl pu q
def yV (r:V->Option Int->Option Int->Hp->VK->Prop) (te:TE) (tl th:TO):TE:=fun σ H Q=>te σ H fun x H1=>tl σ H1 fun l H2=>th σ H2 fun u H3=>r x l u H3 Q
theorem qX {r:V->Option Int->Option Int->Hp->VK->Prop} (hr:eV X r) (he:PE X e te) (hl:PO X lo tl) (hu:PO X hi th):PE X (.Subscript e (.Slice lo hi none p2) pos) (yV r te tl th):=by
 intro pins s σ H Q I h
 refine Subscript_ (aI (he pins s σ H _ I h) fun v s1 ⟨x,H1,I1,r1,q1⟩=>?_)
 refine wpAny_Slice (aI (hl pins s1 σ H1 _ I1 q1) fun vl s2 ⟨l,H2,I2,pl,q2⟩=>aI (hu pins s2 σ H2 _ I2 q2) fun vu s3 ⟨u,H3,I3,pu,q3⟩=>?_)
 rw [evalPart_none]
 refine ad3 ?_
 have I4:a5 X pins σ H3 { s3 with heap:=s3.heap.push { cls:=.type "slice",data:=.fields #[vl,vu,.none] } }:=I3.kept (t':=s3.toks) fun b ob q=>ad0 _ q
 obtain ⟨T,id,hT,ht,hg⟩:=hr pins { s3 with heap:=s3.heap.push { cls:=.type "slice",data:=.fields #[vl,vu,.none] } } σ H3 x v vl vu l u s3.heap.objs.size Q I4 r1 (Heap.IsSliceOf.new ..) pl pu q3
 show wpAny (model X.prog X.w) X.A (subscriptTail e (.Slice lo hi none p2) v (.ref s3.heap.objs.size)) (EP X pins σ Q) X.xe { s3 with heap:=s3.heap.push { cls:=.type "slice",data:=.fields #[vl,vu,.none] } }
 exact tail_any (ops:=[.ref s3.heap.objs.size,v]) ht hT hg (by with_unfolding_all rfl)
def dR (xs:List V) (lo hi:Option Int):List V:=(xs.drop (HT.aJ xs.length 0 lo)).take (HT.aJ xs.length xs.length hi - HT.aJ xs.length 0 lo)
theorem qY (xs:List V) (lo hi:Option Int):(dR xs lo hi).length<=xs.length:=by
 unfold dR
 rw [List.length_take,ak2]
 omega
def yW (K:PySem.W.Frag):V->Option Int->Option Int->Hp->VK->Prop:=fun x lo hi H Q=>∃ a xs,x = .ref a/\aO K H a xs/\
 ¬ (HT.aJ xs.length 0 lo=0/\HT.aJ xs.length xs.length hi=xs.length)/\∀ p,H p=none->Q (.ref p) (upd H p (.tup (dR xs lo hi)))
theorem yX:eV X (yW X.K):=by
 intro pins s σ H x v vl vu lo hi sl Q I rx hs pl pu h
 obtain ⟨a,xs,rfl,hx,hw,q⟩:=h
 cases rx
 obtain ⟨its,r,ht,hz⟩:=I.tuple hx
 have hlen:its.toArray.size=xs.length:=by rw [ae3]; exact r.length.symm
 refine⟨"tuple",_,PyProof.Rows.slot_tuple_getitem.lookup,ht.typeIs,?_⟩
 refine HT.yQ ht hs pl pu (by rw [hlen]; exact hw) ?_ (by rw [hlen]; exact hz)
 rw [hlen]
 refine⟨.ref s.heap.objs.size,_,I.laid (t':=s.toks) (o:=.tup (dR xs lo hi)) (fun b ob q=>ad0 _ q) (ad6 _) ?_,rfl,q _ (I.hok.fresh (ad6 _))⟩
 exact⟨ag1 (qY xs lo hi) hz,_,(r.drop (HT.aJ xs.length 0 lo)).take (HT.aJ xs.length xs.length hi - HT.aJ xs.length 0 lo),IsTup.new _ _,eO.new _ _ rfl⟩
def mK (K:PySem.W.Frag):R2:=fun x y H Q=>∃ a b ns ms,x = .ref a/\y = .ref b/\aO K H a (ns.map V.int)/\aO K H b (ms.map V.int)/\Q (.bl (HT.b4 ns ms)) H
theorem yY (hu:X.A.units < cLine):bM X (compareOp .Lt) (mK X.K):=by
 intro pins s σ H x y v u Q I rx ry h
 obtain ⟨a,b,ns,ms,rfl,rfl,ha,hb,q⟩:=h
 cases rx
 cases ry
 obtain ⟨its,r1,p1,_⟩:=I.tuple ha
 obtain ⟨its2,r2,p2,_⟩:=I.tuple hb
 have i1:IntsAre its.toArray.toList ns:=k6 r1
 have i2:IntsAre its2.toArray.toList ms:=k6 r2
 exact HT.yK p1 p2 i1 i2 hu ⟨.bl (HT.b4 ns ms),H,I,rfl,q⟩
end
def gL (n:Nat) (i:Int):Option Nat:=if 0<=i then (if i < n then some i.toNat else none) else if -(n:Int)<=i then some (i+n).toNat else none
def atI {α:Type} (xs:List α) (i:Int):Option α:=(gL xs.length i).bind fun j=>xs[j]?
theorem yZ {n:Nat}{i:Int}{j:Nat} (h:gL n i=some j):seqIndex? i n=some j/\j < n/\-(n:Int)<=i/\i < n:=by
 unfold gL at h
 by_cases h0:0<=i
 ·rw [if_pos h0] at h
  by_cases h1:i < n
  ·rw [if_pos h1] at h
   have e:i.toNat=j:=ae6 h
   exact⟨by rw [seqIndex_of h0 h1,e],by omega,by omega,h1⟩
  ·rw [if_neg h1] at h; cases h
 ·rw [if_neg h0] at h
  by_cases h1 : -(n:Int)<=i
  ·rw [if_pos h1] at h
   have e:(i+n).toNat=j:=ae6 h
   exact⟨by rw [seqIndex_neg (by omega) h1,e],by omega,h1,by omega⟩
  ·rw [if_neg h1] at h; cases h
theorem mL {α:Type}{xs:List α}{i:Int}{v:α} (h:atI xs i=some v):∃ j,seqIndex? i xs.length=some j/\xs[j]? = some v/\j < xs.length/\-(xs.length:Int)<=i/\i < xs.length:=by
 unfold atI at h
 cases e:gL xs.length i with
 | none=>rw [e] at h; cases h
 | some j=>
  rw [e] at h
  obtain ⟨h1,h2,h3,h4⟩:=yZ e
  exact⟨j,h1,h,h2,h3,h4⟩
theorem k7 {α:Type}{xs:List α}{j:Nat}{v:α} (h:xs[j]? = some v):atI xs (j:Int)=some v:=by
 have hj:j < xs.length:=(ae7.mp h).1
 have e:gL xs.length (j:Int)=some j:=by
  unfold gL
  rw [if_pos (by omega),if_pos (by omega)]; simp
 unfold atI; rw [e]; exact h
def mM (b:Expr):Prop:=∀ o i,subscripted b false o i=operate [o,i] (getItem o i)
def eW (X:Cx) (r:R2):Prop:=
 ∀ (value slice:Expr) (pins:List (Addr × Obj)) (s:Shared) (σ:St) (H:Hp) (x y:V) (v u:Value) (Q:VK),a5 X pins σ H s->aP x v->aP y u->r x y H Q->
  subscripted slice false v u=operate [v,u] (getItem v u)->wpAny (model X.prog X.w) X.A (subscriptTail value slice v u) (EP X pins σ Q) X.xe s
def mN (X:Cx) (id:String) (r:V->List V->Hp->VK->Prop):Prop:=
 ∀ (pins:List (Addr × Obj)) (s:Shared) (σ:St) (H:Hp) (x:V) (xs:List V) (v:Value) (us:List Value) (Q:VK),a5 X pins σ H s->aP x v->aH xs us->r x xs H Q->
  wpAny (model X.prog X.w) X.A (call (.builtin id) (v :: us)) (EP X pins σ Q) X.xe s
section
variable {X : Cx} {a b : Expr} {ta tb : TE} {pos : Pos}
theorem eW.or {r r':R2} (h:eW X r) (h':eW X r'):eW X (fun x y H Q=>r x y H Q ∨ r' x y H Q):=by
 intro value slice pins s σ H x y v u Q I rx ry q hs
 rcases q with q | q
 ·exact h value slice pins s σ H x y v u Q I rx ry q hs
 ·exact h' value slice pins s σ H x y v u Q I rx ry q hs
theorem qZ {r:R2} (hr:eW X r) (ha:PE X a ta) (hb:PE X b tb) (hs:mM b):PE X (.Subscript a b pos) (iY r ta tb):=by
 intro pins s σ H Q I h
 exact Subscript_ (m8 ha hb I h fun v u s2 x y H2 I2 rx ry q=>hr a b pins s2 σ H2 x y v u Q I2 rx ry q (hs _ _))
def r6 (K:PySem.W.Frag):R2:=fun x y H Q=>∃ p xs i v,x = .ref p/\y = .int i/\aM K H p xs/\atI xs i=some v/\Q v H
def r9 (K:PySem.W.Frag):R2:=fun x y H Q=>∃ p xs i v,x = .ref p/\y = .int i/\aO K H p xs/\atI xs i=some v/\Q v H
def mO:R2:=fun x y H Q=>∃ z i c,x = .str z/\y = .int i/\z.length<=sizeLine/\atI z.cps.toList i=some c/\Q (.str ⟨#[c]⟩) H
theorem z9:eW X (r6 X.K):=by
 intro value slice pins s σ H x y v u Q I rx ry h hs
 obtain ⟨p,xs,i,z,rfl,rfl,hq,he,q⟩:=h
 cases rx
 obtain ⟨t,rfl⟩:=ry
 obtain ⟨its,r,pl,hz⟩:=I.list hq
 obtain ⟨j,h1,h2,h3,h4,h5⟩:=mL he
 obtain ⟨w,ew,rw'⟩:=r.get h2
 have hl:=r.length
 have hn:=i5
 have fin:EP X pins σ Q w s:=⟨z,H,I,rw',q⟩
 by_cases h0:0<=i
 ·have hj:i.toNat=j:=by
   rw [seqIndex_of h0 h5] at h1
   exact ae6 h1
  exact item_listR pl.isList h0 (by omega) (by rw [hj]; simpa using ew) fin hs
 ·have hj:(i+(its.toArray.size:Int)).toNat=j:=by
   rw [seqIndex_neg (by omega) h4] at h1
   rw [ae3,<- hl]
   exact ae6 h1
  exact subscriptTail_builtinR (x:=w) pl.isList.typeIs slot_list_getitem.lookup
   (wpAny_getItem_list_neg (Q:=fun r s'=>r=w/\EP X pins σ Q r s') pl.isList (by omega) (by rw [ae3] <;> omega) (by omega) (by rw [hj]; simpa using ew) ⟨rfl,fin⟩) hs
theorem zA:eW X (r9 X.K):=by
 intro value slice pins s σ H x y v u Q I rx ry h hs
 obtain ⟨p,xs,i,z,rfl,rfl,hq,he,q⟩:=h
 cases rx
 obtain ⟨t,rfl⟩:=ry
 obtain ⟨its,r,pl,hz⟩:=I.tuple hq
 obtain ⟨j,h1,h2,h3,h4,h5⟩:=mL he
 obtain ⟨w,ew,rw'⟩:=r.get h2
 have hl:=r.length
 have hn:=i5
 have fin:EP X pins σ Q w s:=⟨z,H,I,rw',q⟩
 exact subscriptTail_builtinR (x:=w) pl.typeIs slot_tuple_getitem.lookup
  (getItem_tuple (j:=j) (Q:=fun r s'=>r=w/\EP X pins σ Q r s') pl (by omega) (by omega) (by rw [ae3,<- hl]; exact h1) (by simpa using ew) ⟨rfl,fin⟩) hs
theorem rA:eW X mO:=by
 intro value slice pins s σ H x y v u Q I rx ry h hs
 obtain ⟨z,i,c,rfl,rfl,hz,he,q⟩:=h
 obtain ⟨t,rfl⟩:=rx
 obtain ⟨t',rfl⟩:=ry
 obtain ⟨j,h1,h2,h3,h4,h5⟩:=mL he
 have hl:z.cps.toList.length=z.length:=by simp [Str.length]
 rw [hl] at h1 h4 h5
 have hn:=i5
 exact tail_any (typeIs_str s z t) slot_str_getitem.lookup (getItem_str (c:=c) (by
  have e1:decide (i < -(2 ^ 63:Int))=false:=ad7 (by omega)
  have e2:decide (i >= 2 ^ 63)=false:=ad7 (by omega)
  rw [e1,e2,Bool.or_false]) (by rw [h1]; simpa using h2) ⟨.str ⟨#[c]⟩,H,I.tok _,⟨_,rfl⟩,q⟩) hs
def rB (K:PySem.W.Frag):R2:=fun x y H Q=>r6 K x y H Q ∨ r9 K x y H Q ∨ mO x y H Q
theorem zB:eW X (rB X.K):=z9.or (zA.or rA)
theorem zC (lo hi:Option Int) (n:Nat):(sliceBounds lo hi none n).1=((HT.aJ n 0 lo:Nat):Int)/\(sliceBounds lo hi none n).2.1=((HT.aJ n n hi:Nat):Int)/\(sliceBounds lo hi none n).2.2=1:=by
 refine⟨?_,?_,rfl⟩
 ·cases lo with
  | none=>simp [sliceBounds,HT.aJ]
  | some i=>
   simp only [sliceBounds,HT.aJ,Option.getD_none,show (1:Int) > 0 by decide,if_true]
   by_cases h:i < 0
   ·simp only [h,if_true] <;> omega
   ·simp only [h,ah6] <;> omega
 ·cases hi with
  | none=>simp [sliceBounds,HT.aJ]
  | some i=>
   simp only [sliceBounds,HT.aJ,Option.getD_none,show (1:Int) > 0 by decide,if_true]
   by_cases h:i < 0
   ·simp only [h,if_true] <;> omega
   ·simp only [h,ah6] <;> omega
theorem zD (its:List Value) (lo hi:Option Int):slicePick its.toArray lo hi none=((its.drop (HT.aJ its.length 0 lo)).take (HT.aJ its.length its.length hi - HT.aJ its.length 0 lo)).toArray:=by
 obtain ⟨h1,h2,h3⟩:=zC lo hi its.toArray.size
 unfold slicePick
 rw [h1,h2,h3]
 simp only [sliceRange_one,pick_run,ae3] <;> rfl
def zE (K:PySem.W.Frag):V->Option Int->Option Int->Hp->VK->Prop:=fun x lo hi H Q=>∃ a xs,x = .ref a/\aM K H a xs/\∀ p,H p=none->Q (.ref p) (upd H p (.lst (dR xs lo hi)))
theorem zF:eV X (zE X.K):=by
 intro pins s σ H x v vl vu lo hi sl Q I rx hs pl pu h
 obtain ⟨a,xs,rfl,hx,q⟩:=h
 cases rx
 obtain ⟨its,r,ht,hz⟩:=I.list hx
 have hlen:=r.length
 refine⟨"list",_,slot_list_getitem.lookup,ht.isList.typeIs,?_⟩
 refine wpAny_getItem_list_slice ht.isList hs pl pu .none (by simp) ?_ (by rw [ae3] <;> omega)
 rw [zD,<- hlen]
 refine⟨.ref s.heap.objs.size,_,I.laid (t':=s.toks) (o:=.lst (dR xs lo hi)) (fun b ob q=>ad0 _ q) (ad6 _) ?_,rfl,q _ (I.hok.fresh (ad6 _))⟩
 exact⟨ag1 (qY xs lo hi) hz,_,0,(r.drop (HT.aJ xs.length 0 lo)).take (HT.aJ xs.length xs.length hi - HT.aJ xs.length 0 lo),ae1 _ rfl⟩
theorem zG:bW X (.builtin "len") (fun xs H Q=>∃ p ys,xs = [.ref p]/\(aM X.K H p ys ∨ aO X.K H p ys)/\Q (.int ys.length) H):=by
 intro pins s σ H xs us Q I r h
 obtain ⟨p,ys,rfl,hq,q⟩:=h
 obtain ⟨u,rfl,rx⟩:=dO r
 cases rx
 have hn:=i5
 rcases hq with hq | hq
 ·obtain ⟨its,r',pl,hz⟩:=I.list hq
  have hlen:=r'.length
  exact Calls.call_len_list pl.isList (by simp only [ae3] <;> omega) ⟨.int ys.length,H,I.tok _,⟨s.toks+1,by rw [ae3,hlen]⟩,q⟩
 ·obtain ⟨its,r',pl,hz⟩:=I.tuple hq
  have hlen:=r'.length
  exact len_tuple pl (by simp only [ae3] <;> omega) ⟨.int ys.length,H,I.tok _,⟨s.toks+1,by rw [ae3,hlen]⟩,q⟩
theorem zH:bW X (.builtin "len") (fun xs H Q=>∃ z,xs = [.str z]/\z.length<=sizeLine/\Q (.int z.length) H):=by
 intro pins s σ H xs us Q I r h
 obtain ⟨z,rfl,hz,q⟩:=h
 obtain ⟨u,rfl,t,rfl⟩:=dO r
 have hn:=i5
 exact len_str (by omega) ⟨.int z.length,H,I.tok _,⟨_,rfl⟩,q⟩
theorem bW.or {f:Value}{r r':List V->Hp->VK->Prop} (h:bW X f r) (h':bW X f r'):bW X f (fun xs H Q=>r xs H Q ∨ r' xs H Q):=by
 intro pins s σ H xs us Q I rs q
 rcases q with q | q
 ·exact h pins s σ H xs us Q I rs q
 ·exact h' pins s σ H xs us Q I rs q
theorem zI:bW X (.type "tuple") (fun xs H Q=>∃ p ys,xs = [.ref p]/\((aM X.K H p ys/\∀ l,H l=none->Q (.ref l) (upd H l (.tup ys))) ∨ (aO X.K H p ys/\Q (.ref p) H))):=by
 intro pins s σ H xs us Q I r h
 obtain ⟨p,ys,rfl,h⟩:=h
 obtain ⟨u,rfl,rx⟩:=dO r
 cases rx
 rcases h with ⟨hq,q⟩ | ⟨hq,q⟩
 ·obtain ⟨its,r',pl,hz⟩:=I.list hq
  have hlen:=r'.length
  refine call_tuple_list pl.isList (fun h' kp=>?_) (by simp only [ae3] <;> omega)
  have I1:a5 X pins σ H { s with heap:=h' }:=I.kept (t':=s.toks) kp
  have I2:a5 X pins σ (upd H h'.objs.size (.tup ys)) { s with heap:=h'.push { cls:=.type "tuple",data:=.seq its.toArray } }:=
   I1.laid (t':=s.toks) (fun b o e=>ad0 _ e) (ad6 _) (show b5 X.prog X.w _ _ _ (.tup ys) from ⟨hz,its,r',IsTup.new _ _,eO.new _ _ rfl⟩)
  exact⟨.ref h'.objs.size,_,I2,rfl,q _ (I1.hok.fresh (ad6 _))⟩
 ·obtain ⟨its,r',pl,hz⟩:=I.tuple hq
  exact call_tuple_same pl ⟨.ref p,H,I,rfl,q⟩
def k8 (K:PySem.W.Frag) (T:String) (x:V) (H:Hp):Prop:=match x with
 | .str _=>T="str"
 | .int _=>T="int"
 | .ref p=>(T="list"/\∃ xs,aM K H p xs) ∨ (T="tuple"/\∃ o,K.lookup p=some o/\o.cls = .type "tuple"/\o.dict=none) ∨
   (T="dict"/\((∃ kvs,H p=some (.dK kvs)) ∨ ∃ kvs,H p=some (.dT kvs))) ∨ (T="set"/\∃ S n,H p=some (.set S n))
 | _=>False
theorem zJ {pins:List (Addr × Obj)}{σ:St}{H:Hp}{s:Shared}{T:String}{x:V}{v:Value} (I:a5 X pins σ H s) (r:aP x v) (ty:k8 X.K T x H) :
  s.TypeIs v T/\∀ a,v = .ref a->∃ ob,s.heap.get? a=some ob/\ob.dict=none:=by
 cases x with
 | str z=>
  obtain ⟨t,rfl⟩:=r
  cases (show T="str" from ty)
  exact⟨typeIs_str s z t,fun _ e=>nomatch e⟩
 | int i=>
  obtain ⟨t,rfl⟩:=r
  cases (show T="int" from ty)
  exact⟨typeIs_int s i t,fun _ e=>nomatch e⟩
 | ref p=>
  cases r
  rcases ty with ⟨rfl,xs,hq⟩ | ⟨rfl,o,hk,hc,hd⟩ | ⟨rfl,hk⟩ | ⟨rfl,S,n,hk⟩
  ·obtain ⟨its,_,pl,_⟩:=I.list hq
   refine⟨pl.isList.typeIs,fun a e=>?_⟩
   cases e
   obtain ⟨o,n,e,c,hd,_⟩:=pl
   exact⟨o,e,hd⟩
  ·refine⟨⟨o,I.kIn p o hk,hc⟩,fun a e=>?_⟩
   cases e
   exact⟨o,I.kIn _ o hk,hd⟩
  ·have z:∃ o,s.heap.get? p=some o/\o.ExactDict:=by
    rcases hk with ⟨kvs,hk⟩ | ⟨kvs,hk⟩
    ·obtain ⟨_,_,_,_,o,_,_,e,ex,_⟩:=I.hok p _ hk
     exact⟨o,e,ex⟩
    ·obtain ⟨_,_,_,_,o,_,_,e,ex,_⟩:=I.hok p _ hk
     exact⟨o,e,ex⟩
   obtain ⟨o,e,ex⟩:=z
   refine⟨⟨o,e,ex.1⟩,fun a e2=>?_⟩
   cases e2
   exact⟨o,e,ex.2.1⟩
  ·obtain ⟨o,_,_,_,e,ex,_⟩:=I.hok p _ hk
   refine⟨⟨o,e,ex.1⟩,fun a e2=>?_⟩
   cases e2
   exact⟨o,e,ex.2.1⟩
 | _=>exact False.elim ty
def rC (K:PySem.W.Frag) (T:String) (r:V->List V->Hp->VK->Prop) (to:TE) (t:TA):TE:=fun σ H Q=>to σ H fun x H1=>k8 K T x H1/\t σ H1 fun xs H2=>r x xs H2 Q
variable {o e : Expr} {es : List Expr} {to : TE} {t : TA} {name : Str} {apos cpos : Pos} {T id : String} {r : V → List V → Hp → VK → Prop}
theorem mP (pa:PlainAttrs T) (slot:Slot T name id) (hty:typeOf (.builtin id)=pure (.type "method_descriptor")) (hm:mN X id r) (ho:PE X o to) (ha:PA X (e :: es) t)
  (hbase:attributeBase o name X.env (eval o X.env)=eval o X.env:=by rfl)
  (hfew:((backTo cpos (starEach (e :: es) X.env)).all (fun x=>!x.1) && (backToKw cpos (keywordEach [] X.env)).all (fun x=>x.1.isSome)
   && decide ((e :: es).length+([]:List Keyword).length+(if ([]:List Keyword).isEmpty then 0 else 1) < 30))=true:=by rfl)
  (hline:(apos.endLine == cpos.line)=true:=by rfl) (hs:starEach (e :: es) X.env=(false,eval e X.env) :: starEach es X.env:=by rfl) (hplain:(backTo cpos (starEach es X.env)).any (·.1)=false:=by rfl) :
  PE X (.Call (.Attribute o name apos) (e :: es) [] cpos) (rC X.K T r to t):=by
 intro pins s σ H Q I h
 refine wpAny_Call_method_late hbase hfew hline rfl (aI (ho pins s σ H _ I h) fun v s1 ⟨x,H1,I1,r1,ty,q1⟩=>?_)
 obtain ⟨h1,h2⟩:=zJ I1 r1 ty
 refine⟨T,id,pa,slot,hty,h1,h2,?_⟩
 have hA:=ha cpos pins s1 σ H1 _ I1 q1
 rw [hs] at hA ⊢
 refine Calls.callWith_builtin (by show (false || (backTo cpos (starEach es X.env)).any (·.1))=false; rw [hplain] <;> rfl) (Calls.evalArgs_plain ?_)
 exact aI hA fun us s2 ⟨vs,H2,I2,r2,q2⟩=>hm pins s2 σ H2 x vs v us Q I2 r1 r2 q2
end
def zK (X:Cx) (id:String) (r:V->List V->Hp->VK->Prop):Prop:=
 ∀ (pins:List (Addr × Obj)) (s:Shared) (σ:St) (H:Hp) (x:V) (xs:List V) (v:Value) (us:List Value) (Q:VK),a5 X pins σ H s->aP x v->aH xs us->r x xs H Q->
  wpAny (model X.prog X.w) X.A (call (.builtin id) (v :: us)) (EP X pins σ Q) X.xe s
theorem aH.one {x:V}{us:List Value} (h:aH [x] us):∃ u,us = [u]/\aP x u:=by
 cases h with
 | cons r t=>
  cases t
  exact⟨_,rfl,r⟩
theorem aH.two {x y:V}{us:List Value} (h:aH [x,y] us):∃ u v,us = [u,v]/\aP x u/\aP y v:=by
 cases h with
 | cons r t=>
  cases t with
  | cons q t=>
   cases t
   exact⟨_,_,rfl,r,q⟩
section
variable {X : Cx} {pins : List (Addr × Obj)} {σ : St} {H : Hp} {s : Shared} {l b : Addr} {xs ys zs : List V}
theorem a5.lset {its its':List Value}{n:Nat}{f:Array Value->Array Value}{t':Nat} (I:a5 X pins σ H s) (hH:H l=some (.lst xs))
  (e:s.heap.get? l=some { cls:=.type "list",data:=.seq its.toArray n }) (hf:f its.toArray=its'.toArray) (hv:aH ys its') (hz:ys.length<=sizeLine) :
  a5 X pins σ (upd H l (.lst ys)) { s with heap:=s.heap.update l (Obj.mapSeq f),toks:=t' }:=by
 have q:=PySem.IsL.update e f
 rw [hf] at q
 refine I.write (x:=l) (e:=l) (by rw [hH]; exact trivial) (.inl rfl) (fun b' u hb hu=>(Heap.get?_update_other s.heap (Obj.mapSeq f) (Ne.symm hb)).trans hu) ⟨_,q⟩ ?_
 exact⟨hz,its',_,hv,q⟩
theorem a5.lstM (I:a5 X pins σ H s) (hH:H l=some (.lst xs)):xs.length<=sizeLine/\∃ (its:List Value) (n:Nat),aH xs its/\xs.length=its.length/\s.heap.get? l=some { cls:=.type "list",data:=.seq its.toArray n }:=by
 obtain ⟨z,its,n,r,e⟩:=I.hok l _ hH
 exact⟨z,its,n,r,r.length,e⟩
end
section
variable {X : Cx}
def rD:V->List V->Hp->VK->Prop:=fun x vs H Q=>∃ l xs y,x = .ref l/\vs = [y]/\H l=some (.lst xs)/\xs.length < sizeLine/\Q .non (upd H l (.lst (xs ++ [y])))
theorem rE:zK X "list.append" rD:=by
 intro pins s σ H x vs v us Q I rx rv h
 obtain ⟨l,xs,y,rfl,rfl,hH,hz,q⟩:=h
 cases rx
 obtain ⟨u,rfl,ru⟩:=rv.one
 obtain ⟨z,its,n,r,hl,e⟩:=I.lstM hH
 refine call_meets F.slot_list_append ⟨_,e,rfl⟩ F.entry_list_append (F.args_list_append_2 _ _) (PySem.list_append l its.toArray n u (by rw [ae3]; omega)) ⟨e,?_⟩
 refine⟨.non,_,I.lset (its':=its ++ [u]) hH e (by simp) (r.append (.cons ru .nil)) ?_,rfl,q⟩
 rw [af4,List.length_singleton]
 omega
end
section
variable {κ : Type} [DecidableEq κ]
def e9 (kvs:List (κ × V)) (k:κ):Option V:=(kvs.find? fun kv=>decide (kv.1=k)).map (·.2)
def cJ (kvs:List (κ × V)) (k:κ) (v:V):List (κ × V):=
 if (kvs.any fun kv=>decide (kv.1=k))=true then kvs.map (fun kv=>if kv.1=k then (kv.1,v) else kv) else kvs ++ [(k,v)]
theorem rF {p:κ × V}{r:List (κ × V)}{k:κ} (e:p.1=k):e9 (p :: r) k=some p.2:=by simp [e9,List.find?_cons,e]
theorem rG {p:κ × V}{r:List (κ × V)}{k:κ} (e : ¬ p.1=k):e9 (p :: r) k=e9 r k:=by simp [e9,List.find?_cons,e]
theorem rH (k:κ):∀ kvs:List (κ × V),(kvs.any fun kv=>decide (kv.1=k))=(e9 kvs k).isSome
 | []=>rfl
 | p :: r=>by
  rw [List.any_cons]
  by_cases e:p.1=k
  ·simp only [rF e,af0 e,Bool.true_or,Option.isSome_some]
  ·rw [rG e,ad7 e,Bool.false_or]; exact rH k r
theorem rJ (kvs:List (κ × V)) (k:κ) (v:V):(cJ kvs k v).length<=kvs.length+1:=by
 unfold cJ
 split
 ·rw [ad1]; omega
 ·rw [af4,ag6,List.length_nil]; omega
theorem i3.isSome_eq {o:Option V}{u:Option Value} (r:i3 o u):o.isSome=u.isSome:=by
 cases o with
 | none=>cases u with
  | none=>rfl
  | some _=>exact (show False from r).elim
 | some _=>cases u with
  | none=>exact (show False from r).elim
  | some _=>rfl
theorem KV.any {kvs:List (κ × V)}{vs:List (κ × Value)} (r:KV kvs vs) (k:κ):(kvs.any fun kv=>decide (kv.1=k))=vs.any fun kv=>decide (kv.1=k):=by
 unfold KV at r
 induction r with
 | nil=>rfl
 | cons h t ih=>rw [List.any_cons,List.any_cons,ih,h.1]
theorem KV.repl {kvs:List (κ × V)}{vs:List (κ × Value)} (r:KV kvs vs) (k:κ) {y:V}{u:Value} (ry:aP y u) :
  KV (kvs.map fun kv=>if kv.1=k then (kv.1,y) else kv) (vs.map fun kv=>if kv.1=k then (kv.1,u) else kv):=by
 unfold KV at r ⊢
 induction r with
 | nil=>exact .nil
 | @cons p q ps qs h t ih=>
  rw [ah0,ah0]
  refine .cons ?_ ih
  obtain ⟨h1,h2⟩:=h
  by_cases e:p.1=k
  ·rw [if_pos e,if_pos (h1.symm.trans e)]; exact⟨h1,ry⟩
  ·rw [if_neg e,if_neg (fun z=>e (h1.trans z))]; exact⟨h1,h2⟩
theorem KV.put {kvs:List (κ × V)}{vs:List (κ × Value)} (r:KV kvs vs) (k:κ) {y:V}{u:Value} (ry:aP y u):KV (cJ kvs k y) (stored vs k u):=by
 unfold cJ stored
 rw [r.any k]
 by_cases e:(vs.any fun kv=>decide (kv.1=k))=true
 ·rw [if_pos e,if_pos e]; exact r.repl k ry
 ·rw [if_neg e,if_neg e]; exact Paired.snoc r ⟨rfl,ry⟩
theorem KV.length {kvs:List (κ × V)}{vs:List (κ × Value)} (r:KV kvs vs):kvs.length=vs.length:=Paired.length r
end
theorem rK {P:Program}{w:World}{k:aG}{u:Value} (r:aP (kV k) u):(cG P w).is k u=true:=by
 cases k with
 | inl i=>obtain ⟨t,e⟩:=(show ∃ t,u=Value.int i t from r); subst e; exact w6 P w i t
 | inr x=>obtain ⟨t,e⟩:=(show ∃ t,u=Value.str x t from r); subst e; exact w9 P w x t
theorem rL {P:Program}{w:World}:∀ {ks:List aG}{us:List Value},aH (ks.map kV) us->ItemsAre (cG P w) ks us
 | [],_,r=>by rw [List.map_nil] at r; cases r; exact .nil
 | k :: ks,_,r=>by
  rw [ah0] at r
  cases r with
  | cons h t=>exact .cons (rK h) (rL t)
abbrev KT (H:Hp):List (List aG × V)->List (List aG × Addr × Value)->Prop:=Paired fun p q=>p.1=q.1/\H q.2.1=some (.tup (p.1.map kV))/\aP p.2 q.2.2
theorem KT.val {H:Hp}{kvs:List (List aG × V)}{xs:List (List aG × Addr × Value)} (r:KT H kvs xs) (k:List aG):i3 (e9 kvs k) ((atKey xs k).map (·.2)):=by
 induction r with
 | nil=>exact True.intro
 | @cons p q ps qs h t ih=>
  obtain ⟨h1,_,h2⟩:=h
  by_cases e:p.1=k
  ·have e':q.1=k:=h1.symm.trans e
   have b:atKey (q :: qs) k=some q.2:=by simp [atKey,List.find?_cons,e']
   rw [rF e,b]; exact h2
  ·have e' : ¬ q.1=k:=fun z=>e (h1.trans z)
   have b:atKey (q :: qs) k=atKey qs k:=by simp [atKey,List.find?_cons,e']
   rw [rG e,b]; exact ih
theorem KT.repl {H:Hp}{kvs:List (List aG × V)}{xs:List (List aG × Addr × Value)} (r:KT H kvs xs) (k:List aG) {y:V}{u:Value} (ry:aP y u) :
  KT H (kvs.map fun kv=>if kv.1=k then (kv.1,y) else kv) (xs.map (putAt k u)):=by
 induction r with
 | nil=>exact .nil
 | @cons p q ps qs h t ih=>
  rw [ah0,ah0]
  refine .cons ?_ ih
  obtain ⟨h1,h2,h3⟩:=h
  unfold putAt
  by_cases e:p.1=k
  ·rw [if_pos e,if_pos (h1.symm.trans e)]; exact⟨h1,h2,ry⟩
  ·rw [if_neg e,if_neg (fun z=>e (h1.trans z))]; exact⟨h1,h2,h3⟩
theorem KT.put {H:Hp}{kvs:List (List aG × V)}{xs:List (List aG × Addr × Value)} (r:KT H kvs xs) (k:List aG) {b:Addr}{y:V}{u:Value} (hb:H b=some (.tup (k.map kV))) (ry:aP y u) :
  KT H (cJ kvs k y) (storedH xs k b u):=by
 have e:(kvs.any fun kv=>decide (kv.1=k))=(atKey xs k).isSome:=by
  rw [rH,(r.val k).isSome_eq,Option.isSome_map]
 unfold cJ storedH
 rw [e]
 by_cases q:(atKey xs k).isSome=true
 ·rw [if_pos q,if_pos q]; exact r.repl k ry
 ·rw [if_neg q,if_neg q]; exact Paired.snoc r ⟨rfl,hb,ry⟩
theorem KT.keeps {H H':Hp}{kvs:List (List aG × V)}{xs:List (List aG × Addr × Value)} (r:KT H kvs xs) (ht:∀ b ys,H b=some (.tup ys)->H' b=some (.tup ys)):KT H' kvs xs:=
 Paired.mapP r fun _ _ z=>⟨z.1,ht _ _ z.2.1,z.2.2⟩
section
variable {P : Program} {w : World} {H : Hp} {h : Heap} {a : Addr}
theorem rM {u:HO} (ok:b7 P w H h) (e:Rd H a u):b5 P w H h a u:=e.ok ok
theorem rN {kvs:List (aG × V)} (ok:b7 P w H h) (e:Rd H a (.dK kvs)):kvs.length<=sizeLine/\(a == sysModules)=false/\∃ vs,KV kvs vs/\h.DictOf (cG P w) a vs:=
 show b5 P w H h a (.dK kvs) from rM ok e
theorem zL {kvs:List (aG × V)} (ok:b7 P w H h) (e:H a=some (.dK kvs)):kvs.length<=sizeLine/\(a == sysModules)=false/\∃ vs,KV kvs vs/\h.DictOf (cG P w) a vs:=rN ok (.inl e)
theorem rO {ks:List aG} (ok:b7 P w H h) (e:H a=some (.tup (ks.map kV))):(tupleKind (cG P w)).is h ks a:=by
 obtain ⟨_,its,r,⟨o,h1,h2,n,h3⟩,_⟩:=(show b5 P w H h a (.tup (ks.map kV)) from ok a _ e)
 exact⟨o,its.toArray,n,h1,h2,h3,by simpa using rL r⟩
theorem zM {kvs:List (List aG × V)} (ok:b7 P w H h) (e:Rd H a (.dT kvs)):kvs.length<=sizeLine/\(a == sysModules)=false/\
  ∃ xs,KT H kvs xs/\h.DictOfH (tupleKind (cG P w)) a xs:=by
 obtain ⟨z,y,xs,r,o,es,ep,h1,h2,h3,h4,h5⟩:=(show b5 P w H h a (.dT kvs) from rM ok e)
 refine⟨z,y,xs,r,o,es,ep,h1,h2,h3,h4,fun x hx=>?_,h5⟩
 have all:∀ {l:List (List aG × V)}{m:List (List aG × Addr × Value)},KT H l m->∀ x ∈ m,(tupleKind (cG P w)).is h x.1 x.2.1:=by
  intro l m q
  induction q with
  | nil=>intro x hx; exact nomatch hx
  | @cons p q ps qs hq t ih=>
   intro x hx
   rcases ae0.mp hx with e | hx
   ·subst e
    exact rO ok (by rw [<- hq.1]; exact hq.2.1)
   ·exact ih x hx
 exact all r x hx
theorem zN {kvs:List (List aG × V)} (ok:b7 P w H h) (e:H a=some (.dT kvs)):kvs.length<=sizeLine/\(a == sysModules)=false/\
  ∃ xs,KT H kvs xs/\h.DictOfH (tupleKind (cG P w)) a xs:=zM ok (.inl e)
end
def j0 (H:Hp) (a:Addr) (y v:V) (H':Hp):Prop:=
 (∃ kvs k,H a=some (.dK kvs)/\y=kV k/\kvs.length < sizeLine/\H'=upd H a (.dK (cJ kvs k v))) ∨
 ∃ kvs k b,H a=some (.dT kvs)/\y = .ref b/\H b=some (.tup (k.map kV))/\kvs.length < sizeLine/\H'=upd H a (.dT (cJ kvs k v))
theorem j0.t {H:Hp}{a b:Addr}{kvs:List (List aG × V)}{k:List aG}{v:V} (e:H a=some (.dT kvs)) (eb:H b=some (.tup (k.map kV))) (hl:kvs.length < sizeLine) :
  j0 H a (.ref b) v (upd H a (.dT (cJ kvs k v))):=.inr ⟨kvs,k,b,e,rfl,eb,hl,rfl⟩
section
variable {X : Cx} {pins : List (Addr × Obj)} {σ : St} {H : Hp} {s : Shared} {a : Addr} {y v : V} {u r : Value} {o : Option V} {A : Around} {E : Value → Shared → Prop}
theorem a5.big (I:a5 X pins σ H s):sysModules < s.heap.objs.size:=by
 have h:mainGlobals < s.heap.objs.size:=(I.mod.glob.keeps I.bk).lt
 exact Nat.lt_trans (by decide) h
theorem rP {h':Heap}{t':Nat}{ob:HO} (I:a5 X pins σ H s) (mu:iT (H a)) (hs:Heap.SameBut a s.heap h') (he:∃ q,h'.get? a=some q) (new:b5 X.prog X.w (upd H a ob) h' a ob) :
  a5 X pins σ (upd H a ob) { s with heap:=h',toks:=t' }:=
 I.write (x:=a) (e:=a) mu (.inl rfl) (fun b q hb z=>(hs.2 b hb).trans z) he new
theorem zO {P:Program}{w:World}{H':Hp}{h':Heap}{kvs:List (aG × V)}{vs:List (aG × Value)} (z:kvs.length<=sizeLine) (hd:(a == sysModules)=false) (rel:KV kvs vs) (dd:h'.DictOf (cG P w) a vs) :
  b5 P w H' h' a (.dK kvs):=⟨z,hd,vs,rel,dd⟩
theorem zP {H':Hp}{Q:Unit->Shared->Prop} (hu:A.units+1 < cLine) (I:a5 X pins σ H s) (g:j0 H a y v H') (ry:aP y u) (rv:aP v r) (h:∀ s',a5 X pins σ H' s'->Q () s') :
  wpAny (model X.prog X.w) A (setItem (.ref a) u r) Q E s:=by
 rcases g with ⟨kvs,k,e,ey,l,eH⟩ | ⟨kvs,k,b,e,ey,eb,l,eH⟩
 ·subst ey eH
  obtain ⟨z,hd,vs,rel,dd⟩:=zL I.hok e
  have hz:vs.length<=sizeLine:=by rw [<- rel.length]; exact z
  have hl:(cJ kvs k v).length<=sizeLine:=by have:=rJ kvs k v; omega
  refine wpAny_setItem_pairs (hsz:=hz) (rK ry) dd fun h' dd' hs=>h _ ?_
  have he:∃ q,h'.get? a=some q:=let ⟨q,_,_,hq,_⟩:=dd'; ⟨q,hq⟩
  exact rP I (by rw [e]; exact True.intro) hs he (zO hl hd (rel.put k rv) dd')
 ·subst ey eH
  cases (show u=Value.ref b from ry)
  obtain ⟨z,hd,xs,rel,dd⟩:=zN I.hok e
  have hz:xs.length<=sizeLine:=by rw [<- Paired.length rel]; exact z
  have hl:(cJ kvs k v).length<=sizeLine:=by have:=rJ kvs k v; omega
  refine wpAny_setItem_heap (hsz:=hz) (tupleKind_room_in1 hu) (rO I.hok eb) dd fun h' dd' hs=>h _ ?_
  obtain ⟨q,es,ep,hq,h2,h3,h4,_,h5⟩:=dd'
  refine rP I (by rw [e]; exact True.intro) hs ⟨q,hq⟩ ⟨hl,hd,_,(rel.put k eb rv).keeps fun c ys ec=>?_,q,es,ep,hq,h2,h3,h4,h5⟩
  rw [aR (wA ec e (fun z=>nomatch z))]
  exact ec
end
section
variable {X : Cx} {pins : List (Addr × Obj)} {σ : St} {H : Hp} {s : Shared} {a : Addr} {kvs : List (aG × V)} {k : aG} {u : Value} {A : Around} {E : Value → Shared → Prop}
theorem zQ {Q:Value->Shared->Prop} (I:a5 X pins σ H s) (e:Rd H a (.dK kvs)) (h:∀ t s',a5 X pins σ H s'->Q (.int kvs.length t) s'):wpAny (model X.prog X.w) A (call (.builtin "len") [.ref a]) Q E s:=by
 obtain ⟨z,hd,vs,rel,dd⟩:=rN I.hok e
 refine call_len_dict hd dd (by rw [<- rel.length]; rw [sizeLine_eq] at z; omega) ?_
 rw [<- rel.length]
 exact h _ _ (I.tok _)
end
def rQ (td ty tv:TE):TS:=fun D σ H=>tv σ H fun v H1=>td σ H1 fun x H2=>ty σ H2 fun y H3=>∃ a H4,x = .ref a/\j0 H3 a y v H4/\D.nx σ H4
section
variable {X : Cx} {o i e value : Expr} {pos pos' tpos : Pos} {td ty tv : TE}
theorem zR (hu:X.A.units+1 < cLine) (ho:PE X o td) (hi:PE X i ty) (hv:PE X value tv) (hs:swapsWith value (some (.Subscript o i pos')) pos.line X.env=pure false) :
  PS X (.Assign [.Subscript o i pos'] value pos) (rQ td ty tv):=by
 intro pins s σ H D I h
 refine wpAny_Assign_Subscript (aI (hv pins s σ H _ I h) fun r s1 ⟨v,H1,I1,rv,q1⟩=>aI (ho pins s1 σ H1 _ I1 q1) fun u s2 ⟨x,H2,I2,rx,q2⟩=>aI (hi pins s2 σ H2 _ I2 q2) fun iv s3 ⟨y,H3,I3,ry,a,H4,ex,g,q3⟩=>?_) hs
 subst ex
 obtain rfl:u=Value.ref a:=rx
 exact zP hu I3 g ry rv fun s4 I4=>⟨σ,H4,I4,q3⟩
end
theorem zS {P:Program}{w:World}{H:Hp} (h:Heap) (hb:sysModules < h.objs.size):b5 P w H (h.push { cls:=.type "dict",data:=.dict #[] }) h.objs.size (.dT []):=
 ⟨ah7 _,beq_eq_false_iff_ne.mpr (Ne.symm (af7 hb)),[],.nil,_,#[],0,ae1 _ rfl,⟨rfl,rfl,rfl⟩,rfl,rfl,List.nodup_nil⟩
def rR:TE:=fun _ H Q=>∀ p,H p=none->Q (.ref p) (upd H p (.dT []))
section
variable {X : Cx} {pos : Pos}
theorem zT:PE X (.Dict [] [] pos) rR:=fun pins s σ H Q I h=>
 wpAny_Dict_empty ⟨.ref s.heap.objs.size,_,I.laid (a:=s.heap.objs.size) (o:=.dT []) (t':=s.toks) (fun _ _ q=>ad0 _ q) (ad6 _) (zS s.heap I.big),rfl,h _ (I.hok.fresh (ad6 _))⟩
end
end L2
namespace Att
open PySem PySem.W PySem.Calls PyProof.Rows
theorem zU {P:Params}{h:Heap}:∀ (ns:List Int) (vs:List Value),WellAll P h vs (ns.map WData.int)->IntsAre vs ns:=by
 intro ns
 induction ns with
 | nil=>
  intro vs w
  rw [List.map_nil] at w
  cases w
  exact .nil
 | cons n ns ih=>
  intro vs w
  rw [ah0] at w
  cases w with
  | cons a b=>
   cases a
   exact .cons _ _ (ih _ b)
theorem rS {l:OpenLaw}{n:Nat} (hn:l.most=some n) {P:Params}{h:Heap}{args:List WData}{vals:List Value}
  (hpre:l.row.toRowW.claim.pre args=true) (hwl:WellAll P h vals args) :
  ∃ a vs ns,vals = [Value.ref a]/\args = [WData.list (ns.map WData.int)]/\h.get? a=some { cls:=.type "list",data:=.seq vs.toArray }/\IntsAre vs ns/\ns.length<=n:=by
 have hsh:WShape.hasAll [] args [.list .int]=true:=(pre_splitW hpre).1
 have hc:l.pre.holds [] { args:=args }=true:=(pre_splitW hpre).2
 obtain ⟨d,r,rfl,h1,h2⟩:=hasAllW_cons hsh
 obtain rfl:=hasAllW_nil h2
 obtain ⟨xs,rfl,h3⟩:=hasW_list h1
 obtain ⟨ns,rfl⟩:=items_int h3
 have hlen:ns.length<=n:=by
  unfold OpenLaw.pre at hc
  have h4:(WTm.not (.lt (.lit (.int (n:Int))) (.len (.arg 0)))).holds [] { args:=[.list (ns.map .int)] }=true:=by
   have h4:=(holds_andW hc).1
   rw [hn] at h4
   exact h4
  have h5:=condW_of h4 (w_not (w_lt w_lit (w_len_list (w_arg rfl))))
  rw [ad1] at h5
  refine Nat.le_of_not_lt fun q=>?_
  have q':(n:Int) < ((ns.length:Nat):Int):=by omega
  first
   | (rw [af0 q'] at h5; exact absurd h5 (by decide))
   | (simp at h5; omega)
 cases hwl with
 | cons w1 w2=>
  cases w2
  cases w1 with
  | list ho hall=>exact⟨_,_,ns,rfl,rfl,ho,zU ns _ hall,hlen⟩
theorem rT (l:OpenLaw) (args:List WData):l.row.toRowW.claim.post args (.bool true) args=true:=
 postW_of (r:=l.row.toRowW) (X:=(true == true))
  (show WShape.has [] (.bool true) .bool=true by first | rfl | decide | simp [WShape.has,WShape.arms,WShape.armsAll])
  (show (WTm.eq .res (.lit (.bool true))).value [] { args:=args,res:=some (.bool true),after:=args }=some (.bool (true == true)) from w_eq_bool (w_res rfl) w_lit) rfl
theorem ac5 {l:OpenLaw}{n:Nat}{q:Program}{loose:List Str}{XP:(Str->Option Value)->Heap->Prop}{YP:World->Heap->Prop}{d:DefRec}{x:Str}
  (hn:l.most=some n) (hdf:d.params.defaults = [])
  (hbind:∀ pm cd doc v:Value,bindArgs (docDef d.name d.params d.body d.scope pm cd doc) ⟨[v],[]⟩=pure [(x,v)])
  (hx:d.scope.names.lookup x=some .local ∨ d.scope.names.lookup x=some .cell)
  (hk:d.scope.kind = .function) (hco:d.scope.isCoroutine=false) (hgen:d.scope.isGenerator=false)
  (body:∀ (w:World) (s₀ s₁ s:Shared) (mg mb:Str->Option Value) (fa:Addr) (o:Obj) (pm cd doc:Value) (a:Addr) (vs:List Value) (ns:List Int),
   Ground q loose [] XP w s₀ mg mb s₁.heap->YP w s₁.heap->
   s₁.heap.get? fa=some o->o.data = .func (docDef d.name d.params d.body d.scope pm cd doc)->s₁.heap.CodeRec cd d.name->mg d.name=some (.ref fa)->
   s₁.heap.get? a=some { cls:=.type "list",data:=.seq vs.toArray }->IntsAre vs ns->ns.length<=n->
   s.gens = #[]->s.os=s₁.os->
   Fr s₁.heap s₁.heap.objs.size s.heap (bindL (envOfC d.name d.scope s₁.heap.objs.size fa cd).kindOf [(x,.ref a)] fun _=>none)->
   Cl s₁.heap.objs.size (cellsFrom (s₁.heap.objs.size+1) d.scope.names []) s.heap (bindC (envOfC d.name d.scope s₁.heap.objs.size fa cd).kindOf [(x,.ref a)] fun _=>none)->
   wpAny (model l.prog w) (callerA.deeper (envOfC d.name d.scope s₁.heap.objs.size fa cd)) (execs d.body (envOfC d.name d.scope s₁.heap.objs.size fa cd))
    (fun f s'=>f = .ret (.bool true)/\OldK s₁.heap s'.heap/\s'.os=s₁.os/\AllBare s'.gens) (fun _ _=>False) s) :
  WalkO q loose XP YP l.row.toRowW d [] (fun f vs=>PySem.call f vs):=by
 intro w s₀ s₁ mg mb G Y fa o pm cd doc dV kV ho hd hcd hD hmg hg args vals as hpre hlay hrd hwl hlo
 obtain rfl:dV = .none:=Dflts.none hD hdf
 obtain rfl:kV = .none:=Dflts.noKw hD
 obtain ⟨a,vs,ns,rfl,rfl,hobj,hints,hlen⟩:=rS hn hpre hwl
 refine enter_call ?_
 refine call_cells_ret (o:=o) (by rw [depth_caller]; decide) ho (fd_plain hd) G.T.nolimit hcd (hbind pm cd doc (.ref a)) (fun y hy=>?_) (fun h₁ tk F X=>?_) hco hgen hk
 ·obtain rfl:y=(x,Value.ref a):=ae4.mp hy
  rcases hx with e | e
  ·exact .inl e
  ·exact .inr ⟨e,cellsFrom_some _ _ _ (.inl e)⟩
 ·refine ai7 (body w s₀ s₁ { s₁ with heap:=h₁,toks:=tk } mg mb fa o pm cd doc a vs ns G Y ho (fd_plain hd) hcd hmg hobj hints hlen hg rfl F X) (fun f s' hq=>?_) (fun _ _ hq=>hq)
  obtain ⟨rfl,h2,h3,h4⟩:=hq
  exact⟨.inl ⟨.bool true,.bool true,[],rfl,fun _=>rfl,.bool true,rT l _,fun _=>⟨List.Pairwise.nil,fun _ hm=>(nomatch hm)⟩⟩,h2,h3,h4⟩
theorem zV {l:OpenLaw}{n:Nat}{q:Program}{loose:List Str}{XP:(Str->Option Value)->Heap->Prop}{YP:World->Heap->Prop}{d:DefRec}
  (hn:l.most=some n) (hdf:d.params.defaults = [])
  (call:∀ (w:World) (s₀ s₁:Shared) (mg mb:Str->Option Value) (fa:Addr) (o:Obj) (pm cd doc:Value) (a:Addr) (vs:List Value) (ns:List Int),
   Ground q loose [] XP w s₀ mg mb s₁.heap->YP w s₁.heap->
   s₁.heap.get? fa=some o->o.data = .func (docDef d.name d.params d.body d.scope pm cd doc)->s₁.heap.CodeRec cd d.name->mg d.name=some (.ref fa)->
   s₁.heap.get? a=some { cls:=.type "list",data:=.seq vs.toArray }->IntsAre vs ns->ns.length<=n->s₁.gens = #[]->
   codeAny (model l.prog w) callerA (.call (.ref fa) ⟨[.ref a],[]⟩) (fun r s'=>r = .ok (.ret (.bool true))/\OldK s₁.heap s'.heap/\s'.os=s₁.os/\AllBare s'.gens) s₁) :
  WalkO q loose XP YP l.row.toRowW d [] (fun f vs=>PySem.call f vs):=by
 intro w s₀ s₁ mg mb G Y fa o pm cd doc dV kV ho hd hcd hD hmg hg args vals as hpre hlay hrd hwl hlo
 obtain rfl:dV = .none:=Dflts.none hD hdf
 obtain rfl:kV = .none:=Dflts.noKw hD
 obtain ⟨a,vs,ns,rfl,rfl,hobj,hints,hlen⟩:=rS hn hpre hwl
 refine enter_call (codeAny_mono (call w s₀ s₁ mg mb fa o pm cd doc a vs ns G Y ho (fd_plain hd) hcd hmg hobj hints hlen hg) fun r s' hq=>?_)
 obtain ⟨rfl,h2,h3,h4⟩:=hq
 exact⟨.inl ⟨.bool true,.bool true,[],rfl,fun _=>rfl,.bool true,rT l _,fun _=>⟨List.Pairwise.nil,fun _ hm=>(nomatch hm)⟩⟩,h2,h3,h4⟩
end Att
namespace L2
open PySem PySem.Spec PyProof.Rows
theorem rU:∀ {vs:List Value}{ns:List Int},IntsAre vs ns->aH (ns.map V.int) vs
 | _,_,.nil=>.nil
 | _,_,.cons n t h=>.cons ⟨t,rfl⟩ (rU h)
def k9 (H:Hp):Prop:=∀ b,H b=none ∨ ∃ o xs,H b=some (.frz o (.lst xs))
theorem zW {P:Program}{w:World}{K:PySem.W.Frag}{mg mb:Str->Option Value}{CX:dP}{k:Nat}{fa a:Addr}{fd:FuncData}{x:Str}{sp:Sp}{s₁:Shared}{vs:List Value}{ns:List Int}
  (KX:K.In s₁.heap) (hns:s₁.heap.Ns mainGlobals mg) (hb:s₁.heap.Ns builtinsNs mb) (hbb:∀ x:Str,x ≠ "__name__"->mb x=bootBuiltins x) (hlim:s₁.heap.NoLimit) (hg:s₁.gens = #[])
  (ha:s₁.heap.get? a=some { cls:=.type "list",data:=.seq vs.toArray }) (hi:IntsAre vs ns) (hl:ns.length<=sizeLine) (hr:bT k callerA)
  (F:∀ base:Heap,K.In base->base.Ns mainGlobals mg->cA P w K mg base CX k fa fd [x] sp) (hbind:∀ (s:Shared) (u:Value),BindsTo s fd ⟨[u],[]⟩ [(x,u)])
  (hsp:∀ H:Hp,k9 H->aM K H a (ns.map V.int)->sp [.ref a] H (fun v _=>v = .bl true) fun _ _ _=>False)
  (hCX:∀ H e s',CX [] H s₁ (fun _ _ _=>False) e s'->False) :
  codeAny (model P w) callerA (.call (.ref fa) ⟨[.ref a],[]⟩) (fun r s'=>r = .ok (.ret (.bool true))/\OldK s₁.heap s'.heap/\s'.os=s₁.os/\AllBare s'.gens) s₁:=by
 have rv:=rU hi
 have lenV:=hi.length
 have core:∀ H:Hp,k9 H->aM K H a (ns.map V.int)->b7 P w H s₁.heap->(∀ b,H b ≠ none->b=a)->(H a ≠ none->K.lookup a=none)->
   codeAny (model P w) callerA (.call (.ref fa) ⟨[.ref a],[]⟩) (fun r s'=>r = .ok (.ret (.bool true))/\OldK s₁.heap s'.heap/\s'.os=s₁.os/\AllBare s'.gens) s₁:=by
  intro H hO hS hok hA hK
  have base_of:∀ {b:Addr}{o:Obj},s₁.heap.get? b=some o->H b=none->(eQ s₁.heap H).get? b=some o:=fun e n=>wC e n
  have noA:∀ {b:Addr}{o:Obj}{es:Array DictEntry}{ep:Nat},s₁.heap.get? b=some o->o.data = .dict es ep->H b=none:=fun {b o es ep} e d=>by
   cases q:H b with
   | none=>rfl
   | some u=>
    have e':b=a:=hA b (by rw [q]; simp)
    subst e'
    rw [ha] at e; cases e
    have d':Data.seq vs.toArray _=Data.dict es ep:=d
    cases d'
  have nsK:∀ {b:Addr}{m:Str->Option Value},s₁.heap.Ns b m->(eQ s₁.heap H).Ns b m:=fun {b m} ⟨o,es,ep,e,d,r⟩=>⟨o,es,ep,base_of e (noA e d),d,r⟩
  have hKb:K.In (eQ s₁.heap H):=fun b o e=>base_of (KX b o e) (by
   cases q:H b with
   | none=>rfl
   | some u=>
    have e':b=a:=hA b (by rw [q]; simp)
    subst e'
    rw [hK (by rw [q]; simp)] at e; cases e)
  have hM:Mod K mg (eQ s₁.heap H):=⟨hKb,nsK hns,⟨mb,nsK hb,hbb⟩,let ⟨mc,h1,h2⟩:=hlim; ⟨mc,nsK h1,h2⟩⟩
  have e0:k0 P w K mg (eQ s₁.heap H) callerA [] s₁ H:=⟨rfl,hM,fun b o e=>wD e,Nat.le_of_eq (wB _ _),trivial,fun b hb=>absurd (show b ∈ ([]:List Addr) from hb) (by simp),hok,.of_eq hg⟩
  refine codeAny_mono ((F _ hKb (nsK hns)).run callerA [] s₁ H ⟨[.ref a],[]⟩ [.ref a] [.ref a] _ _ hr e0 (hbind s₁ (.ref a)) (.cons rfl .nil) (hsp H hO hS)) fun r s' h=>?_
  cases r with
  | error e=>exact (hCX H e s' h).elim
  | ok fl=>
   cases fl with
   | next=>exact False.elim h
   | brk=>exact False.elim h
   | cont=>exact False.elim h
   | ret u=>
    obtain ⟨v,H',os,bare,un,hok',r',q⟩:=h
    have q':v = .bl true:=q
    subst q'
    obtain rfl:u=Value.bool true:=r'
    refine⟨rfl,OldK.of_keep fun b o e=>?_,os,bare⟩
    cases q:H b with
    | none=>exact un.keep b o e q (by intro z; exact absurd (show b ∈ ([]:List Addr) from z) (by simp)) (by simp)
    | some u=>
     rcases hO b with z | ⟨ob,xs,z⟩
     ·rw [q] at z; cases z
     ·have z2:=un.frzs b ob _ z
      obtain ⟨e1,_⟩:=hok b _ z
      obtain ⟨e2,_⟩:=hok' b _ z2
      rw [e] at e1; cases e1
      exact e2
 cases hk:K.lookup a with
 | some o=>
  have e:=KX a o hk
  rw [ha] at e
  cases e
  refine core (fun _=>none) (fun _=>.inl rfl) (.inr ⟨_,vs.toArray,_,hk,rfl,rfl,rfl,by rw [ae3,lenV]; exact hl,by simpa using rv⟩) (fun b u z=>by have z':(none:Option HO)=some u:=z; cases z') (fun b z=>absurd rfl z) fun z=>absurd rfl z
 | none=>
  refine core (fun b=>if b=a then some (.frz { cls:=.type "list",data:=.seq vs.toArray } (.lst (ns.map V.int))) else none) (fun b=>?_) (.inl (.inr ⟨{ cls:=.type "list",data:=.seq vs.toArray },if_pos rfl⟩)) (fun b u z=>?_) (fun b z=>?_) fun _=>hk
  ·by_cases hb:b=a
   ·exact .inr ⟨_,_,if_pos hb⟩
   ·exact .inl (if_neg hb)
  ·by_cases hb:b=a
   ·have z':=(if_pos hb).symm.trans z
    cases z'
    subst hb
    exact⟨ha,by rw [ad1]; exact hl,vs,_,rv,ha⟩
   ·have z':=(if_neg hb).symm.trans z
    cases z'
  ·by_cases hb:b=a
   ·exact hb
   ·exact absurd (if_neg hb) z
theorem zX {l:PySem.W.OpenLaw}{n k:Nat}{q:Program}{loose:List Str}{XP:(Str->Option Value)->Heap->Prop}{YP:World->Heap->Prop}{d:DefRec}{K:Params->PySem.W.Frag}{CX:World->dP}{sp:World->Sp}{x:Str}
  (hn:l.most=some n) (hn2:n<=sizeLine) (hdf:d.params.defaults = []) (hr:bT k callerA)
  (hY:∀ (w:World) (h:Heap),YP w h->(K w.params).In h)
  (F:∀ (w:World) (mg:Str->Option Value) (fa:Addr) (h:Heap),(K w.params).In h->h.Ns mainGlobals mg->mg d.name=some (.ref fa)->
   ∃ fd:FuncData,(∀ (s:Shared) (u:Value),BindsTo s fd ⟨[u],[]⟩ [(x,u)])/\
    ∀ base:Heap,(K w.params).In base->base.Ns mainGlobals mg->cA l.prog w (K w.params) mg base (CX w) k fa fd [x] (sp w))
  (hsp:∀ (w:World) (H:Hp) (a:Addr) (ns:List Int),ns.length<=n->k9 H->aM (K w.params) H a (ns.map V.int)->sp w [.ref a] H (fun v _=>v = .bl true) fun _ _ _=>False)
  (hCX:∀ (w:World) (H:Hp) (s:Shared) (e:Value) (s':Shared),CX w [] H s (fun _ _ _=>False) e s'->False) :
  PySem.W.WalkO q loose XP YP l.row.toRowW d [] (fun f vs=>PySem.call f vs):=by
 refine Att.zV hn hdf fun w s₀ s₁ mg mb fa o pm cd doc a vs ns G Y ho hd hcd hmg hobj hints hlen hg=>?_
 have KX:=hY w _ Y
 obtain ⟨fd,hb,hF⟩:=F w mg fa _ KX G.T.g hmg
 exact zW KX G.T.g G.T.b G.T.builtins G.T.nolimit hg hobj hints (ag1 hlen hn2) hr hF hb (fun H hO hS=>hsp w H a ns hlen hO hS) fun H e s'=>hCX w H s₁ e s'
def fQ (s:Stmt):Arguments:=match s with
 | .FunctionDef _ a _ _ _ _ _ _ _ _=>a
 | _=>{ posonlyargs:=[],args:=[],vararg:=none,kwonlyargs:=[],kw_defaults:=[],kwarg:=none,defaults:=[] }
def dC (s:Stmt):List Stmt:=match s with
 | .FunctionDef _ _ b _ _ _ _ _ _ _=>b
 | _=>[]
def aU (s:Stmt):Scope:=match s with
 | .FunctionDef _ _ _ _ _ _ sc _ _ _=>sc
 | _=>{ kind:=.function,names:=[],isGenerator:=false,isCoroutine:=false }
abbrev cK:dP:=fun _ _ _ _ _ _=>False
abbrev E0:XK:=fun _ _ _=>False
theorem zY {X:Cx}:mI cK X E0:=fun _ _ _ _ _ _ _ h=>h.elim
structure eB (K:PySem.W.Frag) (x qual:Str) (st:Stmt) (f:Addr) (fd:FuncData):Prop where
 ex:∃ (oc:Value) (od:Option Addr) (kV doc pm:Value) (an:Option Addr) (cdv ct:Value) (osl:Array (Option Value)),
  fd=PySem.W.fnOf x qual (fQ st) (dC st) (aU st) .none kV doc pm an cdv ct/\K.lookup f=some ⟨oc,od,.func fd,osl⟩/\PySem.W.codeIn K cdv qual=true
 kp:PySem.W.keepIn K (.ref f)=true
section
variable {P : Program} {w : World} {K : PySem.W.Frag} {mg : Str → Option Value} {base : Heap}
theorem eB.ok {x qual:Str}{st:Stmt}{f:Addr}{fd:FuncData}{N ps:List Str}{k:Nat}{sp:Sp} (F:eB K x qual st f fd) (S:FnScope N ps (aU st)) (len:∀ vs H Q E,sp vs H Q E->vs.length=ps.length)
  (hbody:∀ (cdv:Value) (A:Around) (outer:List Env) (s:Shared) (H:Hp) (vs:List V) (Q:VK) (E:XK),bT k (A.deeper (envOfC qual (aU st) s.heap.objs.size f cdv))->sp vs H Q E->
   ∃ t,cC (eU cK P w K mg base N qual (aU st) f cdv A outer s H E).nox (dC st) t/\t { nx:=fun _ H'=>Q .non H',rt:=Q } (dQ N vs) H):cA P w K mg base cK (k+1) f fd ps sp:=by
 obtain ⟨oc,od,kV,doc,pm,an,cdv,ct,osl,rfl,lk,hcd⟩:=F.ex
 refine yD lk hcd S len fun A outer s H vs Q E hr hsp=>?_
 obtain ⟨t,h,q⟩:=hbody cdv A outer s H vs Q E hr hsp
 exact⟨t,h.nox,q⟩
theorem eB.binds {x qual:Str}{st:Stmt}{f:Addr}{fd:FuncData}{ps:List Str} (F:eB K x qual st f fd)
  (h:∀ (kV doc pm:Value) (an:Option Addr) (cdv ct:Value) (us:List Value),us.length=ps.length->bindArgs (PySem.W.fnOf x qual (fQ st) (dC st) (aU st) .none kV doc pm an cdv ct) ⟨us,[]⟩=pure (ps.zip us)):i8 K fd ps []:=by
 obtain ⟨oc,od,kV,doc,pm,an,cdv,ct,osl,rfl,lk,hcd⟩:=F.ex
 exact .all (h kV doc pm an cdv ct)
theorem zZ {x qual:Str}{st:Stmt}{f:Addr}{oc:Value}{od an:Option Addr}{osl:Array (Option Value)}{kV doc pm cdv ct:Value} (l:K.lookup f=some ⟨oc,od,.func (PySem.W.fnOf x qual (fQ st) (dC st) (aU st) .none kV doc pm an cdv ct),osl⟩)
  (c:PySem.W.codeIn K cdv qual=true) (k:PySem.W.keepIn K (.ref f)=true):eB K x qual st f (PySem.W.fnOf x qual (fQ st) (dC st) (aU st) .none kV doc pm an cdv ct):=⟨⟨oc,od,kV,doc,pm,an,cdv,ct,osl,rfl,l,c⟩,k⟩
end
theorem rV {A:Around}{k:Nat} (hr:bT k A):A.units+1 < cLine:=Nat.lt_of_le_of_lt (Nat.add_le_add_left (by decide:1<=64) _) hr.units
theorem A0 {n:Nat} (h:n<=1000):n < sizeLine:=Nat.lt_of_le_of_lt h (by decide)
section
variable {X : Cx}
theorem A1:bW X (.builtin "len") (fun xs H Q=>∃ a kvs,xs = [V.ref a]/\H a=some (.dK kvs)/\Q (.int kvs.length) H):=by
 intro pins s σ H xs us Q I r h
 obtain ⟨a,kvs,rfl,ha,q⟩:=h
 obtain ⟨u,rfl,ru⟩:=dO r
 cases ru
 exact zQ I (.inl ha) fun t s' I'=>⟨.int kvs.length,H,I',⟨t,rfl⟩,q⟩
end
theorem aT {A B:Prop} (h:B):if false=true then A else B:=by
 rw [if_neg ae9]
 exact h
theorem bU {A B:Prop} (h:A):if true=true then A else B:=by
 rw [if_pos rfl]
 exact h
def a9 (H H':Hp):Prop:=∀ b o,H b=some o->H' b=some o
theorem a9.refl (H:Hp):a9 H H:=fun _ _ h=>h
theorem a9.trans {H H1 H2:Hp} (a:a9 H H1) (b:a9 H1 H2):a9 H H2:=fun c o h=>b c o (a c o h)
theorem a9.free {H H':Hp} (e:a9 H H') {l:Addr} (h:H' l=Option.none):H l=Option.none:=by
 cases q:H l with
 | none=>rfl
 | some o=>
  rw [e l o q] at h
  cases h
def c6 (cells:List (Str × Addr)):List (Str × NameKind)->List (Str × Addr)->List (Str × Addr)
 | [],cs=>cs
 | (n,k) :: r,cs=>c6 cells r (if k == .free then (n,(cells.lookup n).getD 0) :: cs else cs)
theorem mQ {env:Env}:∀ (ns:List (Str × NameKind)) (cs:List (Str × Addr)),(∀ x ∈ ns,x.2 = .free->∃ c,env.cells.lookup x.1=some c)->
  (forIn ns cs (fun (x:Str × NameKind) r=>(match x with
   | (name,kind)=>if (kind == .free)=true then (do let y <- cellOf env name; pure (ForInStep.yield ((name,y) :: r))) else pure (ForInStep.yield r)):_->_->Sem _))=(pure (c6 env.cells ns cs):Sem (List (Str × Addr)))
 | [],cs,_=>by rw [List.forIn_nil]; rfl
 | (n,k) :: r,cs,h=>by
  rw [List.forIn_cons]
  have hr:∀ x ∈ r,x.2 = .free->∃ c,env.cells.lookup x.1=some c:=fun x hx=>h x (ad5 _ hx)
  cases hk:(k == NameKind.free) with
  | true=>
   have e:k = .free:=by simpa using hk
   obtain ⟨c,hc⟩:=h (n,k) ad2 e
   simp only [hk,if_true]
   have e1:cellOf env n=pure c:=by unfold cellOf; rw [hc]
   rw [e1]
   show ((pure c >>= fun y=>pure (ForInStep.yield ((n,y) :: cs))) >>= _:Sem _)=_
   rw [pure_bind,pure_bind]
   have:=mQ (env:=env) r ((n,c) :: cs) hr
   refine this.trans ?_
   unfold c6
   simp only [hk,if_true,hc,Option.getD_some]
   cases r <;> rfl
  | false=>
   simp only [hk,ae5,ah6]
   rw [pure_bind]
   have:=mQ (env:=env) r cs hr
   refine this.trans ?_
   conv=>rhs; unfold c6
   simp only [hk,ae5,ah6]
theorem rW {scope:Scope}{env:Env} (h:∀ x ∈ scope.names,x.2 = .free->∃ c,env.cells.lookup x.1=some c):closureFor scope env=pure (c6 env.cells scope.names []):=by
 have e:=mQ (env:=env) scope.names [] h
 unfold closureFor
 rw [show (pure (c6 env.cells scope.names []):Sem (List (Str × Addr)))=(pure (c6 env.cells scope.names []) >>= pure) by rw [pure_bind]]
 rw [<- e]
theorem kA {cells:List (Str × Addr)}:∀ (ns:List (Str × NameKind)) (cs:List (Str × Addr)) {x:Str}{c:Addr},(∀ y ∈ ns,y.2 = .free->∃ c,cells.lookup y.1=some c)->
  (∀ x c,cs.lookup x=some c->cells.lookup x=some c)->(c6 cells ns cs).lookup x=some c->cells.lookup x=some c
 | [],cs,x,c,_,hc,h=>hc x c h
 | (n,k) :: r,cs,x,c,hn,hc,h=>by
  unfold c6 at h
  have hr:∀ y ∈ r,y.2 = .free->∃ c,cells.lookup y.1=some c:=fun y hy=>hn y (ad5 _ hy)
  cases hk:(k == NameKind.free) with
  | false=>
   simp only [hk,ae5,ah6] at h
   exact kA r cs hr hc h
  | true=>
   simp only [hk,if_true] at h
   refine kA r _ hr (fun y d e=>?_) h
   obtain ⟨c0,h0⟩:=hn (n,k) ad2 (by simpa using hk)
   have h0:cells.lookup n=some c0:=h0
   rw [h0] at e
   rw [ag0] at e
   by_cases hyn:y=n
   ·subst hyn
    simp only [beq_self_eq_true,Option.getD_some] at e
    rw [h0]; exact e
   ·have:(y == n)=false:=beq_eq_false_iff_ne.mpr hyn
    simp only [this] at e
    exact hc y d e
theorem mR {cells:List (Str × Addr)}:∀ (ns:List (Str × NameKind)) (cs:List (Str × Addr)) {x:Str},((x,NameKind.free) ∈ ns ∨ ∃ c,cs.lookup x=some c)->∃ c,(c6 cells ns cs).lookup x=some c
 | [],cs,x,h=>by
  rcases h with h | h
  ·simp at h
  ·exact h
 | (n,k) :: r,cs,x,h=>by
  unfold c6
  refine mR r _ ?_
  rcases h with h | ⟨c,h⟩
  ·rcases ae0.mp h with e | e
   ·cases e
    exact .inr ⟨_,by simp [ag0]; rfl⟩
   ·exact .inl e
  ·right
   cases hk:(k == NameKind.free) with
   | false=>exact⟨c,by simpa [hk] using h⟩
   | true=>
    simp only [if_true]
    rw [ag0]
    by_cases hxn:(x == n)=true
    ·simp only [hxn]; exact⟨_,rfl⟩
    ·simp only [aj5.mpr hxn]; exact⟨c,h⟩
theorem kB {env:Env}:∀ {names:List (Str × NameKind)}{x:Str}{k:NameKind},(names.map fun (n,k)=>if (k == NameKind.free && env.scope.kind == .function && env.kindOf n == some .cell) then (n,NameKind.cell) else (n,k)).lookup x=some k->
  names.lookup x=some k ∨ (names.lookup x=some .free/\k = .cell)
 | [],_,_,h=>by simp at h
 | (n,q) :: r,x,k,h=>by
  have ih:=@kB env r x k
  rw [ah0] at h
  by_cases hx:(x == n)=true
  ·have e:x=n:=by simpa using hx
   subst e
   by_cases hc:(q == NameKind.free && env.scope.kind == .function && env.kindOf x == some .cell)=true
   ·simp only [hc,if_true,ag0,beq_self_eq_true] at h
    have hq:q = .free:=by simp at hc; exact hc.1.1
    exact .inr ⟨by simp [ag0,hq],(ae6 h).symm⟩
   ·simp only [hc,ae5,ah6,ag0,beq_self_eq_true] at h
    exact .inl (by simp [ag0]; exact ae6 h)
  ·have hx':(x == n)=false:=aj5.mpr hx
   have h':(r.map fun (n,k)=>if (k == NameKind.free && env.scope.kind == .function && env.kindOf n == some .cell) then (n,NameKind.cell) else (n,k)).lookup x=some k:=by
    by_cases hc:(q == NameKind.free && env.scope.kind == .function && env.kindOf n == some .cell)=true
    ·simp only [hc,if_true,ag0,hx'] at h; exact h
    ·simp only [hc,ae5,ah6,ag0,hx'] at h; exact h
   simp only [ag0,hx']
   exact ih h'
def cR (fr:List (Option Nat)) (σ:St):St:=fr.map fun o=>o.bind fun j=>(σ[j]?).join
def Wk (σ₁ σ₂:St):Prop:=σ₁.length=σ₂.length/\∀ (i:Nat) v,σ₁[i]? = some (some v)->σ₂[i]? = some (some v)
theorem eY:∀ (ns:List (Str × NameKind)) (n:Nat) (cs:List (Str × Addr)),cellsFrom n ns cs=cellsFrom n ns [] ++ cs
 | [],_,_=>rfl
 | (x,k) :: r,n,cs=>by
  unfold cellsFrom
  split
  ·rw [eY r (n+1) ((x,n) :: cs),eY r (n+1) [(x,n)]]; simp
  ·exact eY r n cs
theorem mS:∀ (ns:List (Str × NameKind)) (n:Nat) {x:Str}{c:Addr},(x,c) ∈ cellsFrom n ns []->(x,NameKind.cell) ∈ ns
 | [],_,_,_,h=>by simp [cellsFrom] at h
 | (y,k) :: r,n,x,c,h=>by
  unfold cellsFrom at h
  split at h
  ·rename_i hk
   rw [eY] at h
   rcases ag4.mp h with z | z
   ·exact ad5 _ (mS r _ z)
   ·rw [ae4] at z
    cases z
    have:k = .cell:=by simpa using hk
    rw [this]; exact ad2
  ·exact ad5 _ (mS r _ h)
theorem kC:∀ (ns:List (Str × NameKind)) (n:Nat) {x:Str},(x,NameKind.cell) ∈ ns->∃ c,(x,c) ∈ cellsFrom n ns []
 | (y,k) :: r,n,x,h=>by
  unfold cellsFrom
  rcases ae0.mp h with z | z
  ·cases z
   rw [if_pos (by rfl),eY]
   exact⟨n,af1 _ (by simp)⟩
  ·split
   ·obtain ⟨c,hc⟩:=kC r (n+1) z
    rw [eY]
    exact⟨c,List.mem_append_left _ hc⟩
   ·exact kC r n z
theorem mT {α:Type}:∀ {l:List (Str × α)}{x:Str}{c:α},(x,c) ∈ l->∃ d,l.lookup x=some d
 | (y,v) :: r,x,c,h=>by
  rw [ag0]
  cases hb:x == y with
  | true=>exact⟨v,rfl⟩
  | false=>
   rcases ae0.mp h with z | z
   ·cases z; simp at hb
   ·exact mT z
theorem kD {α:Type}{x:Str}:∀ (l r:List (Str × α)),(l ++ r).lookup x=(match l.lookup x with | some v=>some v | none=>r.lookup x)
 | [],_=>rfl
 | (y,v) :: l,r=>by
  rw [List.cons_append,ag0,ag0]
  cases hb:x == y with
  | true=>rfl
  | false=>exact kD l r
def dD (X:Cx) (scope:Scope) (C:Addr):List (Str × Addr):=cellsFrom (C+1) scope.names (c6 X.env.cells scope.names [])
theorem gM {X:Cx}{scope:Scope}{C:Addr}{x:Str}{c:Addr} (h:(dD X scope C).lookup x=some c) :
  (x,c) ∈ cellsFrom (C+1) scope.names [] ∨ ((∀ d,(x,d) ∉ cellsFrom (C+1) scope.names [])/\(c6 X.env.cells scope.names []).lookup x=some c):=by
 unfold dD at h
 rw [eY,kD] at h
 cases e:(cellsFrom (C+1) scope.names []).lookup x with
 | some v=>rw [e] at h; cases h; exact .inl (af6 e)
 | none=>
  rw [e] at h
  refine .inr ⟨fun d hd=>?_,h⟩
  obtain ⟨d',z⟩:=mT hd
  rw [e] at z; cases z
theorem A2 {X:Cx}{scope:Scope}{C:Addr}{x:Str}{c:Addr} (hn:(x,NameKind.cell) ∉ scope.names) (h:(c6 X.env.cells scope.names []).lookup x=some c):(dD X scope C).lookup x=some c:=by
 unfold dD
 rw [eY,kD]
 cases e:(cellsFrom (C+1) scope.names []).lookup x with
 | some v=>exact absurd (mS _ _ (af6 e)) hn
 | none=>exact h
theorem rX {X:Cx}{scope:Scope}{C:Addr}{x:Str} (h:(x,NameKind.cell) ∈ scope.names ∨ ∃ c,(c6 X.env.cells scope.names []).lookup x=some c):∃ c,(dD X scope C).lookup x=some c:=by
 unfold dD
 rw [eY,kD]
 cases e:(cellsFrom (C+1) scope.names []).lookup x with
 | some v=>exact⟨v,rfl⟩
 | none=>
  rcases h with h | h
  ·obtain ⟨c,hc⟩:=kC scope.names (C+1) h
   obtain ⟨d,hd⟩:=mT hc
   rw [e] at hd; cases hd
  ·exact h
def bH (X:Cx) (scope:Scope) (N:List Str) (s:Shared) (H:Hp) (C:Addr) (fp:List Addr) (E:Value->Shared->Prop):Cx:=
 { X with N:=N,s₀:=s,H₀:=H,env:=compEnvC scope (dD X scope C) C X.env,outer:=X.stack,ex:=fp,fn:=fun x=>scope.names.lookup x == some .cell,pn:=[],xe:=E }
structure cL (X:Cx) (scope:Scope) (N:List Str) (fr:List (Option Nat)):Prop where
 kind:scope.kind = .function
 own:∀ y ∈ scope.names,y.2 = .cell->scope.names.lookup y.1=some .cell
 names:∀ y ∈ scope.names,y.2 = .local->scope.names.lookup y.1=some .local
 free:∀ y ∈ scope.names,y.2 = .free->X.env.scope.names.lookup y.1=some .cell ∨ X.env.scope.names.lookup y.1=some .free
 len:fr.length=N.length
 from_:∀ (i j:Nat),fr[i]? = some (some j)->∃ x,N[i]? = some x/\X.N[j]? = some x/\scope.names.lookup x=some .free
section
variable {X : Cx} {pins : List (Addr × Obj)} {σ : St} {H : Hp} {s : Shared} {scope : Scope} {N : List Str} {fr : List (Option Nat)}
theorem cL.cells (S:cL X scope N fr) (I:a5 X pins σ H s):∀ y ∈ scope.names,y.2 = .free->∃ c,X.env.cells.lookup y.1=some c:=fun y hy hk=>I.ok.has y.1 (S.free y hy hk)
theorem A3 {C D:Addr}{fp:List Addr}{E:Value->Shared->Prop}{h1:Heap}{tk:Nat}{m:Str->Option Value} (S:cL X scope N fr) (I:a5 X pins σ H s)
  (hf:∀ b ∈ fp,cQ X pins H b) (hfl:∀ b ∈ fp,b < s.heap.objs.size) (hD:s.heap.objs.size<=D) (hC:s.heap.objs.size<=C) (hDC:D < C)
  (old:∀ b o,s.heap.get? b=some o->h1.get? b=some o) (hns:h1.Ns C m) (hacc:h1.get? D=some { cls:=.type "list",data:=.seq #[] 0 }) (hco:CellsOk h1 (C+1) (cellsFrom (C+1) scope.names [])) :
  a5 (bH X scope N s H C fp E) [] (cR fr σ) (upd H D (.lst [])) { s with heap:=h1,toks:=tk }:=by
 have hHD:H D=none:=I.hok.fresh hD
 have cl:=S.cells I
 have cs:∀ {x:Str}{c:Addr},(c6 X.env.cells scope.names []).lookup x=some c->X.env.cells.lookup x=some c:=fun {x c} h=>kA scope.names [] cl (fun _ _ z=>by simp at z) h
 have clt:∀ {x:Str}{c:Addr},X.env.cells.lookup x=some c->c < s.heap.objs.size:=fun {x c} h=>by obtain ⟨v,z⟩:=I.cell x c h; exact z.lt
 have nge:∀ {x:Str}{c:Addr},(x,c) ∈ cellsFrom (C+1) scope.names []->C < c:=fun {x c} h=>(hco.empty x c h).2
 refine⟨⟨I.ok.mod,?_,I.ok.glob,I.ok.blt,hC,?_,?_,?_,I.ok.hd,I.ok.frames,.inl rfl,?_,I.bs,ag1 I.ok.bsz I.sz,?_,?_,I.stack,I.stkFree⟩,rfl,I.bare,Un.laid old hD hHD,⟨m,hns,?_⟩,?_,?_,?_,fun p hp=>absurd (show p ∈ ([]:List (Addr × Obj)) from hp) (by simp),?_,?_⟩
 ·exact S.kind
 ·intro x y c h1 h2
  rcases gM h1 with a | ⟨_,a⟩ <;> rcases gM h2 with b | ⟨_,b⟩
  ·exact name_of_addr hco.apart a b
  ·exact absurd (ad4 (Nat.lt_trans (nge a) (clt (cs b))) hC) (ag3 _)
  ·exact absurd (ad4 (Nat.lt_trans (nge b) (clt (cs a))) hC) (ag3 _)
  ·exact I.ok.inj x y c (cs a) (cs b)
 ·intro x hx
  have hx:(relabel scope X.env).names.lookup x=some .cell ∨ (relabel scope X.env).names.lookup x=some .free:=hx
  have fin:(x,NameKind.free) ∈ scope.names->∃ c,(dD X scope C).lookup x=some c:=fun z=>rX (.inr (mR scope.names [] (.inl z)))
  rcases hx with hx | hx
  ·rcases kB hx with z | z
   ·exact rX (.inl (af6 z))
   ·exact fin (af6 z.1)
  ·rcases kB hx with z | z
   ·exact fin (af6 z)
   ·exact absurd z.2 (by decide)
 ·intro x c hx h
  have hx:(scope.names.lookup x == some NameKind.cell)=true:=hx
  have hx:scope.names.lookup x=some .cell:=by simpa using hx
  rcases gM h with a | ⟨a,_⟩
  ·exact ag1 hC (al0 (nge a))
  ·obtain ⟨d,hd⟩:=kC scope.names (C+1) (af6 hx)
   exact absurd hd (a d)
 ·intro b hb
  refine⟨af7 (ad4 (hfl b hb) hC),fun x c e=>?_⟩
  rcases gM e with a | ⟨_,a⟩
  ·exact aj8 (Nat.lt_trans (ad4 (hfl b hb) hC) (nge a))
  ·exact (hf b hb).2.2.2.2.1 x c (cs a)
 ·intro b o e hb
  rcases (hf b hb).2.2.2.1 with z | z
  ·exact I.ok.noex b o e z
  ·exact absurd (ad4 (ad8 e) (ag1 I.ok.bsz z)) (ag3 _)
 ·intro b hb z
  rcases ae0.mp (I.stkSub b z) with e | e
  ·exact (hf b hb).2.1 e
  ·exact (hf b hb).2.2.1 e
 ·intro i x v e1 e2 e3
  have e2:(fr.map fun o=>o.bind fun j=>(σ[j]?).join)[i]? = some (some v):=e2
  rw [ad9] at e2
  cases ef:fr[i]? with
  | none=>rw [ef] at e2; cases e2
  | some o=>
   rw [ef] at e2
   cases o with
   | none=>cases e2
   | some j=>
    have e2:some ((σ[j]?).join)=some (some v):=e2
    have ej:σ[j]? = some (some v):=by
     cases q:σ[j]? with
     | none=>rw [q] at e2; cases e2
     | some w=>rw [q] at e2; cases w with
      | none=>cases e2
      | some w=>cases e2; rfl
    obtain ⟨y,a1,a2,a4⟩:=S.from_ i j ef
    have e1:N[i]? = some x:=e1
    rw [e1] at a1
    cases a1
    have a3:(x,NameKind.free) ∈ scope.names:=af6 a4
    have vis:gH X.env.scope x:=(S.free _ a3 rfl).elim (fun z=>.inr (.inl z)) fun z=>.inr (.inr z)
    obtain ⟨m0,hn0,hl0⟩:=I.loc
    obtain ⟨u,r,l⟩:=hl0 j x v a2 ej vis
    refine⟨u,r,.inr ⟨?_,?_⟩⟩
    ·have e3:(relabel scope X.env).names.lookup x=some .local ∨ (relabel scope X.env).names.lookup x=some .cell ∨ (relabel scope X.env).names.lookup x=some .free:=e3
     rcases e3 with z | z | z
     ·rcases kB z with y | y
      ·rw [a4] at y; cases y
      ·exact absurd y.2 (by decide)
     ·exact .inl z
     ·exact .inr z
    ·obtain ⟨c,hc⟩:=mR (cells:=X.env.cells) scope.names [] (x:=x) (.inl a3)
     refine⟨c,A2 (fun z=>by have:=S.own _ z rfl; rw [a4] at this; cases this) hc,?_⟩
     have hc':=cs hc
     have S1:=S.free (x,.free) a3 rfl
     rcases l with ⟨k,_⟩ | ⟨_,c2,hc2,z⟩
     ·have k:X.env.scope.names.lookup x=some .local:=k
      rcases S1 with q | q <;> (have q:X.env.scope.names.lookup x=_:=q; rw [k] at q; cases q)
     ·rw [hc'] at hc2; cases hc2
      obtain ⟨oc,ho,hd⟩:=z
      exact⟨oc,old c oc ho,hd⟩
 ·intro x c e
  rcases gM e with a | ⟨_,a⟩
  ·exact⟨_,(hco.empty x c a).1⟩
  ·obtain ⟨v,oc,ho,hd⟩:=I.cell x c (cs a)
   exact⟨v,oc,old c oc ho,hd⟩
 ·show upd H D (.lst []) C=none
  rw [aR (aj8 hDC)]; exact I.hok.fresh hC
 ·intro x c e
  show upd H D (.lst []) c=none
  rcases gM e with a | ⟨_,a⟩
  ·rw [aR (aj8 (Nat.lt_trans hDC (nge a)))]; exact I.hok.fresh (ag1 hC (al0 (nge a)))
  ·have q:=cs a
   rw [aR (af7 (ad4 (clt q) hD))]
   exact I.freeC x c q
 ·exact I.hok.laid old hD ⟨ah7 _,[],0,.nil,hacc⟩
 ·show (cR fr σ).length=N.length
  unfold cR; rw [ad1]; exact S.len
end
def i9 (X:Cx) (ifs:List Expr) (t:TT):Prop:=
 ∀ (pins:List (Addr × Obj)) (s:Shared) (σ:St) (H:Hp) (Q:Bool->Hp->Prop),a5 X pins σ H s->t σ H Q->
  wpAny (model X.prog X.w) X.A (forIn ifs true fun c r=>if r=true then do let ok <- isTrue c X.env (eval c X.env); pure (ForInStep.yield ok) else pure (ForInStep.yield r)) (TP X pins σ Q) X.xe s
def rY:TT:=fun _ H Q=>Q true H
theorem A4 {X:Cx}:i9 X [] rY:=fun _ _ _ H _ I h=>wpAny_tests_nil ⟨H,I,h⟩
section
variable {prog : Program} {w : World} {A : Around}
def mU (prog:Program) (w:World) (A:Around) (elt tg:Expr) (ifs:List Expr) (it acc:Value) (env:Env) (lost:Value->Shared->Prop) (stop next:Shared->Prop) (s:Shared):Prop:=
 let M:=model prog w
 let tests:Sem Bool:=forIn ifs true fun c r=>if r=true then do let ok <- isTrue c env (eval c env); pure (ForInStep.yield ok) else pure (ForInStep.yield r)
 let put:Shared->Prop:=wpAny M A (eval elt env) (fun x=>wpAny M A (call (.builtin "list.append") [acc,x]) (fun _=>next) lost) lost
 let taken:Value->Shared->Prop:=fun v=>wpAny M A (letOwnedTupleGo tg it v) (fun _=>wpAny M A (assign tg env v) (fun _=>wpAny M A tests (fun ok s'=>if ok=true then put s' else next s') lost) lost) lost
 wpAny M A (pyNext it) (fun r s'=>match r with
  | none=>stop s'
  | some v=>taken v s') lost s
theorem A5 {R:Result->Shared->Prop}{s:Shared}{elt tg iter:Expr}{ifs:List Expr}{scope:Scope}{pos:Pos}{it acc:Value}{env:Env} (I:Nat->Shared->Prop)
  (turn:∀ n s,I n s->mU prog w A elt tg ifs it acc env (notedBy (model prog w) A env fun e=>R (.error e)) (R (.ok .next)) (fun s'=>∃ m,m < n/\I m s') s) (n:Nat) (h:I n s) :
  codeAny (model prog w) A (.compLoop (.ListComp elt [⟨tg,iter,ifs,0⟩] scope pos) 0 it acc env) R s:=by
 apply codeAny_loop rfl I _ n h
 intro k s1 h1
 change wpAny _ A ((compTurn _ 0 it acc env).onRaise (fun x=>do noteFrame x env; theTreesLotGoes x)) _ _ s1
 apply wpAny_noted
 rw [compTurn_list]
 have t:=turn k s1 h1
 unfold mU at t
 apply ac9
 apply wpAny_standAt
 apply ac9
 refine ai7 t (fun r s2 h2=>?_) fun _ _ z=>z
 cases r with
 | none=>exact ad3 h2
 | some v=>
  apply ac9
  refine ai7 h2 (fun _ s3 h3=>?_) fun _ _ z=>z
  apply ac9
  refine ai7 h3 (fun _ s4 h4=>?_) fun _ _ z=>z
  apply ac9
  refine ai7 h4 (fun ok s5 h5=>?_) fun _ _ z=>z
  cases ok with
  | false=>exact ad3 ⟨rfl,h5⟩
  | true=>
   apply ac9
   apply ac9
   refine ai7 h5 (fun x s6 h6=>?_) fun _ _ z=>z
   apply ac9
   exact ai7 h6 (fun _ s7 h7=>ad3 (ad3 ⟨rfl,h7⟩)) fun _ _ z=>z
end
def rZ (g:TG) (tc:TT) (te:TE) (σ0:St) (J:It) (D:Addr) (Q:VK) (W:Nat->Nat->List V->Hp->Prop):Prop:=
 ∀ i m acc H',W i m acc H'->H' D=some (.lst acc)/\((J.stop i H'/\Q (.ref D) H') ∨ (J.go i H'/\∀ x H2,J.yld i H' x H2->g x σ0 H2 fun σ2 H3=>Wk σ0 σ2/\tc σ2 H3 fun b H4=>
  if b=true then te σ2 H4 fun v H5=>H5 D=some (.lst acc)/\acc.length < sizeLine/\∃ m',m' < m/\W (i+1) m' (acc ++ [v]) (upd H5 D (.lst (acc ++ [v]))) else ∃ m',m' < m/\W (i+1) m' acc H4))
section
variable {M : Model} {A : Around} {E : Value → Shared → Prop} {s : Shared}
theorem A6 {scope:Scope}{globals:Addr}{cl:List (Str × Addr)}{qual:Str}{func:Option Addr}{code:Value}{builtins:Addr}{outer:Env}{Q:Env->Shared->Prop}
  (hQ:∀ h',h'.Ns s.heap.objs.size (fun _=>none)->(∀ b o,s.heap.get? b=some o->h'.get? b=some o)->CellsOk h' (s.heap.objs.size+1) (cellsFrom (s.heap.objs.size+1) scope.names [])->
   Q (newEnv scope s.heap.objs.size globals (cellsFrom (s.heap.objs.size+1) scope.names cl) qual func code (some outer) builtins) { s with heap:=h' }) :
  wpAny M A (newFunctionEnv scope globals cl [] qual func code (some outer) builtins) Q E s:=by
 simp only [newFunctionEnv,Option.isSome_some,if_true]
 refine ac9 (wpAny_alloc ?_)
 refine ac9 (wpAny_layCells _ (fun name kind cells=>by cases hkc:kind == NameKind.cell <;> simp [hkc]) _ _ _ _ ?_)
 have ok:=cellsFrom_ok scope.names (s.heap.push { cls:=.type "dict",data:=.dict #[] }) (s.heap.objs.size+1) [] ⟨fun _ _ hm=>(nomatch hm),List.Pairwise.nil⟩ (by rw [al3]; exact ad6 _)
 rw [al3] at ok
 rw [show ({ s with heap:=s.heap.push { cls:=.type "dict",data:=.dict #[] } }:Shared).heap.objs.size=s.heap.objs.size+1 from al3 ..]
 rw [List.forIn_nil]
 refine ac9 (ad3 (ad3 (hQ _ ((Heap.Ns.new s.heap (.type "dict")).keeps (pushCells_keeps _ _)) (fun b o e=>pushCells_keeps _ _ b o (ad0 _ e)) ok)))
end
section
variable {X : Cx} {pins : List (Addr × Obj)} {σ : St} {H : Hp} {s : Shared} {scope : Scope} {N : List Str} {fr : List (Option Nat)} {tg iter elt : Expr} {ifs : List Expr} {pos : Pos} {wi : TI} {g : TG} {tc : TT} {te : TE}
structure j1 (X:Cx) (scope:Scope) (N:List Str) (tg:Expr) (ifs:List Expr) (elt:Expr) (s:Shared) (H:Hp) (g:TG) (tc:TT) (te:TE):Prop where
 tg:∀ (C:Addr) (fp:List Addr),PG (bH X scope N s H C fp fun _ _=>False) tg g
 ifs:∀ (C:Addr) (fp:List Addr),i9 (bH X scope N s H C fp fun _ _=>False) ifs tc
 elt:∀ (C:Addr) (fp:List Addr),PE (bH X scope N s H C fp fun _ _=>False) elt te
theorem A7 {C:Addr}{fp:List Addr}{E:Value->Shared->Prop}{pins':List (Addr × Obj)}{σ':St}{H':Hp}{s':Shared} (I:a5 X pins σ H s) (hf:∀ b ∈ fp,cQ X pins H b) (I':a5 (bH X scope N s H C fp E) pins' σ' H' s'):a5 X pins σ H' s':=
 I.call' (ch:=fp) I'.os I'.base I'.hok I'.bare fun b hb=>⟨(hf b hb).2.2.2.1,(hf b hb).2.1,(hf b hb).2.2.2.2.1,(hf b hb).2.2.2.2.2⟩
theorem sA {Rr:Value->Addr->Result->Shared->Prop}{J:It}{fp:List Addr}{it:Addr}{tn:Nat->Heap->Prop}{Q:VK}
  (hc:X.calm=true) (S:cL X scope N fr) (B:j1 X scope N tg ifs elt s H g tc te) (I:a5 X pins σ H s) (T:eR X.prog X.w X.K tg J fp it tn) (hst:tn 0 s.heap) (hf:∀ b ∈ fp,cQ X pins H b)
  (h:∀ D,H D=none->∃ W:Nat->Nat->List V->Hp->Prop,(∃ m,W 0 m [] (upd H D (.lst [])))/\rZ g tc te (cR fr σ) J D Q W)
  (hend:∀ (D C:Addr) (s':Shared) (H':Hp) (m:Str->Option Value),s.heap.objs.size<=C->s.heap.objs.size<=D->a5 X pins σ H' s'->s'.heap.Ns C m->H' C=none->Q (.ref D) H'->Rr (.ref D) C (.ok .next) s') :
  wpAny (model X.prog X.w) X.A (newList []) (fun acc s₃=>wpAny (model X.prog X.w) X.A (newFunctionEnv scope X.env.globals (c6 X.env.cells scope.names []) [] X.env.qual none .none (some X.env)) (fun cenv s₄=>
   codeAny (model X.prog X.w) X.A (.compStart (.ListComp elt [⟨tg,iter,ifs,0⟩] scope pos) 0 (.ref it) acc { cenv with scope:=relabel scope X.env }) (Rr acc cenv.locals) s₄) X.xe s₃) X.xe s:=by
 refine ah2 (A6 (fun h₁ hns₁ keep₁ hco₁=>?_))
 dsimp only at hns₁ keep₁ hco₁ ⊢
 generalize hH2:s.heap.push { cls:=.type "list",dict:=none,data:=.seq ([]:List Value).toArray }=H2 at hns₁ keep₁ hco₁ ⊢
 have hC:H2.objs.size=s.heap.objs.size+1:=by rw [<- hH2,al3]
 have hDC:s.heap.objs.size < H2.objs.size:=by rw [hC]; exact Nat.lt_succ_self _
 have hCle:s.heap.objs.size<=H2.objs.size:=by rw [hC]; exact Nat.le_succ _
 have old:∀ b o,s.heap.get? b=some o->h₁.get? b=some o:=fun b o e=>keep₁ b o (hH2 ▸ ad0 _ e)
 have hacc:h₁.get? s.heap.objs.size=some { cls:=.type "list",data:=.seq #[] 0 }:=keep₁ _ _ (hH2 ▸ ae1 _ rfl)
 have hfl:∀ b ∈ fp,b < s.heap.objs.size:=fun b hb=>by obtain ⟨o,e,_⟩:=T.obj _ _ hst b hb; exact ad8 e
 obtain ⟨W,⟨m0,w0⟩,turn⟩:=h s.heap.objs.size (I.hok.fresh (ad6 _))
 have st1:tn 0 h₁:=T.keep _ _ _ hst fun b _ o e=>old b o e
 have fr0:∀ b ∈ fp,upd H s.heap.objs.size (.lst []) b=none:=fun b hb=>by rw [aR (af7 (hfl b hb))]; exact (hf b hb).1
 have stat:∀ {H':Hp},(∀ b ∈ fp,H' b=none)->∀ b ∈ fp,cQ (bH X scope N s H H2.objs.size fp fun _ _=>False) [] H' b:=fun {H'} hn b hb=>by
  have f:=hf b hb
  refine⟨hn b hb,af7 (ad4 (hfl b hb) hCle),fun z=>?_,.inl hb,fun x c e=>(gM e).elim (fun z=>aj8 (Nat.lt_trans (ad4 (hfl b hb) hCle) (hco₁.empty x c z).2)) fun z=>f.2.2.2.2.1 x c (kA scope.names [] (S.cells I) (fun _ _ z=>by simp at z) z.2),fun p hp=>absurd (show p ∈ ([]:List (Addr × Obj)) from hp) (by simp)⟩
  rcases ae0.mp (I.stkSub b z) with e | e
  ·exact f.2.1 e
  ·exact f.2.2.1 e
 generalize hX:bH X scope N s H H2.objs.size fp (fun _ _=>False)=Y at stat
 have I0:a5 Y [] (cR fr σ) (upd H s.heap.objs.size (.lst [])) { s with heap:=h₁ }:=hX ▸ A3 S I hf hfl (ad6 _) hCle hDC old hns₁ hacc hco₁
 have bt:PG Y tg g:=hX ▸ B.tg H2.objs.size fp
 have bi:i9 Y ifs tc:=hX ▸ B.ifs H2.objs.size fp
 have be:PE Y elt te:=hX ▸ B.elt H2.objs.size fp
 have eP:Y.prog=X.prog:=by rw [<- hX]; rfl
 have ew:Y.w=X.w:=by rw [<- hX]; rfl
 have eK:Y.K=X.K:=by rw [<- hX]; rfl
 have eA:Y.A=X.A:=by rw [<- hX]; rfl
 have eE:Y.env=compEnvC scope (dD X scope H2.objs.size) H2.objs.size X.env:=by rw [<- hX]; rfl
 have eX:Y.xe=fun _ _=>False:=by rw [<- hX]; rfl
 have ec:Y.calm=true:=by rw [<- hX]; exact hc
 have never:∀ {E:Value->Shared->Prop} (e:Value) (s':Shared),Y.xe e s'->E e s':=fun {E} e s' z=>by rw [eX] at z; exact z.elim
 have out:∀ {pins' σ' H' s'},a5 Y pins' σ' H' s'->a5 X pins σ H' s':=fun {_ _ _ _} I'=>A7 (C:=H2.objs.size) (E:=fun _ _=>False) (scope:=scope) (N:=N) I hf (hX ▸ I')
 have loop:codeAny (model X.prog X.w) X.A (.compLoop (.ListComp elt [⟨tg,iter,ifs,0⟩] scope pos) 0 (.ref it) (.ref s.heap.objs.size) (compEnvC scope (dD X scope H2.objs.size) H2.objs.size X.env))
   (Rr (.ref s.heap.objs.size) H2.objs.size) { s with heap:=h₁ }:=by
  refine A5 (fun n s'=>∃ i acc H',a5 Y [] (cR fr σ) H' s'/\tn i s'.heap/\(∀ b ∈ fp,H' b=none)/\W i n acc H') ?_ m0 ⟨0,[],_,I0,st1,fr0,w0⟩
  rintro n s3 ⟨i,acc,H3,I3,st3,fr3,w3⟩
  unfold mU
  dsimp only
  obtain ⟨hD3,step⟩:=turn i n acc H3 w3
  rcases step with ⟨stop,qn⟩ | ⟨go,step⟩
  ·have z:=T.done Y eP ew eK ec i [] s3 _ H3 (notedBy (model X.prog X.w) X.A (compEnvC scope (dD X scope H2.objs.size) H2.objs.size X.env) fun e s'=>Rr (.ref s.heap.objs.size) H2.objs.size (.error e) s') I3 (stat fr3) st3 stop
   rw [eA] at z
   refine aI z fun r s4 ⟨hr,I4⟩=>?_
   subst hr
   obtain ⟨m4,hn4,_⟩:=I4.loc
   rw [eE] at hn4
   have f4:=I4.free
   rw [eE] at f4
   exact hend _ _ s4 H3 m4 hCle (ad6 _) (out I4) hn4 f4 qn
  ·have z:=T.item Y eP ew eK ec i [] s3 _ H3 (notedBy (model X.prog X.w) X.A (compEnvC scope (dD X scope H2.objs.size) H2.objs.size X.env) fun e s'=>Rr (.ref s.heap.objs.size) H2.objs.size (.error e) s') I3 (stat fr3) st3 go
   rw [eA] at z
   refine aI z fun r s4 ⟨u,hr,h4⟩=>?_
   subst hr
   refine aI h4 fun _ s5 ⟨x,H5,I5,r5,y5,st5,fr5⟩=>?_
   have I5':=I5.pinned (stat fr5) (T.obj _ _ st5)
   have q1:=bt _ s5 _ H5 x u _ I5' r5 (step x H5 y5)
   rw [eP,ew,eA,eE] at q1
   refine ai7 q1 (fun _ s6 ⟨σ6,H6,I6,wk,q6⟩=>?_) never
   have q2:=bi _ s6 σ6 H6 _ I6 q6
   rw [eP,ew,eA,eE] at q2
   refine ai7 q2 (fun b s7 ⟨H7,I7,q7⟩=>?_) never
   have again:∀ {H8:Hp}{s8:Shared}{acc':List V},a5 Y ([] ++ iX fp s5.heap) σ6 H8 s8->(∃ m',m' < n/\W (i+1) m' acc' H8)->∃ m,m < n/\∃ i acc H',a5 Y [] (cR fr σ) H' s8/\tn i s8.heap/\(∀ b ∈ fp,H' b=none)/\W i m acc H':=fun {H8 s8 acc'} I8 n8=>by
    obtain ⟨m',hm,w8⟩:=n8
    refine⟨m',hm,i+1,acc',H8,(I8.unpinned).weak wk.1 wk.2,T.keep _ _ _ st5 fun b hb o e=>(I8.pin (b,o) (af1 _ (af1 _ (jY hb e)))).1,fun b hb=>?_,w8⟩
    obtain ⟨o,e,d⟩:=T.obj _ _ st5 b hb
    exact (I8.pin (b,o) (af1 _ (af1 _ (jY hb e)))).2.1
   cases b with
   | false=>
    rw [if_neg ae9] at q7 ⊢
    exact again I7 q7
   | true=>
    rw [if_pos rfl] at q7 ⊢
    have q3:=be _ s7 σ6 H7 _ I7 q7
    rw [eP,ew,eA,eE] at q3
    refine ai7 q3 (fun v s8 ⟨y,H8,I8,r8,hD8,hz8,q8⟩=>?_) never
    have q4:=rE _ s8 σ6 H8 (.ref s.heap.objs.size) [y] (.ref s.heap.objs.size) [v] (fun _ H9=>∃ m',m' < n/\W (i+1) m' (acc ++ [y]) H9) I8 rfl (.cons r8 .nil) ⟨_,_,_,rfl,rfl,hD8,hz8,q8⟩
    rw [eP,ew,eA] at q4
    exact ai7 q4 (fun _ s9 ⟨_,H9,I9,_,q9⟩=>again I9 q9) never
 exact codeAny_compStart_list loop (T.self _ 0 _ _ _ st1 loop)
end
section
variable {X : Cx} {scope : Scope} {N : List Str} {fr : List (Option Nat)} {tg iter elt : Expr} {ifs : List Expr} {pos : Pos} {wi : TI} {g : TG} {tc : TT} {te : TE}
theorem a5.drop {pins:List (Addr × Obj)}{σ:St}{H H':Hp}{s s':Shared}{C:Addr}{h':Heap} (I0:a5 X pins σ H s) (hC:s.heap.objs.size<=C) {σ':St} (I:a5 X pins σ' H' s') (hn:H' C=none) (sb:Heap.SameBut C s'.heap h'):a5 X pins σ' H' { s' with heap:=h' }:=by
 refine I.turned (t':=s'.toks) (it:=C) (fun b o hb e=>(sb.2 b hb).trans e) hn (aj8 (ad4 I0.lt hC)) (.inr (ag1 I0.sz hC)) (fun x c e z=>?_) fun p hp z=>?_
 ·obtain ⟨v,q⟩:=I0.cell x c e
  exact absurd (ad4 q.lt (by rw [z]; exact hC)) (ag3 _)
 ·exact absurd (ad4 (ad8 (I0.pin p hp).1) (by rw [z]; exact hC)) (ag3 _)
variable {gh : Hp → TG} {tch : Hp → TT} {teh : Hp → TE}
def mV (wi:TI) (fr:List (Option Nat)) (gh:Hp->TG) (tch:Hp->TT) (teh:Hp->TE):TE:=fun σ H Q=>wi σ H fun J H1=>∀ D,H1 D=none->
 ∃ W:Nat->Nat->List V->Hp->Prop,(∃ m,W 0 m [] (upd H1 D (.lst [])))/\rZ (gh H1) (tch H1) (teh H1) (cR fr σ) J D Q W
theorem sB (hc:X.calm=true) (S:cL X scope N fr) (hi:PI X tg iter wi) (B:∀ (s:Shared) (H:Hp),j1 X scope N tg ifs elt s H (gh H) (tch H) (teh H))
  (hs:∀ x,foldedSetIterable iter X.env x=pure x:=by intro _; rfl):PE X (.ListComp elt [⟨tg,iter,ifs,0⟩] scope pos) (mV wi fr gh tch teh):=by
 intro pins s σ H Q I h
 rw [eval_ListComp]
 refine wpAny_comprehension_free (use:=none) rfl hs (rW (S.cells I)) S.kind S.names (aI (hi pins s σ H _ I h) fun v s1 h1=>aI h1 fun itv s2 h2=>?_)
 obtain ⟨it,fp,tn,J,H2,e,I2,T,st2,f2,hW⟩:=h2
 subst e
 refine sA (Rr:=fun acc C=>compPost (model X.prog X.w) X.A X.xe none (EP X pins σ Q) acc C) hc S (B _ _) I2 T st2 f2 hW ?_
 intro D C s' H' m hC hD I' hns hHC q
 exact⟨m,hns,fun h' sb=>⟨.ref D,H',I2.drop hC I' hHC sb,rfl,q⟩⟩
theorem A8 {i:Nat}{x:Str}{px spos:Pos} (hc:X.calm=true) (S:cL X scope N fr) (hi:PI X tg iter wi) (B:∀ (s:Shared) (H:Hp),j1 X scope N tg ifs elt s H (gh H) (tch H) (teh H)) (hN:X.N.Nodup) (hix:X.N[i]? = some x) (hx:X.env.scope.names.lookup x=some .local)
  (hsw:swapsWith (.ListComp elt [⟨tg,iter,ifs,0⟩] scope pos) (some (.Name x px)) spos.line X.env=pure true) (hs:∀ x,foldedSetIterable iter X.env x=pure x:=by intro _; rfl) :
  PS X (.Assign [.Name x px] (.ListComp elt [⟨tg,iter,ifs,0⟩] scope pos) spos) (jW (mV wi fr gh tch teh) (cD i)):=by
 intro pins s σ H D I h
 rw [exec_Assign_Name_used _ _ _ _ hsw]
 refine ac9 (wpAny_standAt (ac9 ?_))
 show wpAny _ _ (do let _ <- comprehension (.ListComp elt [⟨tg,iter,ifs,0⟩] scope pos) scope X.env _ (newList []) false (eval iter X.env) (some (assign (.Name x px) X.env))) _ _ s
 refine ac9 (ai7 (wpAny_comprehension_free (Q:=fun _ s'=>SP X pins D .next s') (use:=some (assign (.Name x px) X.env)) rfl hs (rW (S.cells I)) S.kind S.names (aI (hi pins s σ H _ I h) fun v s1 h1=>aI h1 fun itv s2 h2=>?_))
  (fun _ s' hq=>ad3 (ad3 hq)) fun _ _ e=>e)
 obtain ⟨it,fp,tn,J,H2,e,I2,T,st2,f2,hW⟩:=h2
 subst e
 refine sA (Rr:=fun acc C=>compPost (model X.prog X.w) X.A X.xe (some (assign (.Name x px) X.env)) (fun _ s'=>SP X pins D .next s') acc C) hc S (B _ _) I2 T st2 f2 hW ?_
 intro D' C s' H' m hC hD I' hns hHC q
 refine wpAny_assign_Name (pE I' hN hix (.inl hx) (v:=.ref D') rfl (fun s'' I'' sb=>?_) (.inr hx))
 obtain ⟨a,sb,ha⟩:=sb
 have hCa:C ≠ a:=by
  rcases ha with z | z
  ·rw [z]; exact aj8 (ad4 I2.lt hC)
  ·intro e; subst e
   obtain ⟨v,q⟩:=I2.cell x _ z
   exact absurd (ad4 q.lt hC) (ag3 _)
 exact⟨m,hns.sameBut sb hCa,fun h' sb'=>⟨_,H',I2.drop hC I'' hHC sb',q⟩⟩
end
theorem bI {H:Hp}{p:Addr} (h:H p=none) (o:HO):a9 H (upd H p o):=fun b u q=>by rw [aR (c9 q h)]; exact q
end L2
namespace Srt
open PySem PySem.W PyProof.Rows
abbrev G (p:Array Nat) (i:Nat):Nat:=p.getD i 0
theorem j2 {p q:Array Nat}{i j:Nat} (h:p[i]? = q[j]?):G p i=G q j:=by
 unfold G; rw [ak0,ak0,h]
theorem mW {p:Array Nat}{i j:Nat} (hj:j<=p.size) (k:Nat):G (kas_rev p i j) k=if i<=k/\k < j then G p (i+j - 1 - k) else G p k:=by
 have e:=getElem?_mirror_all (i:=i) hj k
 unfold kas_rev
 by_cases h1:i<=k/\k < j
 ·rw [if_pos h1] at e ⊢; exact j2 e
 ·rw [if_neg h1] at e ⊢; exact j2 e
theorem A9 {p:Array Nat}{src d:Nat} (hs:src < p.size) (hd:d<=src) (k:Nat):G (bubble p src d) k=if k=src - d then G p src else if src - d < k/\k<=src then G p (k - 1) else G p k:=by
 have e:=getElem?_bubble hs d hd k
 by_cases h1:k=src - d
 ·rw [if_pos h1] at e ⊢; exact j2 e
 ·rw [if_neg h1] at e ⊢
  by_cases h2:src - d < k/\k<=src
  ·rw [if_pos h2] at e ⊢; exact j2 e
  ·rw [if_neg h2] at e ⊢; exact j2 e
def PP (n:Nat) (p:Array Nat):Prop:=p.toList.Perm (List.range n)
theorem PP.size {n:Nat}{p:Array Nat} (h:PP n p):p.size=n:=by
 have:=h.length_eq
 rw [List.length_range] at this
 simpa using this
theorem PP.lt {n:Nat}{p:Array Nat} (h:PP n p) {k:Nat} (hk:k < n):G p k < n:=by
 have hs:=h.size
 have hk':k < p.toList.length:=by simpa [hs] using hk
 have e:G p k=p.toList[k]:=by
  unfold G; rw [ak0]; simp [hs,hk]
 have m:p.toList[k] ∈ p.toList:=List.getElem_mem hk'
 rw [e]
 exact List.mem_range.mp (h.mem_iff.mp m)
theorem PP.of {n:Nat}{p q:Array Nat} (h:PP n p) (e:q.Perm p):PP n q:=(Array.perm_iff_toList_perm.mp e).trans h
theorem PP.rev {n:Nat}{p:Array Nat} (h:PP n p) (i j:Nat):PP n (kas_rev p i j):=h.of (mirror_perm _ _ _ _)
theorem PP.bub {n:Nat}{p:Array Nat} (h:PP n p) (i j:Nat):PP n (bubble p i j):=h.of (bubble_perm _ _ _)
structure mX (c:Nat->Nat->Bool):Prop where
 asym:∀ {i j},c i j=true->c j i=false
 ntr:∀ {i j k},c i j=false->c j k=false->c i k=false
section
variable {c : Nat → Nat → Bool} (O : mX c)
def Le (c:Nat->Nat->Bool) (i j:Nat):Prop:=c j i=false
include O
theorem le_refl (i:Nat):Le c i i:=by
 unfold Le
 cases h:c i i with
 | false=>rfl
 | true=>have:=O.asym h; rw [h] at this; exact this
theorem le_trans {i j k:Nat} (h1:Le c i j) (h2:Le c j k):Le c i k:=O.ntr h2 h1
theorem kE {i j:Nat} (h:c i j=true):Le c i j:=O.asym h
omit O
def cM (c:Nat->Nat->Bool) (p:Array Nat) (n:Nat):Prop:=∀ a b,a<=b->b < n->Le c (G p a) (G p b)
def fR (c:Nat->Nat->Bool) (p:Array Nat) (n:Nat):Prop:=∀ a b,a<=b->b < n->Le c (G p b) (G p a)
include O
theorem B0 {p:Array Nat}{n:Nat} (h:cM c p n) (h1:1<=n) (hl:Le c (G p (n - 1)) (G p n)):cM c p (n+1):=fun a b hab hb=>by
 by_cases hbn:b < n
 ·exact h a b hab hbn
 ·have e:b=n:=by omega
  subst e
  by_cases han:a=b
  ·subst han; exact le_refl O _
  ·exact le_trans O (h a (b - 1) (by omega) (by omega)) hl
theorem kF {p:Array Nat}{n:Nat} (h:fR c p n) (h1:1<=n) (hl:Le c (G p n) (G p (n - 1))):fR c p (n+1):=fun a b hab hb=>by
 by_cases hbn:b < n
 ·exact h a b hab hbn
 ·have e:b=n:=by omega
  subst e
  by_cases han:a=b
  ·subst han; exact le_refl O _
  ·exact le_trans O hl (h a (b - 1) (by omega) (by omega))
omit O
def b8 {α:Type} (n:Nat) (c:Nat->Nat->Bool) (R:α->Prop):KasT α->Prop
 | .ret a=>R a
 | .ask i j k=>i < n/\j < n/\b8 n c R (k (c i j))
theorem b8.mono {α:Type}{n:Nat}{R R':α->Prop} (h:∀ a,R a->R' a):∀ (t:KasT α),b8 n c R t->b8 n c R' t
 | .ret a,q=>h a q
 | .ask i j k,q=>⟨q.1,q.2.1,b8.mono h (k (c i j)) q.2.2⟩
theorem b8.bind {α β:Type}{n:Nat}{R:α->Prop}{R':β->Prop}{f:α->KasT β} (h:∀ a,R a->b8 n c R' (f a)):∀ (t:KasT α),b8 n c R t->b8 n c R' (t.bind f)
 | .ret a,q=>h a q
 | .ask i j k,q=>⟨q.1,q.2.1,b8.bind h (k (c i j)) q.2.2⟩
theorem b8.run {α:Type}{n:Nat}{R:α->Prop}{I:Shared->Prop}{cmp:Nat->Nat->(Bool->Shared->Prop)->Shared->Prop}{Q:α->Shared->Prop}
  (hc:∀ i j C s,i < n->j < n->I s->(∀ s',I s'->C (c i j) s')->cmp i j C s) (hQ:∀ a s,R a->I s->Q a s):∀ (t:KasT α) (s:Shared),I s->b8 n c R t->t.kasWp cmp Q s
 | .ret a,s,hI,q=>hQ a s q hI
 | .ask i j k,s,hI,q=>hc i j _ s q.1 q.2.1 hI fun s' hI'=>b8.run hc hQ (k (c i j)) s' hI' q.2.2
include O
theorem mY {n:Nat}{p:Array Nat} (hp:PP n p):∀ (f m:Nat),1<=m->m+f<=n->cM c p m->b8 n c (fun r=>m<=r/\r<=m+f/\cM c p r/\(r < m+f->c (G p r) (G p (r - 1))=true)) (kas_asc p f m)
 | 0,m,_,_,h=>⟨ad6 _,ad6 _,h,fun z=>absurd z (ag3 _)⟩
 | f+1,m,h1,h2,h=>by
  refine⟨hp.lt (by omega),hp.lt (by omega),?_⟩
  by_cases hc:c (p.getD m 0) (p.getD (m - 1) 0)=true
  ·simp only [hc,if_true]
   exact⟨ad6 _,by omega,h,fun _=>hc⟩
  ·have hc':c (p.getD m 0) (p.getD (m - 1) 0)=false:=aj5.mpr hc
   simp only [hc',ae5,ah6]
   refine b8.mono (fun r q=>⟨by omega,by omega,q.2.2.1,fun z=>q.2.2.2 (by omega)⟩) _ (mY hp f (m+1) (by omega) (by omega) (B0 O h h1 hc'))
omit O
def gN (c:Nat->Nat->Bool) (i j:Nat):Prop:=Le c i j/\Le c j i
include O
theorem mZ {p q:Array Nat}{n:Nat} (h:fR c p n) (e:∀ k,k < n->gN c (G q k) (G p k)):fR c q n:=fun a b hab hb=>
 le_trans O (e b hb).1 (le_trans O (h a b hab hb) (e a (by omega)).2)
theorem sC {n m i:Nat}{p:Array Nat} (hp:PP n p) (hm:m<=n) (h:∀ a,i<=a->a < m->gN c (G p a) (G p (m - 1))):∀ k,gN c (G (kas_rev p i m) k) (G p k):=fun k=>by
 rw [mW (by rw [hp.size]; exact hm)]
 by_cases hk:i<=k/\k < m
 ·rw [if_pos hk]
  have h1:=h (i+m - 1 - k) (by omega) (by omega)
  have h2:=h k hk.1 hk.2
  exact⟨le_trans O h1.1 h2.2,le_trans O h2.1 h1.2⟩
 ·rw [if_neg hk]; exact⟨le_refl O _,le_refl O _⟩
omit O
def DI (c:Nat->Nat->Bool) (n:Nat) (p:Array Nat) (m q:Nat):Prop:=PP n p/\1<=m/\m<=n/\fR c p m/\q+1<=m/\∀ a,m - (q+1)<=a->a < m->gN c (G p a) (G p (m - 1))
include O
theorem sD {n m q:Nat}{p:Array Nat} (h:DI c n p m q):PP n (kas_rev p (m - (q+1)) m)/\∀ k,gN c (G (kas_rev p (m - (q+1)) m) k) (G p k):=
 ⟨h.1.rev _ _,sC O h.1 h.2.2.1 h.2.2.2.2.2⟩
theorem kG {n:Nat}:∀ (f:Nat) (p:Array Nat) (m q:Nat),m+f<=n->DI c n p m q->b8 n c (fun r=>DI c n r.1 r.2.1 r.2.2) (kas_desc f p m q)
 | 0,p,m,q,_,h=>h
 | f+1,p,m,q,hf,h=>by
  have hp:=h.1
  have h1:=h.2.1
  refine⟨hp.lt (by omega),hp.lt (by omega),?_⟩
  by_cases hc:c (p.getD m 0) (p.getD (m - 1) 0)=true
  ·simp only [hc,if_true]
   have dn:fR c p (m+1):=kF O h.2.2.2.1 h1 (kE O hc)
   by_cases hq:q > 0
   ·simp only [hq,if_true]
    obtain ⟨pr,er⟩:=sD O h
    refine kG f _ (m+1) 0 (by omega) ⟨pr,by omega,by omega,mZ O dn fun k _=>er k,by omega,fun a h1 h2=>?_⟩
    have e:a=m+1 - 1:=by omega
    rw [e]; exact⟨le_refl O _,le_refl O _⟩
   ·simp only [hq,ah6]
    refine kG f p (m+1) 0 (by omega) ⟨hp,by omega,by omega,dn,by omega,fun a h1 h2=>?_⟩
    have e:a=m+1 - 1:=by omega
    rw [e]; exact⟨le_refl O _,le_refl O _⟩
  ·have hc':c (p.getD m 0) (p.getD (m - 1) 0)=false:=aj5.mpr hc
   simp only [hc',ae5,ah6]
   refine⟨hp.lt (by omega),hp.lt (by omega),?_⟩
   by_cases hd:c (p.getD (m - 1) 0) (p.getD m 0)=true
   ·simp only [hd,if_true]
    exact h
   ·have hd':c (p.getD (m - 1) 0) (p.getD m 0)=false:=aj5.mpr hd
    simp only [hd',ae5,ah6]
    have ee:gN c (G p (m - 1)) (G p m):=⟨hc',hd'⟩
    refine kG f p (m+1) (q+1) (by omega) ⟨hp,by omega,by omega,kF O h.2.2.2.1 h1 ee.2,by have:=h.2.2.2.2.1; omega,fun a h1 h2=>?_⟩
    rw [Nat.add_sub_cancel]
    by_cases ha:a=m
    ·rw [ha]; exact⟨le_refl O _,le_refl O _⟩
    ·have z:=h.2.2.2.2.2 a (by omega) (by omega)
     exact⟨le_trans O z.1 ee.1,le_trans O ee.2 z.2⟩
omit O
def CI (c:Nat->Nat->Bool) (n:Nat) (r:Nat × Array Nat):Prop:=PP n r.2/\1<=r.1/\r.1<=n/\cM c r.2 r.1
include O
theorem sE {n m:Nat}{p:Array Nat} (hp:PP n p) (h1:1<=m) (hm:m<=n) (h:fR c p m):b8 n c (CI c n) (kas_tail3 m n p):=by
 have ha:cM c (kas_rev p 0 m) m:=fun a b hab hb=>by
  rw [mW (by rw [hp.size]; exact hm),mW (by rw [hp.size]; exact hm),if_pos ⟨ah7 _,by omega⟩,if_pos ⟨ah7 _,hb⟩]
  exact h _ _ (by omega) (by omega)
 refine b8.bind (R:=fun r=>m<=r/\r<=m+(n - m)/\cM c (kas_rev p 0 m) r/\_) (fun r q=>?_) _ (mY O (hp.rev 0 m) (n - m) m h1 (by omega) ha)
 exact⟨hp.rev _ _,by have:=q.1; omega,by have:=q.2.1; omega,q.2.2.1⟩
theorem sF {n m:Nat}{p:Array Nat} (hp:PP n p) (h1:1<=m) (hm:m+1<=n) (h:fR c p (m+1)):b8 n c (CI c n) (kas_descPart m n p):=by
 refine b8.bind (R:=fun r=>DI c n r.1 r.2.1 r.2.2) (fun r q=>?_) _ (kG O (n - (m+1)) p (m+1) 0 (by omega) ⟨hp,by omega,hm,h,by omega,fun a h1 h2=>?_⟩)
 ·by_cases hq:r.2.2 > 0
  ·rw [if_pos hq]
   obtain ⟨pr,er⟩:=sD O q
   exact sE O pr q.2.1 q.2.2.1 (mZ O q.2.2.2.1 fun k _=>er k)
  ·rw [if_neg hq]
   exact sE O q.1 q.2.1 q.2.2.1 q.2.2.2.1
 ·have e:a=m+1 - 1:=by omega
  rw [e]; exact⟨le_refl O _,le_refl O _⟩
theorem B1 {n:Nat}{p:Array Nat} (hp:PP n p) (hn:1<=n):b8 n c (CI c n) (kas_count n p):=by
 have a1:cM c p 1:=fun a b hab hb=>by
  have e1:a=0:=by omega
  have e2:b=0:=by omega
  rw [e1,e2]; exact le_refl O _
 refine b8.bind (R:=fun r=>1<=r/\r<=1+(n - 1)/\cM c p r/\(r < 1+(n - 1)->c (G p r) (G p (r - 1))=true)) (fun m q=>?_) _ (mY O hp (n - 1) 1 (ad6 _) (by omega) a1)
 obtain ⟨q1,q2,q3,q4⟩:=q
 by_cases hm:(m == n)=true
 ·rw [if_pos hm]
  exact⟨hp,q1,by omega,q3⟩
 ·rw [if_neg hm]
  have hne:m ≠ n:=by simpa using hm
  have hc:=q4 (by omega)
  by_cases h1:m > 1
  ·rw [if_pos h1]
   refine⟨hp.lt (by omega),hp.lt (by omega),?_⟩
   by_cases hd:c (p.getD 0 0) (p.getD (m - 1) 0)=true
   ·simp only [hd,if_true]
    exact⟨hp,q1,by omega,q3⟩
   ·have hd':c (p.getD 0 0) (p.getD (m - 1) 0)=false:=aj5.mpr hd
    simp only [hd',ae5,ah6]
    have eq:∀ a,0<=a->a < m->gN c (G p a) (G p (m - 1)):=fun a _ ha=>⟨q3 a (m - 1) (by omega) (by omega),le_trans O hd' (q3 0 a (ah7 _) ha)⟩
    have er:=sC O hp (by omega:m<=n) eq
    refine sF O (hp.rev 0 m) q1 (by omega) (mZ O (p:=p) ?_ fun k _=>er k)
    refine kF O (fun a b hab hb=>?_) q1 (kE O hc)
    exact le_trans O (eq b (ah7 _) hb).1 (eq a (ah7 _) (by omega)).2
  ·rw [if_neg h1]
   have e:m=1:=by omega
   subst e
   refine sF O hp (ad6 _) (by omega) (kF O (fun a b hab hb=>?_) (ad6 _) (kE O hc))
   have e1:a=0:=by omega
   have e2:b=0:=by omega
   rw [e1,e2]; exact le_refl O _
theorem nA {n k:Nat}{p:Array Nat} (hp:PP n p) (hk:k < n) (ha:cM c p k):∀ (f l r:Nat),l<=r->r<=k->r - l<=f->(∀ a,a < l->Le c (G p a) (G p k))->(∀ a,r<=a->a < k->Le c (G p k) (G p a))->
  b8 n c (fun l=>l<=k/\(∀ a,a < l->Le c (G p a) (G p k))/\∀ a,l<=a->a < k->Le c (G p k) (G p a)) (kas_place p k f l r)
 | 0,l,r,h1,h2,h3,hl,hr=>⟨by omega,hl,fun a h4 h5=>hr a (by omega) h5⟩
 | f+1,l,r,h1,h2,h3,hl,hr=>by
  unfold kas_place
  by_cases hlr:l >= r
  ·rw [if_pos hlr]
   exact⟨by omega,hl,fun a h4 h5=>hr a (by omega) h5⟩
  ·rw [if_neg hlr]
   refine⟨hp.lt hk,hp.lt (by omega),?_⟩
   by_cases hc:c (p.getD k 0) (p.getD ((l+r) / 2) 0)=true
   ·simp only [hc,if_true]
    exact nA hp hk ha f l ((l+r) / 2) (by omega) (by omega) (by omega) hl fun a h4 h5=>le_trans O (kE O hc) (ha _ _ h4 h5)
   ·have hc':c (p.getD k 0) (p.getD ((l+r) / 2) 0)=false:=aj5.mpr hc
    simp only [hc',ae5,ah6]
    exact nA hp hk ha f ((l+r) / 2+1) r (by omega) h2 (by omega) (fun a h4=>le_trans O (ha a ((l+r) / 2) (by omega) (by omega)) hc') hr
theorem sG {n:Nat}:∀ (f:Nat) (p:Array Nat) (k:Nat),PP n p->k+f<=n->cM c p k->b8 n c (fun q=>PP n q/\cM c q (k+f)) (kas_bin f p k)
 | 0,p,k,hp,_,h=>⟨hp,h⟩
 | f+1,p,k,hp,hk,h=>by
  refine b8.bind (R:=fun l=>l<=k/\(∀ a,a < l->Le c (G p a) (G p k))/\∀ a,l<=a->a < k->Le c (G p k) (G p a)) (fun l q=>?_) _ (nA O hp (by omega) h k 0 k (ah7 _) (ad6 _) (by omega) (fun a z=>absurd z (Nat.not_lt_zero _)) fun a h1 h2=>absurd h2 (by omega))
  obtain ⟨q1,q2,q3⟩:=q
  have e:∀ a,G (bubble p k (k - l)) a=if a=l then G p k else if l < a/\a<=k then G p (a - 1) else G p a:=fun a=>by
   rw [A9 (by rw [hp.size]; omega) (by omega),show k - (k - l)=l by omega]
  refine b8.mono (fun r z=>⟨z.1,by rw [show k+(f+1)=k+1+f by omega]; exact z.2⟩) _ (sG f _ (k+1) (hp.bub _ _) (by omega) fun a b hab hb=>?_)
  rw [e,e]
  by_cases ha:a=l
  ·rw [if_pos ha]
   by_cases hb':b=l
   ·rw [if_pos hb']; exact le_refl O _
   ·rw [if_neg hb',if_pos (by omega)]; exact q3 _ (by omega) (by omega)
  ·rw [if_neg ha]
   by_cases ha2:l < a/\a<=k
   ·rw [if_pos ha2,if_neg (by omega),if_pos (by omega)]
    exact h _ _ (by omega) (by omega)
   ·rw [if_neg ha2]
    by_cases hb':b=l
    ·rw [if_pos hb']; exact q2 a (by omega)
    ·rw [if_neg hb']
     by_cases hb2:l < b/\b<=k
     ·rw [if_pos hb2]; exact h _ _ (by omega) (by omega)
     ·rw [if_neg hb2]; exact h _ _ hab (by omega)
theorem B2 {n:Nat} (hn:1<=n):b8 n c (fun q=>PP n q/\cM c q n) (kas_sort n):=by
 have hp:PP n (List.toArray (List.range n)):=by unfold PP; simp
 refine b8.bind (R:=CI c n) (fun r q=>?_) _ (B1 O hp hn)
 obtain ⟨q1,q2,q3,q4⟩:=q
 by_cases h:r.1 < n
 ·rw [if_pos h]
  have e:max r.1 1=r.1:=by omega
  rw [e]
  exact b8.mono (fun p z=>⟨z.1,by rw [show r.1+(n - r.1)=n by omega] at z; exact z.2⟩) _ (sG O (n - r.1) r.2 r.1 q1 (by omega) q4)
 ·rw [if_neg h]
  have e:r.1=n:=by omega
  exact⟨q1,by rw [e] at q4; exact q4⟩
end
end Srt
namespace L2
open PySem PySem.Spec PyProof.Rows
theorem b5.there {P:Program}{w:World}{H:Hp}{h:Heap}{a:Addr}{o:HO} (x:b5 P w H h a o):∃ u,h.get? a=some u:=by
 cases o with
 | lst xs=>obtain ⟨_,_,_,_,e⟩:=x; exact⟨_,e⟩
 | tup xs=>obtain ⟨_,_,_,⟨o,e,_⟩,_⟩:=x; exact⟨_,e⟩
 | dK kvs=>obtain ⟨_,_,_,_,o,_,_,e,_⟩:=x; exact⟨_,e⟩
 | dT kvs=>obtain ⟨_,_,_,_,o,_,_,e,_⟩:=x; exact⟨_,e⟩
 | set S n=>obtain ⟨o,_,_,_,e,_⟩:=x; exact⟨_,e⟩
 | ins C dx fs=>obtain ⟨_,_,_,e,_⟩:=x; exact⟨_,e⟩
 | own y=>exact x
 | xd fs=>obtain ⟨_,⟨_,_,_,e,_⟩,_⟩:=x; exact⟨_,e⟩
 | rng lo hi=>obtain ⟨_,_,_,e⟩:=x; exact⟨_,e⟩
 | frz ob u=>obtain ⟨e,_⟩:=x; exact⟨_,e⟩
 | tbl ps=>exact⟨_,(show h.get? a=some _ from x)⟩
 | met f y=>exact⟨_,(show h.get? a=some _ from x)⟩
 | ext φ=>obtain ⟨_,z,_⟩:=x; exact z
section
variable {X : Cx} {pins : List (Addr × Obj)} {σ : St} {H : Hp} {s : Shared} {h' : Heap} {a : Addr} {o : HO} {t' : Nat}
theorem a5.laidF (I:a5 X pins σ H s) (hn:s.heap.get? a=none) (k:∀ b u,b ≠ X.env.locals->s.heap.get? b=some u->h'.get? b=some u) (ns:∀ m,s.heap.Ns X.env.locals m->h'.Ns X.env.locals m)
  (new:b5 X.prog X.w (upd H a o) h' a o):H a=none/\a5 X pins σ (upd H a o) { s with heap:=h',toks:=t' }:=by
 have hHn:H a=none:=by
  cases q:H a with
  | none=>rfl
  | some u=>obtain ⟨z,e⟩:=(I.hok a u q).there; rw [hn] at e; cases e
 have ne:∀ b u,s.heap.get? b=some u->b ≠ a:=fun b u e z=>by rw [z,hn] at e; cases e
 have hL:=I.free
 refine⟨hHn,I.step (g':=s.gens) (d':=s.drawn) (ch:=[]) (fun _ z=>nomatch z) (fun b o' h1 _ _ e _=>k b o' h1 e) (fun b o' h1 _ _ e _=>⟨o'.slots,k b o' h1 e⟩) (fun b o' _ e n=>by rw [aR (ne b o' e)]; exact n) (fun b o' _ e=>?_)
  (fun b xs q=>by rw [aR (c9 q hHn)]; exact q) (fun b u xs q=>by rw [aR (c9 q hHn)]; exact q) (fun b ps q=>⟨#[],by rw [aR (c9 q hHn),q]; simp⟩) ns (fun b u q=>?_) I.bare⟩
 ·by_cases hb:b=X.env.locals
  ·obtain ⟨m,hm,_⟩:=I.loc
   obtain ⟨o2,_,_,e2,_⟩:=ns m hm
   exact⟨o2,by rw [hb]; exact e2⟩
  ·exact⟨o',k b o' hb e⟩
 ·by_cases hb:b=a
  ·subst hb; rw [bL] at q; cases q; exact new
  ·rw [aR hb] at q
   refine (I.hok b u q).stay (fun c v hc e=>k c v ?_ e) (fun c e=>by rw [aR (c9 e hHn)]; exact e) fun c xs e=>by rw [aR (c9 e hHn)]; exact e
   rcases hc with z | z
   ·rw [z]; intro y; rw [y,hL] at q; cases q
   ·intro y; rw [y,hL] at z; cases z
theorem a5.newsAll (I:a5 X pins σ H s) {news:List (Addr × Obj)}{m:Str->Option Value} (hs:∀ p ∈ iU X.base s.heap X.env.locals,p ∈ news) (F:Fr X.base X.env.locals h' m) (N:News X.base X.env.locals h' news) :
  ∀ b o,b ≠ X.env.locals->s.heap.get? b=some o->h'.get? b=some o:=fun b o h1 e=>by
 cases q:X.base.get? b with
 | some u=>
  have:=I.bk b u q
  rw [e] at this; cases this
  exact F.keep b _ q
 | none=>exact (N (b,o) (hs _ (pC h1 q e))).1
end
theorem B3 {α:Type}{d:α} (l:List α) {p:List Nat} (h:p.Perm (List.range l.length)):(p.map fun i=>l.getD i d).Perm l:=by
 have e:(List.range l.length).map (fun i=>l.getD i d)=l:=by
  apply List.ext_getElem
  ·simp
  ·intro i h1 h2
   simp at h1
   simp [h1]
 have:=h.map fun i=>l.getD i d
 rw [e] at this
 exact this
theorem nB:∀ {xs:List V}{us:List Value} (i:Nat),i < xs.length->aH xs us->aP (xs.getD i .non) (us.getD i Value.none)
 | _,_,_,h,.nil=>by simp at h
 | _,_,0,_,.cons r _=>by simpa using r
 | _,_,i+1,h,.cons _ t=>by
  have:=nB i (by simpa using h) t
  simpa using this
theorem sH {xs:List V}{us:List Value} (r:aH xs us):∀ {p:List Nat},(∀ i ∈ p,i < xs.length)->aH (p.map fun i=>xs.getD i .non) (p.map fun i=>us.getD i Value.none)
 | [],_=>.nil
 | i :: p,h=>.cons (nB i (h i ad2) r) (sH r fun j hj=>h j (ad5 _ hj))
theorem sI {α:Type}:∀ l:List α,(l.zip l).map (·.2)=l
 | []=>rfl
 | a :: l=>by
  show a :: ((l.zip l).map (·.2))=a :: l
  rw [sI l]
theorem B4 {prog:Program}{w:World}{A:Around}{E:Value->Shared->Prop}{s:Shared}{a:Addr}{vs:List Value}{n:Nat}{P:PySem.Fin->Shared->Prop} (e:s.heap.get? a=some (seqObj "list" vs.toArray n)) (few:vs.length < 2)
  (q:P (.done (.ret .none)) { s with heap:=sortedHeap s.heap a vs vs.toArray }):wpAny (model prog w) A (Builtin.«list.sort» ⟨[.ref a],[]⟩) P E s:=by
 have big:vs.length<=sizeLine:=ag1 (al0 few) (by decide)
 have la:=ad8 e
 have c:vs.toArray.size < 2:=by simpa using few
 have same:(arrOf (SortSt.mk' general' (vs.toArray.zip vs.toArray) #[] 7 none)).map (·.2)=vs.toArray:=by
  change (vs.toArray.zip vs.toArray).map (·.2)=vs.toArray
  apply Array.ext'
  simpa using sI vs
 obtain ⟨k,ek⟩:∃ k,(s.heap.update a (Obj.mapSeq fun _=>#[])).get? a=some (seqObj "list" #[] k):=⟨_,get?_update_seq e fun _=>#[]⟩
 have there:(((s.heap.update a (Obj.mapSeq fun _=>#[])).push (seqObj "tuple" vs.toArray 0)).push (seqObj "list" #[] 0)).get? a=some (seqObj "list" #[] k):=
  ad0 _ (ad0 _ ek)
 rw [list_sort_plain]
 apply ac9
 apply listItems_at e rfl
 apply ac9
 refine listUpdate_at e rfl ?_ (by simpa using big) (ah7 _)
 apply ac9
 apply seqEpoch_at ek rfl
 apply ac9
 refine wpAny_newTuple ?_ big
 apply ac9
 refine wpAny_newList ?_ (ah7 _)
 apply wpAny_holding
 simp only [c,if_true,StateT.run_pure]
 apply ac9
 apply ad3
 apply ac9
 apply ad3
 apply ac9
 apply seqEpoch_at there rfl
 apply ac9
 refine listUpdate_at there rfl ?_ (ah7 _) (by rw [same,ae3]; exact Nat.le_succ_of_le big)
 rw [same]
 simp only [bne_self_eq_false,ae5,ah6]
 exact ad3 q
theorem B5 {prog:Program}{w:World}{A:Around}{E:Value->Shared->Prop}{s:Shared}{l:Addr}{vs:List Value}{Q:Value->Shared->Prop} (hl:s.heap.IsList l vs.toArray) (few:vs.length < 2)
  (q:Q (.ref (s.heap.objs.size+1)) { s with heap:=sortedAll s.heap vs vs.toArray }):wpAny (model prog w) A (call (.builtin "sorted") [.ref l]) Q E s:=by
 have big:vs.length<=sizeLine:=ag1 (al0 few) (by decide)
 apply Calls.call_function_entry kind_sorted plain_sorted entry_sorted (args_sorted1 _)
 simp only [Builtin.«sorted»]
 apply ac9 (m:=checkCount "sorted" 1 1 _)
 apply ad3
 apply ac9
 refine collect_list hl ?_ big
 apply ac9
 refine wpAny_newList ?_ big
 have one:((s.heap.push (seqObj "list" #[] 0)).update s.heap.objs.size (Obj.mapSeq (· ++ vs.toArray))).objs.size=s.heap.objs.size+1:=(Heap.size_update _ _ _).trans (size_push' _ _)
 have at1:(((s.heap.push (seqObj "list" #[] 0)).update s.heap.objs.size (Obj.mapSeq (· ++ vs.toArray))).push (seqObj "list" vs.toArray 0)).get? (s.heap.objs.size+1)=some (seqObj "list" vs.toArray 0):=one ▸ ae1 _ rfl
 change wpAny _ _ _ _ _ { s with heap:=((s.heap.push (seqObj "list" #[] 0)).update s.heap.objs.size (Obj.mapSeq (· ++ vs.toArray))).push (seqObj "list" vs.toArray 0) }
 rw [one]
 apply ac9
 apply wpAny_holding
 refine ai6 slot_list_sort ⟨_,at1,rfl⟩ entry_list_sort ?_ (args_list_sort _)
 refine B4 at1 few ⟨_,rfl,?_⟩
 exact ad3 ⟨_,rfl,q⟩
theorem sJ:∀ {a b:List Int},HT.b4 a b=true->HT.b4 b a=false
 | [],[],h=>by cases h
 | [],_ :: _,_=>rfl
 | _ :: _,[],h=>by cases h
 | x :: xs,y :: ys,h=>by
  rw [HT.fP] at h ⊢
  by_cases e:x=y
  ·rw [if_pos e] at h; rw [if_pos e.symm]; exact sJ h
  ·rw [if_neg e] at h; rw [if_neg (Ne.symm e)]
   have:=of_decide_eq_true h
   exact ad7 (by omega)
theorem sK:∀ {a b c:List Int},HT.b4 a b=false->HT.b4 b c=false->HT.b4 a c=false
 | [],[],c,_,h=>h
 | [],_ :: _,_,h,_=>by cases h
 | _ :: _,[],[],_,_=>rfl
 | _ :: _,[],_ :: _,_,h=>by cases h
 | _ :: _,_ :: _,[],_,_=>rfl
 | x :: xs,y :: ys,z :: zs,h1,h2=>by
  rw [HT.fP] at h1 h2 ⊢
  by_cases e1:x=y
  ·rw [if_pos e1] at h1
   by_cases e2:y=z
   ·rw [if_pos e2] at h2; rw [if_pos (e1.trans e2)]; exact sK h1 h2
   ·rw [if_neg e2] at h2; rw [if_neg (by rw [e1]; exact e2)]; rw [e1]; exact h2
  ·rw [if_neg e1] at h1
   have k1:=of_decide_eq_false h1
   by_cases e2:y=z
   ·rw [<- e2,if_neg e1]; exact h1
   ·rw [if_neg e2] at h2
    have k2:=of_decide_eq_false h2
    rw [if_neg (by omega)]
    exact ad7 (by omega)
section
variable {prog : Program} {w : World} {A : Around} {s : Shared} {Q : Bool → Shared → Prop}
theorem sL:∀ {us ws:List Value}{xs ys:List Int} (i:Nat),IntsAre us xs->IntsAre ws ys->Q (HT.b4 xs ys) s->PySem.W.KatLex prog w A true (decide (us.length < ws.length)) Q (us.zip ws) i s
 | _,_,_,_,_,.nil,.nil,h=>h
 | _,_,_,_,_,.nil,.cons _ _ _,h=>h
 | _,_,_,_,_,.cons _ _ _,.nil,h=>h
 | _,_,_,_,i,.cons (vs:=us) x t hx,.cons (vs:=ws) y u hy,h=>by
  refine PySem.W.kat_cons (wpAny_eqBool_int ?_)
  rw [HT.fP] at h
  by_cases e:x=y
  ·rw [if_pos e] at h
   have eb:(x == y)=true:=by simpa using e
   rw [eb]
   refine PySem.W.kat_yes ?_
   have e2:decide ((Value.int x t :: us).length < (Value.int y u :: ws).length)=decide (us.length < ws.length):=by simp
   rw [e2]
   exact sL (i+1) hx hy h
  ·rw [if_neg e] at h
   have eb:(x == y)=false:=by simpa using e
   rw [eb]
   refine PySem.W.kat_no ?_
   cases hi:(true && i == 0) with
   | true=>exact PySem.W.kat_lt_int h
   | false=>exact PySem.W.kat_one _ _ (lt_int h)
end
def sM (K:PySem.W.Frag):List V->Hp->VK->Prop:=fun xs H Q=>∃ (a:Addr) (ys:List V) (key:V->List Int),xs = [.ref a]/\aM K H a ys/\ys.length < 64/\(∀ y ∈ ys,∃ b,y = .ref b/\aO K H b ((key y).map V.int)/\key y ≠ [])/\
 ∀ l (zs:List V),H l=none->zs.Perm ys->zs.Pairwise (fun u v=>HT.b4 (key v) (key u)=false)->Q (.ref l) (upd H l (.lst zs))
theorem B6 {c:Nat->Nat->Bool}{R:V->V->Prop}{ys:List V}{p:Array Nat}{n:Nat} (hp:Srt.PP n p) (ha:Srt.cM c p n) (hR:∀ i j,Srt.Le c i j->R (ys.getD i .non) (ys.getD j .non)) :
  (p.toList.map fun i=>ys.getD i .non).Pairwise R:=by
 rw [List.pairwise_map,List.pairwise_iff_getElem]
 intro i j hi hj hij
 have hs:=hp.size
 have h1:i < n:=by rw [<- hs]; simpa using hi
 have h2:j < n:=by rw [<- hs]; simpa using hj
 have q:=ha i j (al0 hij) h2
 have e:∀ k (hk:k < p.toList.length),Srt.G p k=p.toList[k]:=fun k hk=>by
  have hk':k < p.size:=by simpa using hk
  unfold Srt.G; rw [ak0]; simp [hk']
 rw [e i hi,e j hj] at q
 exact hR _ _ q
theorem B7 {X:Cx}:bW X (.builtin "sorted") (sM X.K):=by
 intro pins s σ H xs us Q I r h
 obtain ⟨a,ys,key,rfl,hs,h64,hk,q⟩:=h
 obtain ⟨u,rfl,ru⟩:=dO r
 cases ru
 obtain ⟨its,rv,p,hz⟩:=I.list hs
 have hl:=rv.length
 by_cases h2:its.length < 2
 ·
  refine B5 p.isList h2 ?_
  obtain ⟨e,he⟩:=sortedAll_at s.heap its its.toArray
  have hn:s.heap.objs.size<=s.heap.objs.size+1:=Nat.le_succ _
  refine⟨.ref (s.heap.objs.size+1),upd H (s.heap.objs.size+1) (.lst ys),I.laid (t':=s.toks) (fun _ _=>sortedAll_old) hn ⟨hz,its,e,rv,he⟩,rfl,q _ ys (I.hok.fresh hn) (List.Perm.refl _) ?_⟩
  match ys,hl with
  | [],_=>exact List.Pairwise.nil
  | [_],_=>exact List.pairwise_singleton _ _
  | _ :: _ :: _,hl=>simp at hl; omega
 ·obtain ⟨m,F⟩:=I.fr
  have hL:∀ {b:Addr}{k:List Int},aO X.K H b (k.map V.int)->b ≠ X.env.locals:=fun {b k} z e=>by
   obtain ⟨its',_,⟨ob,e1,c1,_⟩,_⟩:=I.tuple z
   obtain ⟨m',⟨o',es',ep',e2,d2,_⟩,_⟩:=I.loc
   rcases z with (z | ⟨_,z⟩) | ⟨o3,its3,n3,z3,zc,zd,_⟩
   ·rw [e,I.free] at z; cases z
   ·rw [e,I.free] at z; cases z
   ·have:=I.kIn b o3 z3
    rw [e,e2] at this
    cases this
    rw [d2] at zd; cases zd
  refine PySem.W.kat_sorted F (wF (g:=X.base) (h:=s.heap) (L:=X.env.locals)) p.isList (by omega) (by omega) fun D e1 h' F' N' hD=>?_
  have keep:=I.newsAll (fun p hp=>ad5 _ hp) F' N'
  have look:∀ i,i < ys.length->∃ (b:Addr) (ob:Obj) (us:List Value) (n:Nat),its.getD i Value.none = .ref b/\h'.get? b=some ob/\ob.cls = .type "tuple"/\ob.data = .seq us.toArray n/\IntsAre us (key (ys.getD i .non))/\key (ys.getD i .non) ≠ []:=fun i hi=>by
   have hy:ys.getD i .non ∈ ys:=by
    rw [ah8,ae8 hi]; exact List.getElem_mem hi
   obtain ⟨b,eb,sq,ne⟩:=hk _ hy
   have rr:=nB i hi rv
   rw [eb] at rr
   have rr:its.getD i Value.none = .ref b:=rr
   obtain ⟨us,ru,⟨ob,e1,c1,n1,d1⟩,_⟩:=I.tuple sq
   exact⟨b,ob,us,n1,rr,keep b ob (hL sq) e1,c1,d1,k6 ru,ne⟩
  have firsts:∀ {xs:List V}{vs:List Value},aH xs vs->(∀ y ∈ xs,∃ b,y = .ref b/\aO X.K H b ((key y).map V.int)/\key y ≠ [])->∃ fs:List Value,PySem.W.KatTups h' vs fs/\fs.length=vs.length/\∀ v ∈ fs,∃ i t,v=Value.int i t:=by
   intro xs vs r
   induction r with
   | nil=>intro _; exact⟨[],PySem.W.KatTups.nil,rfl,fun _ z=>nomatch z⟩
   | @cons x v xs vs rx rt ih=>
    intro hh
    obtain ⟨fs,t1,t2,t3⟩:=ih fun y hy=>hh y (ad5 _ hy)
    obtain ⟨b,eb,sq,ne⟩:=hh x ad2
    subst eb
    cases rx
    obtain ⟨us,ru,⟨ob,e1,c1,n1,d1⟩,_⟩:=I.tuple sq
    have ia:=k6 ru
    generalize key (V.ref b)=kk at ia ne
    cases ia with
    | nil=>exact absurd rfl ne
    | @cons n t vs0 ns0 ht=>
     exact⟨Value.int n t :: fs,PySem.W.KatTups.cons (keep b ob (hL sq) e1) c1 d1 (by simp) t1,by simp [t2],fun v hv=>(ae0.mp hv).elim (fun z=>⟨n,t,z⟩) (t3 v)⟩
  obtain ⟨fs,t1,t2,t3⟩:=firsts rv hk
  refine PySem.W.kat_kind (T:=.type "int") t1 (by omega) (fun v hv=>?_) (by decide) ?_
  ·obtain ⟨i,t,rfl⟩:=t3 v hv
   exact PySem.W.Looks.now
  let c:Nat->Nat->Bool:=fun i j=>HT.b4 (key (ys.getD i .non)) (key (ys.getD j .non))
  have O:Srt.mX c:=⟨fun h=>sJ h,fun h1 h2=>sK h1 h2⟩
  have ok:=Srt.B2 (n:=its.length) O (by omega)
  refine Srt.b8.run (I:=fun s'=>s'={ s with heap:=h' }) (fun i j C s' hi hj hI hC=>?_) (fun pa s' hR hI=>?_) _ _ rfl ok
  ·subst hI
   obtain ⟨b1,o1,u1,n1,g1,g2,_,g4,g5,_⟩:=look i (by omega)
   obtain ⟨b2,o2,u2,n2,k1,k2,_,k4,k5,_⟩:=look j (by omega)
   show wpAny _ _ (keyLt' (tuples' (Value.type "int" != Value.type "tuple")) (its.getD i Value.none) (its.getD j Value.none)) _ _ _
   rw [g1,k1]
   have eT:(Value.type "int" != Value.type "tuple")=true:=by decide
   rw [eT]
   refine PySem.W.kat_lt g2 g4 k2 k4 ?_
   have:=sL (prog:=X.prog) (w:=X.w) (A:=X.A.in1.in1) (s:={ s with heap:=h' }) (Q:=C) 0 g5 k5 (hC _ rfl)
   simpa using this
  ·subst hI
   obtain ⟨hp,hasc⟩:=hR
   refine PySem.W.KasFin.intro F' N' (PySem.W.UpdF.head fun p hp=>af7 (hD p hp)) fun h2 cc F2 N2=>?_
   have keep2:=I.newsAll (fun p hp=>ad5 _ hp) F2 N2
   have hDn:s.heap.get? D=none:=by
    cases z:s.heap.get? D with
    | none=>rfl
    | some o=>
     obtain ⟨_,n1,n2⟩:=N2 (D,_) ad2
     exact absurd (hD _ (pC n1 n2 z)) (ag3 _)
   have hpl:∀ i ∈ pa.toList,i < ys.length:=fun i hi=>by
    have:=List.mem_range.mp (hp.mem_iff.mp hi); omega
   have hp':pa.toList.Perm (List.range ys.length):=by rw [hl]; exact hp
   have pm:=B3 (d:=V.non) ys hp'
   obtain ⟨hDo,hDL,hDb⟩:=N2 (D,_) ad2
   obtain ⟨hHD,I2⟩:=I.laidF (t':=s.toks) (a:=D) (o:=.lst (pa.toList.map fun i=>ys.getD i .non)) hDn keep2 (fun m' hm'=>by
     have e:m'=m:=funext fun nm=>Heap.Ns.agree hm' F.ns nm
     rw [e]; exact F2.ns) ⟨by rw [pm.length_eq]; exact hz,_,cc,sH rv hpl,hDo⟩
   exact⟨.ref D,_,I2,rfl,q D _ hHD pm (B6 hp hasc fun i j hle=>hle)⟩
end L2
namespace Raw
open PySem PySem.W PySem.Calls PyProof.Rows
def dE (h:Heap) (d:Addr) (es:Array DictEntry) (ep:Nat):Prop:=∃ o,h.get? d=some o/\o.ExactDict/\o.data = .dict es ep
theorem dE.ty {s:Shared}{d:Addr}{es:Array DictEntry}{ep:Nat} (x:dE s.heap d es ep):s.TypeIs (.ref d) "dict":=x.elim fun o y=>⟨o,y.1,y.2.1.1⟩
theorem dE.lt {h:Heap}{d:Addr}{es:Array DictEntry}{ep:Nat} (x:dE h d es ep):d < h.objs.size:=x.elim fun _ y=>ad8 y.1
theorem dE.keep {h h':Heap}{d:Addr}{es:Array DictEntry}{ep:Nat} (x:dE h d es ep) (k:∀ o,h.get? d=some o->h'.get? d=some o):dE h' d es ep:=x.elim fun o y=>⟨o,k o y.1,y.2⟩
section
variable {prog : Program} {w : World} {A : Around} {E : Value → Shared → Prop} {s : Shared} {d it : Addr} {es : Array DictEntry} {ep i : Nat}
theorem B8 (far:(d == sysModules)=false) (x:dE s.heap d es ep) {Q:Value->Shared->Prop}
  (q:Q (.ref s.heap.objs.size) { s with heap:=s.heap.push { cls:=.type "dict_keyiterator",data:=.fields #[.ref d,.int 0 0,.int es.size 0,.int ep 0] } }):wpAny (model prog w) A (pyIter (.ref d)) Q E s:=by
 have T:=x.ty
 obtain ⟨o,e1,e2,e3⟩:=x
 apply wpAny_pyIter_slot T PySem.F.slot_dict_iter
 apply ai6 PySem.F.slot_dict_iter T PySem.F.entry_dict_iter _ (PySem.F.args_dict_iter_1 _)
 simp only [Builtin.«dict.__iter__»,Builtin.Dict.dictSlotNone]
 apply ac9
 apply ac9
 apply wpAny_notOrdered_dict T
 apply ad3
 change wpAny _ _ (Builtin.Dict.showsAll d >>= _) _ _ s
 have far':Builtin.Dict.showsAll d=pure ():=by
  unfold Builtin.Dict.showsAll
  simp only [far,ae5,ah6]
 rw [far',pure_bind]
 apply ac9
 apply wpAny_dictEntries e1 e3
 apply ac9
 apply wpAny_dictEpoch e1 e3
 apply ac9
 refine ah2 (ad3 ?_)
 refine⟨.ref s.heap.objs.size,rfl,"dict_keyiterator",_,⟨_,ae1 _ rfl,rfl⟩,PySem.F.slot_dict_keyiterator_next.lookup,?_⟩
 simpa only [rawInt] using q
theorem turn (hh:A.handled=none) (hi:s.heap.IsKeyIter it d i es.size ep) (x:dE s.heap d es ep) {Q:Option Value->Shared->Prop}
  (yes:∀ (lt:i < es.size) h',h'.IsKeyIter it d (i+1) es.size ep->Heap.SameBut it s.heap h'->Q (some es[i].key) { s with heap:=h' })
  (no:es.size<=i->∀ h',Heap.ExtBut it s.heap h'->Q none { s with heap:=h' }):wpAny (model prog w) A (pyNext (.ref it)) Q E s:=by
 have T:=hi.typeIs
 obtain ⟨oi,f1,f2,f3⟩:=hi
 obtain ⟨o,e1,e2,e3⟩:=x
 have slot:=PySem.F.slot_dict_keyiterator_next
 have plain:Builtin.Dict_items.ownsTuple "dict_keyiterator" = false:=by decide
 have isref:(Value.ref d == Value.none)=false:=rfl
 have nn : ¬ (i:Int) < 0:=by omega
 unfold pyNext
 apply ac9
 apply wpAny_attempt
 apply ah4 (name:=Str.ofString "__next__") T slot
 apply ai6 slot T PySem.F.entry_dict_keyiterator_next _ (PySem.F.args_dict_keyiterator_next_1 _)
 apply ac9
 apply ad3
 apply ac9
 apply ac9
 apply ac9
 first
  | apply wpAny_typeNameOfWhole_keyiter T
  | apply wpAny_typeNameOf_keyiter T
 apply ad3
 apply ac9
 apply wpAny_fieldsOf f1 f3
 simp only [plain,ae5,ah6]
 change wpAny _ _ (if (Value.ref d == Value.none)=true then _ else _) _ _ s
 have adr:Builtin.Dict_items.addrOf (Value.ref d)=pure d:=rfl
 simp only [isref,ae5,ah6,adr,pure_bind]
 apply ac9
 apply wpAny_dictEntries e1 e3
 simp only [bne_self_eq_false,ae5,ah6]
 apply ac9
 apply wpAny_dictEpoch e1 e3
 simp only [bne_self_eq_false,ae5,ah6]
 apply ad3
 simp only [nn,ah6,Int.toNat_natCast]
 by_cases lt:i < es.size
 ·simp only [Array.getElem?_eq_getElem lt]
  apply ac9
  apply ac9
  first
   | apply wpAny_typeNameOfWhole_keyiter T
   | apply wpAny_typeNameOf_keyiter T
  apply ad3
  apply ac9
  apply wpAny_isOneOf_keyiter T
  change wpAny _ _ (setField (.ref it) 1 (rawInt ((i:Int)+1)) >>= _) _ _ s
  apply ac9
  refine wpAny_setField f1 f3 (by simp) ?_
  have again:(s.heap.update it (Obj.mapFields (·.setIfInBounds 1 (rawInt ((i:Int)+1))))).IsKeyIter it d (i+1) es.size ep:=by
   refine⟨_,Heap.get?_update_self _ f1 (Obj.isFreed_of_fields (Obj.data_mapFields f3 _)),?_,?_⟩
   ·rw [Obj.cls_mapFields]; exact f2
   ·rw [Obj.data_mapFields f3]; simp [rawInt]
  apply ac9
  apply wpAny_holding
  apply ac9
  refine wpAny_isOneOf_keyiter (s:={ s with heap:=s.heap.update it (Obj.mapFields (·.setIfInBounds 1 (rawInt ((i:Int)+1)))) }) again.typeIs ?_
  change wpAny _ _ (pure es[i].key) _ _ _
  apply ad3
  apply ad3
  exact⟨es[i].key,rfl,ad3 (yes lt _ again (Heap.SameBut.update ..))⟩
 ·have ge:es.size<=i:=Nat.le_of_not_lt lt
  simp only [Array.getElem?_eq_none ge]
  apply ac9
  apply ac9
  first
   | apply wpAny_typeNameOfWhole_keyiter T
   | apply wpAny_typeNameOf_keyiter T
  apply ad3
  change wpAny _ _ (setField (.ref it) 0 .none >>= _) _ _ s
  apply ac9
  refine wpAny_setField f1 f3 (by simp) ?_
  apply ac9
  simp only [newExc,newTuple]
  apply ac9
  refine ah2 ?_ (by size_fits)
  apply ac9
  refine wpAny_of_eq (a:=Value.none) (by first | rfl | (simp only [firstArgMember]; rfl)) ?_
  refine ah2 ?_ (by size_fits)
  unfold raiseNew
  apply ac9
  apply wpAny_handled
  have quiet:A.in1.handled=none:=hh
  rw [quiet]
  refine wpAny_throw ?_
  apply ac9
  refine wpAny_isInstance (T:="StopIteration") (b:=true) ⟨_,ae1 _ rfl,rfl⟩ isSubtype_stop ?_
  exact ad3 (no ge _ (((Heap.SameBut.update ..).extBut.push _).push _))
theorem B9 (hh:A.handled=none) (ne:d ≠ it):Walks prog w A it [it,d] [it] es.size (fun i v=>∃ lt:i < es.size,es[i].key=v) (fun i h=>h.IsKeyIter it d i es.size ep/\dE h d es ep) where
 sub:=by intro b hb; rw [ae4.mp hb]; exact ad2
 frame:=by
  intro i h h' st hk
  exact⟨st.1.at (hk it ad2),st.2.keep (hk d (ad5 _ ad2))⟩
 item:=by
  intro i s Q E lt st hQ
  refine turn hh st.1 st.2 (fun lt' h' again sb=>?_) fun ge=>absurd lt (Nat.not_lt.mpr ge)
  exact hQ _ h' s.toks ⟨lt',rfl⟩ ⟨again,st.2.keep fun o e=>sb.extBut d o ne e⟩ fun b o hb e=>sb.extBut b o (fun z=>hb (ae4.mpr z)) e
 done:=by
  intro s Q E st hQ
  refine turn hh st.1 st.2 (fun lt=>absurd lt (ag3 _)) fun _ h' eb=>?_
  exact hQ h' s.toks fun b o hb e=>eb b o (fun z=>hb (ae4.mpr z)) e
 self:=by intro i s Q E st hQ; exact wpAny_pyIter_keyiter st.1 hQ
theorem C0 (far:(d == sysModules)=false):KdlSrc prog w "dict" d d es.size (fun i v=>∃ lt:i < es.size,es[i].key=v) (fun h=>dE h d es ep) where
 type:=fun _ x=>x.ty
 there:=fun _ x=>⟨x.lt,x.lt⟩
 keep:=fun _ _ x k=>x.keep (k d (.inl rfl))
 notList:=by decide
 notTuple:=by decide
 hint:=fun _ _ _ _ x q=>kdl_hint_dict x.ty q
 iter:=fun _ _ hh x=>⟨_,_,fun _ _ q=>B8 far x q,B9 hh (af7 x.lt),⟨_,ae1 _ rfl,rfl,rfl⟩,x.keep fun o e=>ad0 _ e⟩
end
end Raw
namespace L2
open PySem PySem.Spec PyProof.Rows
section
variable {X : Cx} {pins : List (Addr × Obj)} {σ : St} {H : Hp} {s : Shared} {a : Addr}
def kH (H:Hp) (y:V) (k:List aG):Prop:=∃ q,y = .ref q/\H q=some (.tup (k.map kV))
theorem C1 {kvs:List (List aG × V)} (I:a5 X pins σ H s) (h:H a=some (.dT kvs)):∃ es ep ys,Raw.dE s.heap a es ep/\(a == sysModules)=false/\Paired (kH H) ys (kvs.map (·.1))/\aH ys (es.toList.map (·.key))/\kvs.length<=sizeLine:=by
 obtain ⟨z,far,xs,rel,o,es,ep,e1,e2,e3,e4,nd⟩:=(show b5 X.prog X.w H s.heap a (.dT kvs) from I.hok a _ h)
 refine⟨es,ep,xs.map fun q=>V.ref q.2.1,⟨o,e1,e2,e3⟩,far,?_,?_,z⟩
 ·clear e4 nd h z
  induction rel with
  | nil=>exact .nil
  | cons r rs ih=>exact .cons ⟨_,rfl,r.2.1⟩ ih
 ·rw [e4]
  clear rel e4 nd
  induction xs with
  | nil=>exact .nil
  | cons q qs ih=>exact .cons rfl ih
theorem C2 {es:Array DictEntry}{acc:Array Value} (h:ItemsOf (fun i v=>∃ lt:i < es.size,es[i].key=v) acc es.size):acc.toList=es.toList.map (·.key):=by
 apply List.ext_getElem?
 intro j
 have h1:=h.1
 by_cases hj:j < es.size
 ·have hj':j < acc.size:=by rw [h1]; exact hj
  obtain ⟨_,e⟩:=h.2 j acc[j] (by simp [hj'])
  rw [ad9]
  simp [hj,hj',e]
 ·have hj' : ¬ j < acc.size:=by rw [h1]; exact hj
  rw [ad9]
  simp [Nat.le_of_not_lt hj,Nat.le_of_not_lt hj']
theorem C3 (hc:X.calm=true):bW X (.type "list") (fun xs H Q=>∃ a kvs,xs = [.ref a]/\H a=some (.dT kvs)/\∀ l ys,H l=none->Paired (kH H) ys (kvs.map (·.1))->Q (.ref l) (upd H l (.lst ys))):=by
 intro pins s σ H xs us Q I r h
 obtain ⟨a,kvs,rfl,ha,q⟩:=h
 obtain ⟨u,rfl,ru⟩:=dO r
 cases ru
 obtain ⟨es,ep,ys,rd,far,pk,vk,z⟩:=C1 I ha
 have hl:=vk.length
 have hl2:=pk.length
 rw [ad1] at hl hl2
 have hsz:es.toList.length=es.size:=ai8
 refine PySem.W.kdl_call (Raw.C0 far) (I.ok.hd hc) rd (by omega) fun h' tk acc c kp e it=>?_
 refine⟨.ref s.heap.objs.size,_,I.laid (t':=tk) kp (ad6 _) (show b5 X.prog X.w _ h' _ (.lst ys) from ⟨by omega,acc.toList,c,by rw [C2 it]; exact vk,by simpa using e⟩),rfl,q _ ys (I.hok.fresh (ad6 _)) pk⟩
end
section
variable {X : Cx}
theorem C4:bW X (.builtin "isinstance") (fun xs H Q=>∃ x t n b,xs = [x,.ty n]/\cI X.K H x t/\PySem.W.kitOne X.K t (.type n)=some b/\Q (.bl b) H):=by
 intro pins s σ H xs us Q I r h
 obtain ⟨x,t,n,b,rfl,ty,e,q⟩:=h
 obtain ⟨u,u',rfl,ru,ru'⟩:=jZ r
 cases ru'
 exact y4 I ru ty e fun tk=>⟨.bl b,H,I.tok tk,rfl,q⟩
end
def sN (outer:List (Str × NameKind)) (XN:List Str) (names:List (Str × NameKind)) (N:List Str) (fr:List (Option Nat)):Bool:=
 names.all (fun y=>!(y.2 == .cell) || names.lookup y.1 == some .cell) && names.all (fun y=>!(y.2 == .local) || names.lookup y.1 == some .local) &&
 names.all (fun y=>!(y.2 == .free) || (outer.lookup y.1 == some .cell || outer.lookup y.1 == some .free)) && fr.length == N.length &&
 (fr.zip N).all (fun p=>match p.1 with
  | none=>true
  | some j=>XN[j]? == some p.2 && names.lookup p.2 == some .free)
theorem cL.of {X:Cx}{scope:Scope}{N:List Str}{fr:List (Option Nat)} (hk:scope.kind = .function) (h:sN X.env.scope.names X.N scope.names N fr=true):cL X scope N fr:=by
 unfold sN at h
 simp only [aj2] at h
 obtain ⟨⟨⟨⟨h1,h2⟩,h3⟩,h4⟩,h5⟩:=h
 refine⟨hk,fun y hy e=>?_,fun y hy e=>?_,fun y hy e=>?_,by simpa using h4,fun i j e=>?_⟩
 ·have:=ak3.mp h1 y hy
  rw [e] at this; simpa using this
 ·have:=ak3.mp h2 y hy
  rw [e] at this; simpa using this
 ·have:=ak3.mp h3 y hy
  rw [e] at this; simpa using this
 ·have hl:fr.length=N.length:=by simpa using h4
  have hi:i < fr.length:=(ae7.mp e).1
  have m:(some j,N[i]'(by omega)) ∈ fr.zip N:=by
   have:(fr.zip N)[i]? = some (some j,N[i]'(by omega)):=by
    rw [List.getElem?_zip_eq_some]
    exact⟨e,by simp⟩
   exact ag2 this
  have:=ak3.mp h5 _ m
  simp only [aj2,beq_iff_eq] at this
  exact⟨N[i]'(by omega),by simp,this.1,this.2⟩
def sO (ls:List (Int × Int)) (k:Int):List Int:=ls.flatMap fun l=>(if l.1=k then [l.2] else []) ++ (if l.2=k then [l.1] else [])
theorem sP {α:Type}{xs:List α}{i:Int}{v:α} (h0:0<=i) (h:xs[i.toNat]? = some v):atI xs i=some v:=by
 have:=k7 h
 rwa [show ((i.toNat:Nat):Int)=i by omega] at this
theorem nC {n:Nat} (h:n<=16000000):n < sizeLine:=by rw [sizeLine_eq]; omega
theorem C5 {K:PySem.W.Frag}{H:Hp}{p:Addr}{xs:List V} (h:aM K H p xs):k8 K "list" (.ref p) H:=.inl ⟨rfl,xs,h⟩
end L2
namespace Zp
open PySem PyProof.Rows
section
variable {prog : Program} {w : World} {A : Around} {E : Value → Shared → Prop} {s : Shared}
theorem C6 {it t:Addr}{i:Nat}{items:Array Value}{x:Value}{Q:Value->Shared->Prop} (hi:s.heap.IsTupleIter it t i) (ht:s.heap.IsTuple t items) (hx:items[i]? = some x)
  (q:∀ h',h'.IsTupleIter it t (i+1)->Heap.SameBut it s.heap h'->Q x { s with heap:=h' }):wpAny (model prog w) A (Builtin.SmallTypes.nextOf (.ref it)) Q E s:=by
 have T:=hi.typeIs
 obtain ⟨o,e1,e2,e3⟩:=hi
 obtain ⟨u,f1,_,k,f3⟩:=ht
 have slot:=PySem.F.slot_tuple_iterator_next
 have isref:(Value.ref t == Value.none)=false:=rfl
 unfold Builtin.SmallTypes.nextOf
 apply ac9
 apply ah4 (name:=Str.ofString "__next__") T slot
 apply ai6 slot T PySem.F.entry_tuple_iterator_next _ (PySem.F.args_tuple_iterator_next_1 _)
 change wpAny _ _ (field (.ref it) 0 >>= _) _ _ s
 apply ac9
 refine ai3 e1 e3 (x:=.ref t) rfl ?_
 change wpAny _ _ (if (Value.ref t == Value.none)=true then _ else _) _ _ s
 simp only [isref,ae5,ah6]
 change wpAny _ _ (field (.ref it) 1 >>= _) _ _ s
 apply ac9
 refine ai3 e1 e3 (x:=.int i 0) rfl ?_
 change wpAny _ _ (seqItems? (.ref t) >>= _) _ _ s
 apply ac9
 apply ak5 f1 f3
 simp only [Int.toNat_natCast,hx]
 apply ac9
 refine wpAny_setField e1 e3 (by simp) ?_
 apply ad3
 refine⟨x,rfl,ad3 (q _ ⟨_,Heap.get?_update_self _ e1 (Obj.isFreed_of_fields (Obj.data_mapFields e3 _)),?_,?_⟩ (Heap.SameBut.update ..))⟩
 ·rw [Obj.cls_mapFields]; exact e2
 ·rw [Obj.data_mapFields e3]; simp [rawInt]
theorem C7 {it t:Addr}{i:Nat}{items:Array Value}{Q:Value->Shared->Prop} (hh:A.handled=none) (hi:s.heap.IsTupleIter it t i) (ht:s.heap.IsTuple t items) (hx:items[i]? = none)
  (q:∀ h' e,Heap.ExtBut it s.heap h'->(∃ o,h'.get? e=some o/\o.cls = .type "StopIteration")->E (.ref e) { s with heap:=h' }):wpAny (model prog w) A (Builtin.SmallTypes.nextOf (.ref it)) Q E s:=by
 have T:=hi.typeIs
 obtain ⟨o,e1,e2,e3⟩:=hi
 obtain ⟨u,f1,_,k,f3⟩:=ht
 have slot:=PySem.F.slot_tuple_iterator_next
 have isref:(Value.ref t == Value.none)=false:=rfl
 unfold Builtin.SmallTypes.nextOf
 apply ac9
 apply ah4 (name:=Str.ofString "__next__") T slot
 apply ai6 slot T PySem.F.entry_tuple_iterator_next _ (PySem.F.args_tuple_iterator_next_1 _)
 change wpAny _ _ (field (.ref it) 0 >>= _) _ _ s
 apply ac9
 refine ai3 e1 e3 (x:=.ref t) rfl ?_
 change wpAny _ _ (if (Value.ref t == Value.none)=true then _ else _) _ _ s
 simp only [isref,ae5,ah6]
 change wpAny _ _ (field (.ref it) 1 >>= _) _ _ s
 apply ac9
 refine ai3 e1 e3 (x:=.int i 0) rfl ?_
 change wpAny _ _ (seqItems? (.ref t) >>= _) _ _ s
 apply ac9
 apply ak5 f1 f3
 simp only [Int.toNat_natCast,hx]
 apply ac9
 apply wpAny_rule
 apply ac9
 refine wpAny_setField e1 e3 (by simp) ?_
 apply ac9
 simp only [newExc,newTuple]
 apply ac9
 refine ah2 ?_ (by size_fits)
 apply ac9
 refine wpAny_of_eq (a:=Value.none) (by first | rfl | (simp only [firstArgMember]; rfl)) ?_
 refine ah2 ?_ (by size_fits)
 unfold raiseNew
 apply ac9
 apply wpAny_handled
 have quiet:A.in1.handled=none:=hh
 rw [quiet]
 refine wpAny_throw ?_
 exact q _ _ (((Heap.SameBut.update ..).extBut.push _).push _) ⟨_,ae1 _ rfl,rfl⟩
theorem C8 (hh:A.handled=none) (it t:Addr) (ne:t ≠ it) (items:Array Value):Draws prog w A it [it,t] items.size (fun i v=>items[i]? = some v) (fun i h=>h.IsTupleIter it t i/\h.IsTuple t items) where
 live:=fun _ _ st=>st.1.elim fun o y=>⟨o,y.1⟩
 frame:=fun _ _ _ st k=>⟨st.1.at fun o e=>k it ad2 o e,st.2.elim fun o y=>⟨o,k t (ad5 _ ad2) o y.1,y.2⟩⟩
 item:=fun i s Q E lt st q=>C6 st.1 st.2 (Array.getElem?_eq_getElem lt) fun h' again sb=>q _ h' s.toks (Array.getElem?_eq_getElem lt) ⟨again,st.2.elim fun o y=>⟨o,sb.extBut t o ne y.1,y.2⟩⟩ sb
 done:=fun s Q E st q=>C7 hh st.1 st.2 (Array.getElem?_eq_none (ad6 _)) q
end
structure Ap (z TI TO i1 i2:Addr) (fp1 fp2:List Addr):Prop where
 TIz:TI ≠ z
 TOz:TO ≠ z
 TITO:TI ≠ TO
 z1:z ∉ fp1
 z2:z ∉ fp2
 o1:TO ∉ fp1
 o2:TO ∉ fp2
 t1:TI ∉ fp1
 t2:TI ∉ fp2
 m1:i1 ∈ fp1
 m2:i2 ∈ fp2
 n1:i1 ∉ fp2
 n2:i2 ∉ fp1
structure nD (z TI TO i1 i2:Addr) (St1 St2:Nat->Heap->Prop) (f0:Value) (i j:Nat) (h:Heap):Prop where
 zz:IsZip h z TI TO f0
 ti:IsPair h TI (.ref i1) (.ref i2)
 to_:∃ a b,IsPair h TO a b
 s1:St1 i h
 s2:St2 j h
section
variable {prog : Program} {w : World} {A : Around} {E : Value → Shared → Prop} {s : Shared} {z TI TO i1 i2 : Addr} {fp1 fp2 : List Addr} {n1 n2 : Nat} {P1 P2 : Nat → Value → Prop} {St1 St2 : Nat → Heap → Prop}
theorem eZ (ap:Ap z TI TO i1 i2 fp1 fp2) {b:Addr} (h:b ∉ fp1):b ≠ i1:=fun e=>h (e ▸ ap.m1)
theorem kI (ap:Ap z TI TO i1 i2 fp1 fp2) {b:Addr} (h:b ∉ fp2):b ≠ i2:=fun e=>h (e ▸ ap.m2)
theorem item (D1:Draws prog w A.in1 i1 fp1 n1 P1 St1) (D2:Draws prog w A.in1 i2 fp2 n2 P2 St2) (ap:Ap z TI TO i1 i2 fp1 fp2) {i:Nat} (l1:i < n1) (l2:i < n2) (st:nD z TI TO i1 i2 St1 St2 .none i i s.heap) {Q:Option Value->Shared->Prop}
  (q:∀ x y h' tk,P1 i x->P2 i y->nD z TI TO i1 i2 St1 St2 (rawInt s.heap.objs.size) (i+1) (i+1) h'->IsPair h' s.heap.objs.size x y->(∀ c o,c ≠ z->c ≠ TO->c ≠ i1->c ≠ i2->s.heap.get? c=some o->h'.get? c=some o)->
   h'.objs.size=s.heap.objs.size+1->Q (some (.ref s.heap.objs.size)) { s with heap:=h',toks:=tk }):wpAny (model prog w) A (pyNext (.ref z)) Q E s:=by
 obtain ⟨hz,hti,⟨a,b,hto⟩,h1,h2⟩:=st
 have T:s.TypeIs (.ref z) "zip":=⟨_,hz,rfl⟩
 have slot:=PySem.F.slot_zip_next
 unfold pyNext
 apply ac9
 apply wpAny_attempt
 apply ah4 (name:=Str.ofString "__next__") T slot
 apply ai6 slot T PySem.F.entry_zip_next _ (PySem.F.args_zip_next_1 _)
 change wpAny _ _ (field (.ref z) 2 >>= _) _ _ _
 apply ac9
 refine ai3 hz rfl (x:=.bool false) rfl ?_
 change wpAny _ _ (field (.ref z) 3 >>= _) _ _ _
 apply ac9
 refine ai3 hz rfl (x:=.ref TI) rfl ?_
 apply ac9
 apply ak5 hti rfl
 change wpAny _ _ (Builtin.SmallTypes.ownedTupleIsFree (.ref z) >>= _) _ _ _
 apply ac9
 unfold Builtin.SmallTypes.ownedTupleIsFree
 apply ac9
 refine ai3 hz rfl (x:=.none) rfl (ad3 ?_)
 simp only [if_true]
 apply ac9
 apply wpAny_rule
 apply ac9
 refine ai3 hz rfl (x:=.ref TO) rfl ?_
 apply ac9
 refine ak6 hz (by simp) fun g1 hz1 sb1=>?_
 have k1:∀ c o,c ≠ z->s.heap.get? c=some o->g1.get? c=some o:=fun c o c1 e=>sb1.extBut c o c1 e
 apply ac9
 simp only [List.zipIdx_cons,List.zipIdx_nil,List.forIn_cons,List.forIn_nil]
 apply ac9
 apply ac9
 apply wpAny_onRaise
 change wpAny _ _ (Builtin.SmallTypes.nextOf (.ref i1) >>= _) _ _ _
 apply ac9
 refine D1.item i { s with heap:=g1 } _ _ l1 (D1.frame _ _ _ h1 fun c hc o e=>k1 c o (fun y=>ap.z1 (y ▸ hc)) e) fun x g2 tk2 px st1 sb2=>ad3 ?_
 have k2:∀ c o,c ≠ z->c ≠ i1->s.heap.get? c=some o->g2.get? c=some o:=fun c o c1 c2 e=>sb2.extBut c o c2 (k1 c o c1 e)
 have to2:IsPair g2 TO a b:=k2 _ _ ap.TOz (eZ ap ap.o1) hto
 apply ac9
 apply ak5 to2 rfl
 apply ac9
 refine wpAny_updateSeq_pair to2 fun g3 to3 sb3=>?_
 have to3:IsPair g3 TO x b:=to3
 apply ac9
 apply wpAny_letGo
 apply ad3
 apply ac9
 apply ac9
 apply wpAny_onRaise
 change wpAny _ _ (Builtin.SmallTypes.nextOf (.ref i2) >>= _) _ _ _
 apply ac9
 have k3:∀ c o,c ≠ z->c ≠ i1->c ≠ TO->s.heap.get? c=some o->g3.get? c=some o:=fun c o c1 c2 c3 e=>sb3.extBut c o c3 (k2 c o c1 c2 e)
 refine D2.item i { s with heap:=g3,toks:=tk2 } _ _ l2 (D2.frame _ _ _ h2 fun c hc o e=>k3 c o (fun y=>ap.z2 (y ▸ hc)) (fun y=>ap.n1 (y ▸ hc)) (fun y=>ap.o2 (y ▸ hc)) e) fun y g4 tk4 py st2 sb4=>ad3 ?_
 have to4:IsPair g4 TO x b:=sb4.extBut _ _ (kI ap ap.o2) to3
 apply ac9
 apply ak5 to4 rfl
 apply ac9
 refine wpAny_updateSeq_pair to4 fun g5 to5 sb5=>?_
 have to5:IsPair g5 TO x y:=to5
 apply ac9
 apply wpAny_letGo
 apply ad3
 apply ad3
 apply ac9
 apply ak5 to5 rfl
 apply ac9
 refine wpAny_newTuple ?_ (by show 2<=sizeLine; decide)
 have size:g5.objs.size=s.heap.objs.size:=by rw [sb5.1,sb4.1,sb3.1,sb2.1,sb1.1]
 have k5:∀ c o,c ≠ z->c ≠ TO->c ≠ i1->c ≠ i2->s.heap.get? c=some o->g5.get? c=some o:=fun c o c1 c2 c3 c4 e=>sb5.extBut c o c2 (sb4.extBut c o c4 (k3 c o c1 c3 c2 e))
 have z5:IsZip g5 z TI TO .ellipsis:=sb5.extBut _ _ (Ne.symm ap.TOz) (sb4.extBut _ _ (kI ap ap.z2) (sb3.extBut _ _ (Ne.symm ap.TOz) (sb2.extBut _ _ (eZ ap ap.z1) hz1)))
 change wpAny _ _ (Builtin.SmallTypes.ownedTupleHandOut (.ref z) (.ref g5.objs.size) >>= _) _ _ _
 apply ac9
 unfold Builtin.SmallTypes.ownedTupleHandOut
 apply ac9
 have z6:IsZip (g5.push { cls:=.type "tuple",data:=.seq #[x,y] }) z TI TO .ellipsis:=ad0 _ z5
 refine ak6 z6 (by simp) fun g7 z7 sb7=>?_
 have z7:IsZip g7 z TI TO (rawInt g5.objs.size):=z7
 refine ak6 z7 (by simp) fun g8 z8 sb8=>?_
 have z8:IsZip g8 z TI TO (rawInt g5.objs.size):=z8
 have zlt:z < g5.objs.size:=ad8 z5
 have up:∀ c o,c ≠ z->g5.get? c=some o->g8.get? c=some o:=fun c o c1 e=>sb8.extBut c o c1 (sb7.extBut c o c1 (ad0 _ e))
 have p8:IsPair g8 g5.objs.size x y:=sb8.extBut _ _ (aj8 zlt) (sb7.extBut _ _ (aj8 zlt) (ae1 _ rfl))
 have s8:g8.objs.size=g5.objs.size+1:=by rw [sb8.1,sb7.1,al3]
 have f1:St1 (i+1) g8:=D1.frame _ _ _ st1 fun c hc o e=>up c o (fun y=>ap.z1 (y ▸ hc)) (sb5.extBut c o (fun y=>ap.o1 (y ▸ hc)) (sb4.extBut c o (fun y=>ap.n2 (y ▸ hc)) (sb3.extBut c o (fun y=>ap.o1 (y ▸ hc)) e)))
 have f2:St2 (i+1) g8:=D2.frame _ _ _ st2 fun c hc o e=>up c o (fun y=>ap.z2 (y ▸ hc)) (sb5.extBut c o (fun y=>ap.o2 (y ▸ hc)) e)
 have ti8:IsPair g8 TI (.ref i1) (.ref i2):=up _ _ ap.TIz (k5 _ _ ap.TIz ap.TITO (eZ ap ap.t1) (kI ap ap.t2) hti)
 rw [size] at z8 p8 s8
 apply ad3
 refine⟨_,rfl,ad3 ?_⟩
 change Q (some (.ref g5.objs.size)) _
 rw [size]
 exact q x y g8 tk4 px py ⟨z8,ti8,⟨x,y,up _ _ ap.TOz to5⟩,f1,f2⟩ p8 (fun c o c1 c2 c3 c4 e=>up c o c1 (k5 c o c1 c2 c3 c4 e)) s8
theorem fin (D1:Draws prog w A.in1 i1 fp1 n1 P1 St1) (D2:Draws prog w A.in1 i2 fp2 n2 P2 St2) (ap:Ap z TI TO i1 i2 fp1 fp2) {i:Nat} (le:i=n1 ∨ (i < n1/\i=n2)) (st:nD z TI TO i1 i2 St1 St2 .none i i s.heap) {Q:Option Value->Shared->Prop}
  (q:∀ h' tk,(∀ c o,c ≠ z->c ≠ TO->c ≠ i1->c ≠ i2->s.heap.get? c=some o->h'.get? c=some o)->Q none { s with heap:=h',toks:=tk }):wpAny (model prog w) A (pyNext (.ref z)) Q E s:=by
 obtain ⟨hz,hti,⟨a,b,hto⟩,h1,h2⟩:=st
 have T:s.TypeIs (.ref z) "zip":=⟨_,hz,rfl⟩
 have slot:=PySem.F.slot_zip_next
 unfold pyNext
 apply ac9
 apply wpAny_attempt
 apply ah4 (name:=Str.ofString "__next__") T slot
 apply ai6 slot T PySem.F.entry_zip_next _ (PySem.F.args_zip_next_1 _)
 change wpAny _ _ (field (.ref z) 2 >>= _) _ _ _
 apply ac9
 refine ai3 hz rfl (x:=.bool false) rfl ?_
 change wpAny _ _ (field (.ref z) 3 >>= _) _ _ _
 apply ac9
 refine ai3 hz rfl (x:=.ref TI) rfl ?_
 apply ac9
 apply ak5 hti rfl
 change wpAny _ _ (Builtin.SmallTypes.ownedTupleIsFree (.ref z) >>= _) _ _ _
 apply ac9
 unfold Builtin.SmallTypes.ownedTupleIsFree
 apply ac9
 refine ai3 hz rfl (x:=.none) rfl (ad3 ?_)
 simp only [if_true]
 apply ac9
 apply wpAny_rule
 apply ac9
 refine ai3 hz rfl (x:=.ref TO) rfl ?_
 apply ac9
 refine ak6 hz (by simp) fun g1 hz1 sb1=>?_
 have k1:∀ c o,c ≠ z->s.heap.get? c=some o->g1.get? c=some o:=fun c o c1 e=>sb1.extBut c o c1 e
 apply ac9
 simp only [List.zipIdx_cons,List.zipIdx_nil,List.forIn_cons,List.forIn_nil]
 apply ac9
 apply ac9
 apply wpAny_onRaise
 change wpAny _ _ (Builtin.SmallTypes.nextOf (.ref i1) >>= _) _ _ _
 apply ac9
 have z1:IsZip g1 z TI TO .ellipsis:=hz1
 rcases le with rfl | ⟨lt,rfl⟩
 ·refine D1.done { s with heap:=g1 } _ _ (D1.frame _ _ _ h1 fun c hc o e=>k1 c o (fun y=>ap.z1 (y ▸ hc)) e) fun g2 e eb ex=>?_
  have z2:IsZip g2 z TI TO .ellipsis:=eb _ _ (eZ ap ap.z1) z1
  refine ak6 z2 (by simp) fun g3 z3 sb3=>?_
  obtain ⟨oe,eo,co⟩:=ex
  have ne:e ≠ z:=fun y=>by
   rw [y,z2] at eo
   have:=ae6 eo
   rw [<- this] at co; exact absurd (show Value.type "zip" = Value.type "StopIteration" from co) (by decide)
  apply ac9
  refine wpAny_isInstance (T:="StopIteration") (b:=true) ⟨oe,sb3.extBut _ _ ne eo,co⟩ isSubtype_stop ?_
  exact ad3 (q g3 s.toks fun c o c1 _ c3 _ e=>sb3.extBut c o c1 (eb c o c3 (k1 c o c1 e)))
 ·refine D1.item i { s with heap:=g1 } _ _ lt (D1.frame _ _ _ h1 fun c hc o e=>k1 c o (fun y=>ap.z1 (y ▸ hc)) e) fun x g2 tk2 px st1 sb2=>ad3 ?_
  have k2:∀ c o,c ≠ z->c ≠ i1->s.heap.get? c=some o->g2.get? c=some o:=fun c o c1 c2 e=>sb2.extBut c o c2 (k1 c o c1 e)
  have to2:IsPair g2 TO a b:=k2 _ _ ap.TOz (eZ ap ap.o1) hto
  apply ac9
  apply ak5 to2 rfl
  apply ac9
  refine wpAny_updateSeq_pair to2 fun g3 to3 sb3=>?_
  apply ac9
  apply wpAny_letGo
  apply ad3
  apply ac9
  apply ac9
  apply wpAny_onRaise
  change wpAny _ _ (Builtin.SmallTypes.nextOf (.ref i2) >>= _) _ _ _
  apply ac9
  have k3:∀ c o,c ≠ z->c ≠ i1->c ≠ TO->s.heap.get? c=some o->g3.get? c=some o:=fun c o c1 c2 c3 e=>sb3.extBut c o c3 (k2 c o c1 c2 e)
  refine D2.done { s with heap:=g3,toks:=tk2 } _ _ (D2.frame _ _ _ h2 fun c hc o e=>k3 c o (fun y=>ap.z2 (y ▸ hc)) (fun y=>ap.n1 (y ▸ hc)) (fun y=>ap.o2 (y ▸ hc)) e) fun g4 e eb ex=>?_
  have z4:IsZip g4 z TI TO .ellipsis:=eb _ _ (kI ap ap.z2) (sb3.extBut _ _ (Ne.symm ap.TOz) (sb2.extBut _ _ (eZ ap ap.z1) z1))
  refine ak6 z4 (by simp) fun g5 z5 sb5=>?_
  obtain ⟨oe,eo,co⟩:=ex
  have ne:e ≠ z:=fun y=>by
   rw [y,z4] at eo
   have:=ae6 eo
   rw [<- this] at co; exact absurd (show Value.type "zip" = Value.type "StopIteration" from co) (by decide)
  apply ac9
  refine wpAny_isInstance (T:="StopIteration") (b:=true) ⟨oe,sb5.extBut _ _ ne eo,co⟩ isSubtype_stop ?_
  exact ad3 (q g5 tk2 fun c o c1 c2 c3 c4 e=>sb5.extBut c o c1 (eb c o c4 (k3 c o c1 c3 c2 e)))
end
def cS (h:Heap) (t u:Addr):Heap:=
 ((((h.push { cls:=.type "tuple_iterator",data:=.fields #[.ref t,.int 0 0] }).push { cls:=.type "tuple_iterator",data:=.fields #[.ref u,.int 0 0] }).push { cls:=.type "tuple",data:=.seq #[.ref h.objs.size,.ref (h.objs.size+1)] }).push
  { cls:=.type "tuple",data:=.seq #[.none,.none] }).push { cls:=.type "zip",data:=.fields #[.none,.bool false,.bool false,.ref (h.objs.size+2),.ref (h.objs.size+3)] }
theorem C9 (t u:Addr) (xs ys:Array Value):Meets (Builtin.«zip.__new__» ⟨[.type "zip",.ref t,.ref u],[]⟩) (fun _ R s=>s.heap.IsTuple t xs/\s.heap.IsTuple u ys/\R (.ok (.ret (.ref (s.heap.objs.size+4)))) { s with heap:=cS s.heap t u }):=
 .of_wp fun prog w A R s h=>by
  obtain ⟨hp,g,d,tk,os⟩:=s
  obtain ⟨ht,hu,h⟩:=h
  have sub:=sub_zip
  have a1:Heap.IsTuple (Shared.heap ⟨hp,g,d,tk,os⟩) t xs:=ht
  have a2:Heap.IsTuple (Shared.heap ⟨hp.push { cls:=.type "tuple_iterator",data:=.fields #[.ref t,.int 0 0] },g,d,tk,os⟩) u ys:=hu.elim fun o y=>⟨o,ad0 _ y.1,y.2⟩
  wp_walk using wpAny_pyIter_tuple a1,wpAny_pyIter_tuple a2
  have e:∀ (o:Obj) (k:Heap),(k.push o).objs.size=k.objs.size+1:=fun o k=>al3 ..
  refine⟨_,rfl,?_⟩
  simp only [cS,e] at h ⊢
  exact h
section
variable {prog : Program} {w : World} {A : Around} {E : Value → Shared → Prop} {s : Shared}
theorem E1 {t u:Addr}{xs ys:Array Value}{Q:Value->Shared->Prop} (ht:s.heap.IsTuple t xs) (hu:s.heap.IsTuple u ys)
  (q:∀ h',IsZip h' (s.heap.objs.size+4) (s.heap.objs.size+2) (s.heap.objs.size+3) .none->IsPair h' (s.heap.objs.size+2) (.ref s.heap.objs.size) (.ref (s.heap.objs.size+1))->
   IsPair h' (s.heap.objs.size+3) .none .none->h'.IsTupleIter s.heap.objs.size t 0->h'.IsTupleIter (s.heap.objs.size+1) u 0->(∀ c o,s.heap.get? c=some o->h'.get? c=some o)->Q (.ref (s.heap.objs.size+4)) { s with heap:=h' }) :
  wpAny (model prog w) A (call (.type "zip") [.ref t,.ref u]) Q E s:=by
 refine callType_new PySem.F.called_zip (by decide) (PySem.F.typeCall_zip_2 _ _) (PySem.F.newCall_zip_2 _ _) (fun obj=>PySem.F.args_object_init_3 obj _ _) PySem.F.entry_zip_new (C9 t u xs ys) ⟨ht,hu,?_⟩
 have e:∀ (o:Obj) (k:Heap),(k.push o).objs.size=k.objs.size+1:=fun o k=>al3 ..
 have p0:∀ (k:Heap) (o:Obj) (m:Nat),o.isFreed=false->m=k.objs.size->(k.push o).get? m=some o:=fun k o m f z=>by rw [z]; exact ae1 _ f
 have g0:(cS s.heap t u).get? s.heap.objs.size=some { cls:=.type "tuple_iterator",data:=.fields #[.ref t,.int 0 0] }:=by
  unfold cS
  exact ad0 _ (ad0 _ (ad0 _ (ad0 _ (p0 _ _ _ rfl rfl))))
 have g1:(cS s.heap t u).get? (s.heap.objs.size+1)=some { cls:=.type "tuple_iterator",data:=.fields #[.ref u,.int 0 0] }:=by
  unfold cS
  exact ad0 _ (ad0 _ (ad0 _ (p0 _ _ _ rfl (by simp only [e]))))
 have g2:(cS s.heap t u).get? (s.heap.objs.size+2)=some { cls:=.type "tuple",data:=.seq #[.ref s.heap.objs.size,.ref (s.heap.objs.size+1)] }:=by
  unfold cS
  exact ad0 _ (ad0 _ (p0 _ _ _ rfl (by simp only [e])))
 have g3:(cS s.heap t u).get? (s.heap.objs.size+3)=some { cls:=.type "tuple",data:=.seq #[.none,.none] }:=by
  unfold cS
  exact ad0 _ (p0 _ _ _ rfl (by simp only [e]))
 have g4:(cS s.heap t u).get? (s.heap.objs.size+4)=some { cls:=.type "zip",data:=.fields #[.none,.bool false,.bool false,.ref (s.heap.objs.size+2),.ref (s.heap.objs.size+3)] }:=by
  unfold cS
  exact p0 _ _ _ rfl (by simp only [e])
 refine⟨⟨_,g4,rfl⟩,q _ g4 g2 g3 ⟨_,g0,rfl,rfl⟩ ⟨_,g1,rfl,rfl⟩ fun c o z=>?_⟩
 unfold cS
 exact ad0 _ (ad0 _ (ad0 _ (ad0 _ (ad0 _ z))))
end
end Zp
namespace L2
open PySem PySem.Spec PyProof.Rows
def nE (K:PySem.W.Frag) (a b:Addr):It:=
  ⟨fun i H=>∃ xs ys x y,aO K H a xs/\aO K H b ys/\xs[i]? = some x/\ys[i]? = some y,
   fun i H v H'=>∃ T x y,H T=none/\v = .ref T/\H'=upd H T (.tup [x,y])/\∀ xs ys,aO K H a xs->aO K H b ys->xs[i]? = some x/\ys[i]? = some y,
   fun i H=>∃ xs ys,aO K H a xs/\aO K H b ys/\(i=xs.length ∨ (i < xs.length/\i=ys.length))⟩
def Sq (t:Bool) (K:PySem.W.Frag) (H:Hp) (a:Addr) (xs:List V):Prop:=match t with
 | true=>aO K H a xs
 | false=>aM K H a xs
def cT (t:Bool) (h:Heap) (i a:Addr) (n:Nat):Prop:=match t with
 | true=>h.IsTupleIter i a n
 | false=>h.IsListIter i a n
def sQ (t:Bool) (h:Heap) (a:Addr) (xs:Array Value):Prop:=match t with
 | true=>h.IsTuple a xs
 | false=>h.IsList a xs
theorem cT.at {h h':Heap}{i a:Addr}{n:Nat}:∀ {t:Bool},cT t h i a n->(∀ o,h.get? i=some o->h'.get? i=some o)->cT t h' i a n
 | true,x,k=>Heap.IsTupleIter.at x k
 | false,x,k=>Heap.IsListIter.at x k
theorem cT.ob {h:Heap}{i a:Addr}{n:Nat}:∀ {t:Bool},cT t h i a n->∃ o,h.get? i=some o/\∀ v,o.data ≠ .cell v
 | true,⟨o,f,_,d⟩=>⟨o,f,fun v q=>by rw [d] at q; cases q⟩
 | false,⟨o,f,_,d⟩=>⟨o,f,fun v q=>by rw [d] at q; cases q⟩
theorem cT.draws {prog:Program}{w:World}{A:Around}:∀ (t:Bool) (hh:A.handled=none) (it a:Addr) (ne:a ≠ it) (items:Array Value),Draws prog w A it [it,a] items.size (fun i v=>items[i]? = some v) (fun i h=>cT t h it a i/\sQ t h a items)
 | true,hh,it,a,ne,items=>Zp.C8 hh it a ne items
 | false,hh,it,a,ne,items=>Draws.list hh it a ne items
section
variable {X : Cx} {pins : List (Addr × Obj)} {σ : St} {H : Hp} {s : Shared} {a : Addr} {xs ys : List V}
theorem Sq.get (I:a5 X pins σ H s):∀ {t:Bool},Sq t X.K H a xs->∃ us,aH xs us/\sQ t s.heap a us.toArray
 | true,h=>by obtain ⟨us,r,p,_⟩:=I.tuple h; exact⟨us,r,p⟩
 | false,h=>by obtain ⟨us,r,p,_⟩:=I.list h; exact⟨us,r,p.isList⟩
theorem Sq.inj (I:a5 X pins σ H s):∀ {t:Bool},Sq t X.K H a xs->Sq t X.K H a ys->xs=ys
 | true,h,g=>I.tuple_inj h g
 | false,h,g=>I.list_inj h g
theorem Sq.off (I:a5 X pins σ H s) (he:H a=none) (hb:X.base.get? a=none):∀ {t:Bool},Sq t X.K H a xs->False
 | true,h=>by
  rcases h with (h | ⟨_,h⟩) | ⟨o,_,_,h,_⟩
  ·rw [he] at h; cases h
  ·rw [he] at h; cases h
  ·have:=I.ok.mod.kin a o h
   rw [hb] at this; cases this
 | false,h=>by
  rcases h with (h | ⟨_,h⟩) | ⟨o,_,_,h,_⟩
  ·rw [he] at h; cases h
  ·rw [he] at h; cases h
  ·have:=I.ok.mod.kin a o h
   rw [hb] at this; cases this
end
def E2 (t1 t2:Bool) (K:PySem.W.Frag) (a b:Addr):It:=
  ⟨fun i H=>∃ xs ys x y,Sq t1 K H a xs/\Sq t2 K H b ys/\xs[i]? = some x/\ys[i]? = some y,
   fun i H v H'=>∃ T x y,H T=none/\v = .ref T/\H'=upd H T (.tup [x,y])/\∀ xs ys,Sq t1 K H a xs->Sq t2 K H b ys->xs[i]? = some x/\ys[i]? = some y,
   fun i H=>∃ xs ys,Sq t1 K H a xs/\Sq t2 K H b ys/\(i=xs.length ∨ (i < xs.length/\i=ys.length))⟩
structure nF (t1 t2:Bool) (z TI TO i1 i2 a b:Addr) (i:Nat) (h:Heap):Prop where
 zz:IsZip h z TI TO .none
 ti:IsPair h TI (.ref i1) (.ref i2)
 to_:∃ x y,IsPair h TO x y
 s1:cT t1 h i1 a i
 s2:cT t2 h i2 b i
theorem sR (t1 t2:Bool) {P:Program}{w:World}{K:PySem.W.Frag}{elts:List Expr}{k:Nat}{pos:Pos} (a b z TI TO i1 i2:Addr) (d : [z,TI,TO,i1,i2].Nodup) :
  eR P w K (.Tuple elts k pos) (E2 t1 t2 K a b) [z,TI,TO,i1,i2] z (nF t1 t2 z TI TO i1 i2 a b):=by
 have nd:z ≠ TI/\z ≠ TO/\z ≠ i1/\z ≠ i2/\TI ≠ TO/\TI ≠ i1/\TI ≠ i2/\TO ≠ i1/\TO ≠ i2/\i1 ≠ i2:=by
  simp only [List.nodup_cons,ae0,af5,ak7,not_or] at d
  obtain ⟨⟨a1,a2,a3,a4⟩,⟨b1,b2,b3⟩,⟨c1,c2⟩,e1,_⟩:=d
  exact⟨a1,a2,a3,a4,b1,b2,b3,c1,c2,e1⟩
 obtain ⟨n1,n2,n3,n4,n5,n6,n7,n8,n9,n10⟩:=nd
 have offBase:∀ {X:Cx}{pins:List (Addr × Obj)}{σ:St}{H:Hp}{s:Shared},a5 X pins σ H s->(∀ c ∈ [z,TI,TO,i1,i2],cQ X pins H c)->∀ c ∈ [z,TI,TO,i1,i2],X.base.get? c=none:=by
  intro X pins σ H s I hf c hc
  cases q:X.base.get? c with
  | none=>rfl
  | some o=>
   rcases (hf c hc).2.2.2.1 with h | h
   ·exact absurd h (I.ok.noex c o q)
   ·exact absurd (ad4 (ad8 q) (ag1 I.ok.bsz h)) (ag3 _)
 have off:∀ {t:Bool}{X:Cx}{pins:List (Addr × Obj)}{σ:St}{H:Hp}{s:Shared}{c:Addr}{zs:List V},a5 X pins σ H s->(∀ c ∈ [z,TI,TO,i1,i2],cQ X pins H c)->Sq t X.K H c zs->c ∉ [z,TI,TO,i1,i2]:=by
  intro t X pins σ H s c zs I hf hc hm
  exact Sq.off I (hf c hm).1 (offBase I hf c hm) hc
 have ap:∀ {c e:Addr},c ∉ [z,TI,TO,i1,i2]->e ∉ [z,TI,TO,i1,i2]->Zp.Ap z TI TO i1 i2 [i1,c] [i2,e]:=fun {c e} hc he=>by
  simp only [ae0,af5,ak7,not_or] at hc he
  obtain ⟨c1,c2,c3,c4,c5⟩:=hc
  obtain ⟨e1,e2,e3,e4,e5⟩:=he
  have two:∀ {q u v:Addr},q ≠ u->q ≠ v->q ∉ [u,v]:=fun {q u v} h1 h2 hm=>by
   simp only [ae0,af5,ak7] at hm
   exact hm.elim h1 h2
  exact⟨n1.symm,n2.symm,n5,two n3 (Ne.symm c1),two n4 (Ne.symm e1),two n8 (Ne.symm c3),two n9 (Ne.symm e3),two n6 (Ne.symm c2),two n7 (Ne.symm e2),ad2,ad2,two n10 (Ne.symm e4),two n10.symm (Ne.symm c5)⟩
 refine⟨by simp,fun i h st c hc=>?_,fun i h h' st kp=>?_,?_,?_,fun A i s Q E st q=>wpAny_pyIter_zip st.zz q⟩
 ·simp only [ae0,af5,ak7] at hc
  obtain ⟨x,y,to⟩:=st.to_
  rcases hc with rfl | rfl | rfl | rfl | rfl
  ·exact⟨_,st.zz,fun v q=>by cases q⟩
  ·exact⟨_,st.ti,fun v q=>by cases q⟩
  ·exact⟨_,to,fun v q=>by cases q⟩
  ·exact st.s1.ob
  ·exact st.s2.ob
 ·obtain ⟨x,y,to⟩:=st.to_
  exact⟨kp z (by simp) _ st.zz,kp TI (by simp) _ st.ti,⟨x,y,kp TO (by simp) _ to⟩,st.s1.at fun o e=>kp i1 (by simp) o e,st.s2.at fun o e=>kp i2 (by simp) o e⟩
 ·
  intro X hP hw hK hc i pins s σ H E I hf st hg
  subst hP hw hK
  obtain ⟨xs,ys,x,y,ha,hb,hx,hy⟩:=hg
  obtain ⟨us,ru,pu⟩:=Sq.get I ha
  obtain ⟨vs,rv,pv'⟩:=Sq.get I hb
  obtain ⟨ux,eux,rux⟩:=ru.get hx
  obtain ⟨vy,evy,rvy⟩:=rv.get hy
  have fa:=off I hf ha
  have fb:=off I hf hb
  have hh:X.A.in1.handled=none:=I.ok.hd hc
  have l1:i < us.toArray.size:=by simpa using (ae7.mp eux).1
  have l2:i < vs.toArray.size:=by simpa using (ae7.mp evy).1
  have fa':a ≠ i1:=fun q=>fa (by rw [q]; simp)
  have fb':b ≠ i2:=fun q=>fb (by rw [q]; simp)
  have D1:=cT.draws t1 (prog:=X.prog) (w:=X.w) hh i1 a fa' us.toArray
  have D2:=cT.draws t2 (prog:=X.prog) (w:=X.w) hh i2 b fb' vs.toArray
  refine Zp.item D1 D2 (ap fa fb) l1 l2 ⟨st.zz,st.ti,st.to_,⟨st.s1,pu⟩,⟨st.s2,pv'⟩⟩ fun p q h' tk hp hq st' pr kp sz=>⟨_,rfl,?_⟩
  obtain rfl:p=ux:=by
   have:us.toArray[i]? = some ux:=by simpa using eux
   rw [this] at hp; exact (ae6 hp).symm
  obtain rfl:q=vy:=by
   have:vs.toArray[i]? = some vy:=by simpa using evy
   rw [this] at hq; exact (ae6 hq).symm
  refine wpAny_letOwnedTupleGo_zip (s:={ s with heap:=h',toks:=tk }) st'.zz fun g zz sb=>?_
  have hzl:z < s.heap.objs.size:=ad8 st.zz
  have up:∀ c o,c ≠ z->c ≠ TO->c ≠ i1->c ≠ i2->s.heap.get? c=some o->g.get? c=some o:=fun c o c1 c2 c3 c4 e=>sb.extBut c o c1 (kp c o c1 c2 c3 c4 e)
  have hT:H s.heap.objs.size=none:=I.hok.fresh (ad6 _)
  have prG:IsPair g s.heap.objs.size p q:=sb.extBut _ _ (aj8 hzl) pr
  have fpn:∀ c u,H c=some u->c ∉ [z,TI,TO,i1,i2]:=fun c u e hm=>by rw [(hf c hm).1] at e; cases e
  have upH:∀ c o u,H c=some u->s.heap.get? c=some o->g.get? c=some o:=fun c o u e z=>by
   have:=fpn c u e
   simp only [ae0,af5,ak7,not_or] at this
   exact up c o this.1 this.2.2.1 this.2.2.2.1 this.2.2.2.2 z
  have ns:∀ m,s.heap.Ns X.env.locals m->g.Ns X.env.locals m:=fun m hm=>by
   obtain ⟨o,es,ep,e1,e2⟩:=hm
   exact⟨o,es,ep,up _ o (Ne.symm (hf z (by simp)).2.1) (Ne.symm (hf TO (by simp)).2.1) (Ne.symm (hf i1 (by simp)).2.1) (Ne.symm (hf i2 (by simp)).2.1) e1,e2⟩
  have I2:a5 X pins σ (upd H s.heap.objs.size (.tup [x,y])) { s with heap:=g,toks:=tk }:=by
   refine I.step (g':=s.gens) (d':=s.drawn) (ch:=[z,TO,i1,i2]) (fun c hc'=>?_) (fun c o _ _ hc' e _=>?_) (fun c o _ _ hc' e _=>⟨o.slots,?_⟩) (fun c o _ e n=>?_) (fun c o hc' e=>⟨o,?_⟩)
    (fun c zs e=>by rw [aR (c9 e hT)]; exact e) (fun c u zs e=>by rw [aR (c9 e hT)]; exact e) (fun c ps e=>⟨#[],by rw [aR (c9 e hT),e]; simp⟩) ns (fun c u e=>?_) I.bare
   ·have hm:c ∈ [z,TI,TO,i1,i2]:=by
     simp only [ae0,af5,ak7] at hc' ⊢
     rcases hc' with h | h | h | h <;> simp [h]
    exact⟨(hf c hm).2.2.2.1,(hf c hm).2.1,(hf c hm).2.2.2.2.1,(hf c hm).2.2.2.2.2⟩
   ·simp only [ae0,af5,ak7,not_or] at hc'
    exact up c o hc'.1 hc'.2.1 hc'.2.2.1 hc'.2.2.2 e
   ·simp only [ae0,af5,ak7,not_or] at hc'
    exact up c o hc'.1 hc'.2.1 hc'.2.2.1 hc'.2.2.2 e
   ·rw [aR (af7 (ad8 e))]; exact n
   ·simp only [ae0,af5,ak7,not_or] at hc'
    exact up c o hc'.1 hc'.2.1 hc'.2.2.1 hc'.2.2.2 e
   ·by_cases hcT:c=s.heap.objs.size
    ·subst hcT
     rw [bL] at e; cases e
     exact⟨by show 2<=sizeLine; decide,[p,q],.cons rux (.cons rvy .nil),⟨_,prG,rfl,_,rfl⟩,fun u e=>by rw [prG] at e; cases e; rfl⟩
    ·rw [aR hcT] at e
     refine (I.hok c u e).stay (fun c' o' hc2 q'=>?_) (fun c' q'=>by rw [aR (c9 q' hT)]; exact q') fun c' zs q'=>by rw [aR (c9 q' hT)]; exact q'
     rcases hc2 with rfl | hc2
     ·exact upH _ _ _ e q'
     ·exact upH _ _ _ hc2 q'
  obtain ⟨x',y',to'⟩:=st'.to_
  refine⟨.ref s.heap.objs.size,_,I2,rfl,⟨_,x,y,hT,rfl,rfl,fun xs' ys' ha' hb'=>?_⟩,⟨zz,sb.extBut _ _ n1.symm st'.ti,⟨x',y',sb.extBut _ _ n2.symm to'⟩,st'.s1.1.at fun o e=>sb.extBut _ o n3.symm e,st'.s2.1.at fun o e=>sb.extBut _ o n4.symm e⟩,fun c hc'=>?_⟩
  ·rw [Sq.inj I ha' ha,Sq.inj I hb' hb]; exact⟨hx,hy⟩
  ·obtain ⟨o,e,_⟩:∃ o,s.heap.get? c=some o/\True:=by
    simp only [ae0,af5,ak7] at hc'
    obtain ⟨x2,y2,to2⟩:=st.to_
    obtain ⟨o1,f1,_⟩:=st.s1.ob
    obtain ⟨o2,f2,_⟩:=st.s2.ob
    rcases hc' with rfl | rfl | rfl | rfl | rfl
    ·exact⟨_,st.zz,trivial⟩
    ·exact⟨_,st.ti,trivial⟩
    ·exact⟨_,to2,trivial⟩
    ·exact⟨_,f1,trivial⟩
    ·exact⟨_,f2,trivial⟩
   rw [aR (af7 (ad8 e))]; exact (hf c hc').1
 ·
  intro X hP hw hK hc i pins s σ H E I hf st hg
  subst hP hw hK
  obtain ⟨xs,ys,ha,hb,hi⟩:=hg
  obtain ⟨us,ru,pu⟩:=Sq.get I ha
  obtain ⟨vs,rv,pv'⟩:=Sq.get I hb
  have fa:=off I hf ha
  have fb:=off I hf hb
  have hh:X.A.in1.handled=none:=I.ok.hd hc
  have fa':a ≠ i1:=fun q=>fa (by rw [q]; simp)
  have fb':b ≠ i2:=fun q=>fb (by rw [q]; simp)
  have D1:=cT.draws t1 (prog:=X.prog) (w:=X.w) hh i1 a fa' us.toArray
  have D2:=cT.draws t2 (prog:=X.prog) (w:=X.w) hh i2 b fb' vs.toArray
  have e1:=ru.length
  have e2:=rv.length
  refine Zp.fin D1 D2 (ap fa fb) (by simp only [ae3]; omega) ⟨st.zz,st.ti,st.to_,⟨st.s1,pu⟩,⟨st.s2,pv'⟩⟩ fun g tk kp=>⟨rfl,?_⟩
  have fpn:∀ c u,H c=some u->c ∉ [z,TI,TO,i1,i2]:=fun c u e hm=>by rw [(hf c hm).1] at e; cases e
  have upH:∀ c o u,H c=some u->s.heap.get? c=some o->g.get? c=some o:=fun c o u e z=>by
   have:=fpn c u e
   simp only [ae0,af5,ak7,not_or] at this
   exact kp c o this.1 this.2.2.1 this.2.2.2.1 this.2.2.2.2 z
  have ns:∀ m,s.heap.Ns X.env.locals m->g.Ns X.env.locals m:=fun m hm=>by
   obtain ⟨o,es,ep,e1,e2⟩:=hm
   exact⟨o,es,ep,kp _ o (Ne.symm (hf z (by simp)).2.1) (Ne.symm (hf TO (by simp)).2.1) (Ne.symm (hf i1 (by simp)).2.1) (Ne.symm (hf i2 (by simp)).2.1) e1,e2⟩
  refine I.step (g':=s.gens) (d':=s.drawn) (ch:=[z,TO,i1,i2]) (fun c hc'=>?_) (fun c o _ _ hc' e _=>?_) (fun c o _ _ hc' e _=>⟨o.slots,?_⟩) (fun c o _ e n=>n) (fun c o hc' e=>⟨o,?_⟩)
   (fun c zs e=>e) (fun c u zs e=>e) (fun c ps e=>⟨#[],by rw [e]; simp⟩) ns (fun c u e=>?_) I.bare
  ·have hm:c ∈ [z,TI,TO,i1,i2]:=by
    simp only [ae0,af5,ak7] at hc' ⊢
    rcases hc' with h | h | h | h <;> simp [h]
   exact⟨(hf c hm).2.2.2.1,(hf c hm).2.1,(hf c hm).2.2.2.2.1,(hf c hm).2.2.2.2.2⟩
  ·simp only [ae0,af5,ak7,not_or] at hc'
   exact kp c o hc'.1 hc'.2.1 hc'.2.2.1 hc'.2.2.2 e
  ·simp only [ae0,af5,ak7,not_or] at hc'
   exact kp c o hc'.1 hc'.2.1 hc'.2.2.1 hc'.2.2.2 e
  ·simp only [ae0,af5,ak7,not_or] at hc'
   exact kp c o hc'.1 hc'.2.1 hc'.2.2.1 hc'.2.2.2 e
  ·refine (I.hok c u e).stay (fun c' o' hc2 q'=>?_) (fun _ q'=>q') fun _ _ q'=>q'
   rcases hc2 with rfl | hc2
   ·exact upH _ _ _ e q'
   ·exact upH _ _ _ hc2 q'
abbrev E3:=nF true true
theorem E4 {P:Program}{w:World}{K:PySem.W.Frag}{elts:List Expr}{k:Nat}{pos:Pos} (a b z TI TO i1 i2:Addr) (d : [z,TI,TO,i1,i2].Nodup) :
  eR P w K (.Tuple elts k pos) (nE K a b) [z,TI,TO,i1,i2] z (E3 z TI TO i1 i2 a b):=sR true true a b z TI TO i1 i2 d
section
variable {X : Cx}
theorem E5 (hc:X.calm=true):bW X (.builtin "all") (fun xs H Q=>∃ (a:Addr) (bs:List Bool),xs = [.ref a]/\aM X.K H a (bs.map V.bl)/\Q (.bl (bs.all id)) H):=by
 intro pins s σ H xs us Q I r h
 obtain ⟨a,bs,rfl,hq,q⟩:=h
 obtain ⟨u,rfl,ru⟩:=dO r
 cases ru
 obtain ⟨its,rv,p,hz⟩:=I.list hq
 have hl:=rv.length
 rw [ad1] at hl
 have hlt:a < s.heap.objs.size:=by obtain ⟨o,e,_⟩:=p.isList; exact ad8 e
 refine call_all_walk (wpAny_pyIter_list p.isList ?_)
 have hh:X.A.in1.handled=none:=I.ok.hd hc
 refine⟨s.heap.objs.size,_,_,_,_,_,fun i=>bs.getD i false,rfl,Walks.list hh s.heap.objs.size a (af7 hlt) its.toArray,⟨⟨_,ae1 _ rfl,rfl,rfl⟩,p.isList.push _⟩,?_,fun h' tk kp=>?_⟩
 ·intro i v s' Q' E' hP hQ'
  have hi:its[i]? = some v:=by simpa using hP
  have hil:i < bs.length:=by rw [hl]; exact (ae7.mp hi).1
  obtain ⟨u,e1,e2⟩:=rv.get (i:=i) (x:=.bl bs[i]) (by simp [hil])
  rw [hi] at e1; cases e1
  cases e2
  have:bs.getD i false=bs[i]:=by rw [ah8,ae8 hil]; rfl
  have hQ2:Q' (bs.getD i false) s':=hQ'
  rw [this] at hQ2
  exact aj4 hQ2
 ·have all_eq:(List.range its.toArray.size).all (fun i=>bs.getD i false)=bs.all id:=by
   rw [ae3,<- hl]
   clear q rv hz hl hq hlt p hh kp
   induction bs with
   | nil=>rfl
   | cons b r ih=>
    rw [ag6,List.range_succ_eq_map,List.all_cons,List.all_map,List.all_cons,<- ih]
    rfl
  rw [all_eq]
  refine⟨.bl (bs.all id),H,I.kept (t':=tk) (h':=h') fun b o e=>kp b o (fun z=>?_) (ad0 _ e),rfl,q⟩
  rw [ae4.mp z] at e
  exact absurd (ad8 e) (ag3 _)
end
end L2
namespace HT
open PySem PyProof.Rows
section
variable {prog : Program} {w : World} {A : Around} {E : Value → Shared → Prop} {s : Shared}
theorem E6 {t sl:Addr}{items:Array Value}{vl vu:Value}{lo hi:Option Int}{Q:Value->Shared->Prop} (ht:IsTup s.heap t items) (hs:s.heap.IsSliceOf sl vl vu .none) (pl:IsPart vl lo) (pu:IsPart vu hi)
  (h1:aJ items.size 0 lo=0) (h2:aJ items.size items.size hi=items.size) (h:Q (.ref t) s):wpAny (model prog w) A (getItem (.ref t) (.ref sl)) Q E s:=by
 obtain ⟨o,e1,e2,e3⟩:=id hs
 have T:s.TypeIs (.ref sl) "slice":=⟨o,e1,e2⟩
 unfold getItem
 try with_reducible refine wpAny_holding ?_
 first | refine ac9 (ad3 ?_) | skip
 apply ac9
 apply wpAny_sequenceKey ht.typeIs (by decide)
 apply ac9
 apply ah4 (name:=Str.ofString "__getitem__") ht.typeIs aj1
 apply ai6 aj1 ht.typeIs entry_tuple_getitem _ (args_tuple_getitem _ _)
 change wpAny _ _ (Builtin.Tuple.tupleItemsOf (.ref t) >>= _) _ _ s
 apply ac9
 apply tupleItemsOf_ ht
 apply ac9
 apply wpAny_typeOf T
 rw [if_pos (by decide)]
 apply ac9
 apply qW hs pl pu
 rw [h1,h2]
 have yes:((((0:Nat):Int) == 0 && (1:Int) == 1 && (items.size - 0) == items.size)=true):=by simp
 change wpAny _ _ (if ((((0:Nat):Int) == 0 && (1:Int) == 1 && (items.size - 0) == items.size)=true) then _ else _) _ _ s
 rw [if_pos yes]
 apply ac9
 unfold Builtin.Tuple.tupleIsExact
 apply ac9
 apply wpAny_typeOf ht.typeIs
 apply ad3
 change wpAny _ _ (rule "tuple.getitem.whole" >>= fun _=>ret (Value.ref t)) _ _ s
 apply ac9
 apply wpAny_rule
 exact ad3 ⟨_,rfl,ad3 h⟩
end
end HT
namespace L2
open PySem PySem.Spec PyProof.Rows
section
variable {X : Cx}
def E7 (K:PySem.W.Frag):V->Option Int->Option Int->Hp->VK->Prop:=fun x lo hi H Q=>∃ a xs,x = .ref a/\aO K H a xs/\(∀ p,H p=none->Q (.ref p) (upd H p (.tup (dR xs lo hi))))/\(dR xs lo hi=xs->Q (.ref a) H)
theorem E8:eV X (E7 X.K):=by
 intro pins s σ H x v vl vu lo hi sl Q I rx hs pl pu h
 obtain ⟨a,xs,ex,hx,q1,q2⟩:=h
 by_cases hw:HT.aJ xs.length 0 lo=0/\HT.aJ xs.length xs.length hi=xs.length
 ·subst ex
  cases rx
  obtain ⟨its,r,ht,hz⟩:=I.tuple hx
  have hlen:its.toArray.size=xs.length:=by rw [ae3]; exact r.length.symm
  refine⟨"tuple",_,PyProof.Rows.slot_tuple_getitem.lookup,ht.typeIs,?_⟩
  refine HT.E6 ht hs pl pu (by rw [hlen]; exact hw.1) (by rw [hlen]; exact hw.2) ⟨.ref a,H,I,rfl,q2 ?_⟩
  unfold dR
  rw [hw.1,hw.2]
  simp
 ·exact yX pins s σ H x v vl vu lo hi sl Q I rx hs pl pu ⟨a,xs,ex,hx,hw,q1⟩
end
def nG (K:PySem.W.Frag) (a b:Addr):It:=
  ⟨fun i H=>∃ xs ys x y,aM K H a xs/\aM K H b ys/\xs[i]? = some x/\ys[i]? = some y,
   fun i H v H'=>∃ T x y,H T=none/\v = .ref T/\H'=upd H T (.tup [x,y])/\∀ xs ys,aM K H a xs->aM K H b ys->xs[i]? = some x/\ys[i]? = some y,
   fun i H=>∃ xs ys,aM K H a xs/\aM K H b ys/\(i=xs.length ∨ (i < xs.length/\i=ys.length))⟩
abbrev E9:=nF false false
theorem F0 {P:Program}{w:World}{K:PySem.W.Frag}{elts:List Expr}{k:Nat}{pos:Pos} (a b z TI TO i1 i2:Addr) (d : [z,TI,TO,i1,i2].Nodup) :
  eR P w K (.Tuple elts k pos) (nG K a b) [z,TI,TO,i1,i2] z (E9 z TI TO i1 i2 a b):=sR false false a b z TI TO i1 i2 d
end L2
namespace PP
open PySem L2
inductive PV where
 | non | bl (b:Bool) | int (i:Int) | str (x:Str) | tup (xs:List PV) | lst (xs:List PV)
 | dK (kvs:List (aG × PV)) | dT (kvs:List (List aG × PV)) | scr (ns:List Int) | kt (xs:List PV) | exc (c:Str) | fK (kvs:List (aG × PV)) | fT (kvs:List (List aG × PV)) | fL (xs:List PV) | fn (x:Str) | ob (a:Addr)
mutual
def flat:PV->Bool
 | .tup xs=>flats xs
 | .lst _=>false
 | .dK _=>false
 | .dT _=>false
 | .non=>true
 | .bl _=>true
 | .int _=>true
 | .str _=>true
 | .scr _=>true
 | .kt xs=>flats xs
 | .exc _=>true
 | .fK _=>false
 | .fT _=>false
 | .fL xs=>flats xs
 | .fn _=>true
 | .ob _=>true
def flats:List PV->Bool
 | []=>true
 | x :: r=>flat x && flats r
end
def fA (K:PySem.W.Frag) (H:Hp) (a:Addr) (ns:List Int):Prop:=(∃ o,H a=some (.frz o (.lst (ns.map V.int)))) ∨
  ∃ (o:Obj) (its:Array Value) (n:Nat),K.lookup a=some o/\o.cls = .type "list"/\o.dict=none/\o.data = .seq its n/\its.size<=sizeLine/\aH (ns.map V.int) its.toList
def F1 (K:PySem.W.Frag) (a:Addr) (us:List V):Prop:=∃ (o:Obj) (its:Array Value) (n:Nat),K.lookup a=some o/\o.cls = .type "tuple"/\o.data = .seq its n/\its.size<=sizeLine/\aH us its.toList
mutual
inductive aE (K:PySem.W.Frag) (M:Addr->Prop) (H:Hp):V->PV->Prop
 | non:aE K M H .non .non
 | bl (b:Bool):aE K M H (.bl b) (.bl b)
 | int (i:Int):aE K M H (.int i) (.int i)
 | str (x:Str):aE K M H (.str x) (.str x)
 | tup {a:Addr}{us:List V}{xs:List PV}:H a=some (.tup us)->Reps K M H us xs->aE K M H (.ref a) (.tup xs)
 | lst {a:Addr}{us:List V}{xs:List PV}:M a->H a=some (.lst us)->Reps K M H us xs->aE K M H (.ref a) (.lst xs)
 | dK {a:Addr}{kvs:List (aG × V)}{ps:List (aG × PV)}:M a->H a=some (.dK kvs)->kvs.map (·.1)=ps.map (·.1)->Reps K M H (kvs.map (·.2)) (ps.map (·.2))->aE K M H (.ref a) (.dK ps)
 | dT {a:Addr}{kvs:List (List aG × V)}{ps:List (List aG × PV)}:M a->H a=some (.dT kvs)->kvs.map (·.1)=ps.map (·.1)->Reps K M H (kvs.map (·.2)) (ps.map (·.2))->aE K M H (.ref a) (.dT ps)
 | scr {a:Addr}{ns:List Int}:fA K H a ns->aE K M H (.ref a) (.scr ns)
 | kt {a:Addr}{us:List V}{xs:List PV}:F1 K a us->Reps K M H us xs->aE K M H (.ref a) (.kt xs)
 | exc {a C:Addr}{o:Obj}{c:Str}:H a=some (.frz o (.own a))->PySem.W.nsIn K mainGlobals c=some (some (.ref C))->o.cls = .ref C->aE K M H (.ref a) (.exc c)
 | fK {a:Addr}{o:Obj}{kvs:List (aG × V)}{ps:List (aG × PV)}:H a=some (.frz o (.dK kvs))->kvs.map (·.1)=ps.map (·.1)->Reps K M H (kvs.map (·.2)) (ps.map (·.2))->aE K M H (.ref a) (.fK ps)
 | fT {a:Addr}{o:Obj}{kvs:List (List aG × V)}{ps:List (List aG × PV)}:H a=some (.frz o (.dT kvs))->kvs.map (·.1)=ps.map (·.1)->Reps K M H (kvs.map (·.2)) (ps.map (·.2))->aE K M H (.ref a) (.fT ps)
 | fL {a:Addr}{o:Obj}{us:List V}{xs:List PV}:H a=some (.frz o (.lst us))->Reps K M H us xs->aE K M H (.ref a) (.fL xs)
 | fn {f:Addr}{x:Str}:PySem.W.nsIn K mainGlobals x=some (some (.ref f))->aE K M H (.ref f) (.fn x)
 | ob {a:Addr}:aE K M H (.ref a) (.ob a)
inductive Reps (K:PySem.W.Frag) (M:Addr->Prop) (H:Hp):List V->List PV->Prop
 | nil:Reps K M H [] []
 | cons {v:V}{x:PV}{vs:List V}{xs:List PV}:aE K M H v x->Reps K M H vs xs->Reps K M H (v :: vs) (x :: xs)
end
def nH:HO->Bool
 | .frz _ _=>true
 | _=>false
def sS:HO->Bool
 | .frz _ u=>nH u
 | .ins _ _ _=>true
 | .ext _=>true
 | _=>false
structure cU (M M':Addr->Prop) (H H':Hp):Prop where
 lst:∀ a us,M a->H a=some (.lst us)->M' a/\H' a=some (.lst us)
 dK:∀ a kvs,M a->H a=some (.dK kvs)->M' a/\H' a=some (.dK kvs)
 dT:∀ a kvs,M a->H a=some (.dT kvs)->M' a/\H' a=some (.dT kvs)
 tup:∀ a us,H a=some (.tup us)->H' a=some (.tup us)
 frz:∀ a o u,H a=some (.frz o u)->nH u=false->H' a=some (.frz o u)
theorem fA.keep {K:PySem.W.Frag}{H H':Hp}{a:Addr}{ns:List Int} (k:∀ a o u,H a=some (.frz o u)->nH u=false->H' a=some (.frz o u)) (h:fA K H a ns):fA K H' a ns:=
 h.elim (fun ⟨o,e⟩=>.inl ⟨o,k _ _ _ e rfl⟩) .inr
mutual
theorem aE.keep {K:PySem.W.Frag}{M M':Addr->Prop}{H H':Hp} (k:cU M M' H H'):∀ {v:V}{x:PV},aE K M H v x->aE K M' H' v x
 | _,_,.non=>.non
 | _,_,.bl b=>.bl b
 | _,_,.int i=>.int i
 | _,_,.str x=>.str x
 | _,_,.tup h r=>.tup (k.tup _ _ h) (Reps.keep k r)
 | _,_,.lst m h r=>.lst (k.lst _ _ m h).1 (k.lst _ _ m h).2 (Reps.keep k r)
 | _,_,.dK m h e r=>.dK (k.dK _ _ m h).1 (k.dK _ _ m h).2 e (Reps.keep k r)
 | _,_,.dT m h e r=>.dT (k.dT _ _ m h).1 (k.dT _ _ m h).2 e (Reps.keep k r)
 | _,_,.scr h=>.scr (h.keep k.frz)
 | _,_,.kt h r=>.kt h (Reps.keep k r)
 | _,_,.exc h e c=>.exc (k.frz _ _ _ h rfl) e c
 | _,_,.fK h e r=>.fK (k.frz _ _ _ h rfl) e (Reps.keep k r)
 | _,_,.fT h e r=>.fT (k.frz _ _ _ h rfl) e (Reps.keep k r)
 | _,_,.fL h r=>.fL (k.frz _ _ _ h rfl) (Reps.keep k r)
 | _,_,.fn h=>.fn h
 | _,_,.ob=>.ob
theorem Reps.keep {K:PySem.W.Frag}{M M':Addr->Prop}{H H':Hp} (k:cU M M' H H'):∀ {vs:List V}{xs:List PV},Reps K M H vs xs->Reps K M' H' vs xs
 | _,_,.nil=>.nil
 | _,_,.cons r t=>.cons (aE.keep k r) (Reps.keep k t)
end
mutual
theorem aE.flat {K:PySem.W.Frag}{M M':Addr->Prop}{H:Hp}{v:V}{x:PV} (f:flat x=true) (r:aE K M H v x):aE K M' H v x:=by
 cases r with
 | non=>exact .non
 | bl b=>exact .bl b
 | int i=>exact .int i
 | str x=>exact .str x
 | tup h r=>exact .tup h (Reps.flat (by unfold PP.flat at f; exact f) r)
 | lst m h r=>unfold PP.flat at f; cases f
 | dK m h e r=>unfold PP.flat at f; cases f
 | dT m h e r=>unfold PP.flat at f; cases f
 | scr h=>exact .scr h
 | kt h r=>exact .kt h (Reps.flat (by unfold PP.flat at f; exact f) r)
 | exc h e c=>exact .exc h e c
 | fK h e r=>unfold PP.flat at f; cases f
 | fT h e r=>unfold PP.flat at f; cases f
 | fL h r=>exact .fL h (Reps.flat (by unfold PP.flat at f; exact f) r)
 | fn h=>exact .fn h
 | ob=>exact .ob
theorem Reps.flat {K:PySem.W.Frag}{M M':Addr->Prop}{H:Hp}{vs:List V}{xs:List PV} (f:flats xs=true) (r:Reps K M H vs xs):Reps K M' H vs xs:=by
 cases r with
 | nil=>exact .nil
 | cons r t=>
  unfold PP.flats at f
  rw [aj2] at f
  exact .cons (aE.flat f.1 r) (Reps.flat f.2 t)
end
theorem cU.same {M M':Addr->Prop}{H H':Hp} (s:a9 H H') (m:∀ a,M a->M' a):cU M M' H H':=
 ⟨fun a _ h e=>⟨m a h,s _ _ e⟩,fun a _ h e=>⟨m a h,s _ _ e⟩,fun a _ h e=>⟨m a h,s _ _ e⟩,fun _ _ e=>s _ _ e,fun _ _ _ e _=>s _ _ e⟩
theorem aE.same {K:PySem.W.Frag}{M M':Addr->Prop}{H H':Hp}{v:V}{x:PV} (r:aE K M H v x) (s:a9 H H') (m:∀ a,M a->M' a):aE K M' H' v x:=r.keep (.same s m)
theorem Reps.same {K:PySem.W.Frag}{M M':Addr->Prop}{H H':Hp}{v:List V}{x:List PV} (r:Reps K M H v x) (s:a9 H H') (m:∀ a,M a->M' a):Reps K M' H' v x:=r.keep (.same s m)
def cE:HO->Bool
 | .lst _=>true
 | .dK _=>true
 | .dT _=>true
 | _=>false
theorem cU.upd {M M':Addr->Prop}{H:Hp}{a:Addr}{o o':HO} (h:H a=some o') (mu:cE o'=true) (m:∀ b,M b->b ≠ a/\M' b):cU M M' H (upd H a o):=
 ⟨fun b _ hb e=>⟨(m b hb).2,by rw [aR (m b hb).1]; exact e⟩,fun b _ hb e=>⟨(m b hb).2,by rw [aR (m b hb).1]; exact e⟩,fun b _ hb e=>⟨(m b hb).2,by rw [aR (m b hb).1]; exact e⟩,
  fun b _ e=>by rw [aR (fun z=>by rw [z,h] at e; cases e; cases mu)]; exact e,
  fun b _ _ e _=>by rw [aR (fun z=>by rw [z,h] at e; cases e; cases mu)]; exact e⟩
theorem Reps.length {K:PySem.W.Frag}{M:Addr->Prop}{H:Hp}:∀ {vs:List V}{xs:List PV},Reps K M H vs xs->vs.length=xs.length
 | _,_,.nil=>rfl
 | _,_,.cons _ t=>congrArg (· + 1) t.length
theorem Reps.get {K:PySem.W.Frag}{M:Addr->Prop}{H:Hp}:∀ {vs:List V}{xs:List PV}{i:Nat}{v:V},Reps K M H vs xs->vs[i]? = some v->∃ x,xs[i]? = some x/\aE K M H v x
 | _,_,_,_,.nil,e=>by simp at e
 | _,_,0,_,.cons r _,e=>by simp at e; subst e; exact⟨_,rfl,r⟩
 | _,_,i+1,v,.cons _ t,e=>by
  rw [aj6] at e
  obtain ⟨x,h1,h2⟩:=t.get e
  exact⟨x,by rw [aj6]; exact h1,h2⟩
theorem Reps.at {K:PySem.W.Frag}{M:Addr->Prop}{H:Hp}:∀ {vs:List V}{xs:List PV}{i:Nat}{x:PV},Reps K M H vs xs->xs[i]? = some x->∃ v,vs[i]? = some v/\aE K M H v x
 | _,_,_,_,.nil,e=>by simp at e
 | _,_,0,_,.cons r _,e=>by simp at e; subst e; exact⟨_,rfl,r⟩
 | _,_,i+1,v,.cons _ t,e=>by
  rw [aj6] at e
  obtain ⟨x,h1,h2⟩:=t.at e
  exact⟨x,by rw [aj6]; exact h1,h2⟩
theorem Reps.append {K:PySem.W.Frag}{M:Addr->Prop}{H:Hp}:∀ {vs:List V}{xs:List PV}{us:List V}{ys:List PV},Reps K M H vs xs->Reps K M H us ys->Reps K M H (vs ++ us) (xs ++ ys)
 | _,_,_,_,.nil,s=>s
 | _,_,_,_,.cons r t,s=>.cons r (t.append s)
theorem Reps.take {K:PySem.W.Frag}{M:Addr->Prop}{H:Hp}:∀ (n:Nat) {vs:List V}{xs:List PV},Reps K M H vs xs->Reps K M H (vs.take n) (xs.take n)
 | 0,_,_,_=>by simp; exact .nil
 | _+1,_,_,.nil=>.nil
 | n+1,_,_,.cons r t=>.cons r (Reps.take n t)
theorem Reps.drop {K:PySem.W.Frag}{M:Addr->Prop}{H:Hp}:∀ (n:Nat) {vs:List V}{xs:List PV},Reps K M H vs xs->Reps K M H (vs.drop n) (xs.drop n)
 | 0,_,_,r=>r
 | _+1,_,_,.nil=>.nil
 | n+1,_,_,.cons _ t=>Reps.drop n t
abbrev intz (ns:List Int):List PV:=ns.map PV.int
theorem Reps.intz {K:PySem.W.Frag}{M:Addr->Prop}{H:Hp}:∀ (ns:List Int),Reps K M H (ns.map V.int) (intz ns)
 | []=>.nil
 | n :: r=>.cons (.int n) (Reps.intz r)
theorem Reps.ofInts {K:PySem.W.Frag}{M:Addr->Prop}{H:Hp}:∀ {ns:List Int}{us:List V},Reps K M H us (PP.intz ns)->us=ns.map V.int
 | [],_,.nil=>rfl
 | n :: r,_,.cons q t=>by
  cases q
  rw [Reps.ofInts t]; rfl
theorem dS:∀ (ns:List Int),flats (intz ns)=true
 | []=>rfl
 | n :: r=>by show (flat (.int n) && flats (intz r))=true; rw [dS r]; rfl
inductive Tg | rd | sh | nw | fr
inductive Slot | sh (g:Bool) (x:PV) | own (x:PV) | kp (g:Bool) (x:PV) (ks:List (Addr × List PV × List PV))
def Slot.val:Slot->PV
 | .sh _ x=>x
 | .own x=>x
 | .kp _ x _=>x
def Slot.tag:Slot->Tg
 | .sh true _=>.nw
 | .sh false _=>.sh
 | .own _=>.rd
 | .kp _ _ _=>.nw
abbrev aV:=List (Option Slot)
def Ms (H0:Hp) (W:Addr->Prop):Bool->Addr->Prop
 | false,a=>¬ W a
 | true,a=>¬ W a/\H0 a=none
def Mg (H0:Hp) (W:Addr->Prop) (Hs:Hp):Tg->Addr->Prop
 | .rd,_=>True
 | .sh,a=>¬ W a
 | .nw,a=>¬ W a/\H0 a=none
 | .fr,a=>Hs a=none
def dU (K:PySem.W.Frag) (M:Addr->Prop) (H:Hp) (a:Addr):PV->Prop
 | .lst xs=>∃ us,H a=some (.lst us)/\Reps K M H us xs
 | .dK ps=>∃ kvs,H a=some (.dK kvs)/\kvs.map (·.1)=ps.map (·.1)/\Reps K M H (kvs.map (·.2)) (ps.map (·.2))
 | .dT ps=>∃ kvs,H a=some (.dT kvs)/\kvs.map (·.1)=ps.map (·.1)/\Reps K M H (kvs.map (·.2)) (ps.map (·.2))
 | _=>False
def kL (l:Addr) (us:List V):HO:=.ext fun h=>us.length<=sizeLine/\∃ (its:List Value) (n:Nat),aH us its/\h.get? l=some { cls:=.type "list",data:=.seq its.toArray n }
def gO (K:PySem.W.Frag) (H0 H:Hp) (a:Addr) (st un:List PV):Prop:=∃ (C dx l1 l2:Addr) (us1 us2:List V),PySem.W.nsIn K mainGlobals "Keeper" = some (some (.ref C))/\(H0 a=none/\H0 dx=none/\H0 l1=none/\H0 l2=none)/\l1 ≠ l2/\H dx=some (.own a)/\
 H a=some (.ins C dx [("standing",.ref l1),("undone",.ref l2)])/\H l1=some (kL l1 us1)/\H l2=some (kL l2 us2)/\Reps K (fun _=>False) H us1 st/\Reps K (fun _=>False) H us2 un
theorem gO.keep {K:PySem.W.Frag}{H0 H H':Hp}{a:Addr}{st un:List PV} (k:cU (fun _=>False) (fun _=>False) H H') (f:∀ b o,H b=some o->cE o=false->H' b=some o) (h:gO K H0 H a st un):gO K H0 H' a st un:=by
 obtain ⟨C,dx,l1,l2,us1,us2,h1,h2,h3,h4,h5,h6,h7,r1,r2⟩:=h
 exact⟨C,dx,l1,l2,us1,us2,h1,h2,h3,f _ _ h4 rfl,f _ _ h5 rfl,f _ _ h6 rfl,f _ _ h7 rfl,r1.keep k,r2.keep k⟩
def F3 (H:Hp) (a b:Addr):Prop:=a ≠ b/\∀ C D dx dy l1 l2 m1 m2,H a=some (.ins C dx [("standing",.ref l1),("undone",.ref l2)])->H b=some (.ins D dy [("standing",.ref m1),("undone",.ref m2)])->l1 ≠ m1/\l1 ≠ m2/\l2 ≠ m1/\l2 ≠ m2
def cV (K:PySem.W.Frag) (H0 H:Hp) (ks:List (Addr × List PV × List PV)):Prop:=(∀ k ∈ ks,gO K H0 H k.1 k.2.1 k.2.2)/\ks.Pairwise fun k m=>F3 H k.1 m.1
theorem cV.keep {K:PySem.W.Frag}{H0 H H':Hp}{ks:List (Addr × List PV × List PV)} (k:cU (fun _=>False) (fun _=>False) H H') (f:∀ b o,H b=some o->cE o=false->H' b=some o) (h:cV K H0 H ks):cV K H0 H' ks:=by
 refine⟨fun x hx=>(h.1 x hx).keep k f,h.2.imp_of_mem fun {x y} hx hy r=>⟨r.1,fun C D dx dy l1 l2 m1 m2 e1 e2=>?_⟩⟩
 obtain ⟨C',dx',l1',l2',us1,us2,_,_,_,_,h5,_⟩:=h.1 x hx
 obtain ⟨D',dy',m1',m2',ws1,ws2,_,_,_,_,g5,_⟩:=h.1 y hy
 have z1:=f _ _ h5 rfl
 have z2:=f _ _ g5 rfl
 rw [e1] at z1; rw [e2] at z2
 cases z1; cases z2
 exact r.2 _ _ _ _ _ _ _ _ h5 g5
theorem cV.same {K:PySem.W.Frag}{H0 H H':Hp}{ks:List (Addr × List PV × List PV)} (s:a9 H H') (h:cV K H0 H ks):cV K H0 H' ks:=h.keep (.same s fun _ z=>z) fun _ _ e _=>s _ _ e
theorem cV.upd {K:PySem.W.Frag}{H0 H:Hp}{c:Addr}{o o':HO}{ks:List (Addr × List PV × List PV)} (e:H c=some o') (mu:cE o'=true) (h:cV K H0 H ks):cV K H0 (upd H c o) ks:=
 h.keep (.upd e mu fun _ z=>z.elim) fun b u e2 m2=>by rw [aR (fun z=>by rw [z,e] at e2; cases e2; rw [mu] at m2; cases m2)]; exact e2
def kJ (K:PySem.W.Frag) (H0:Hp) (W:Addr->Prop) (H:Hp) (v:V):Slot->Prop
 | .sh g x=>aE K (Ms H0 W g) H v x
 | .own x=>∃ a,v = .ref a/\W a/\dU K (Ms H0 W true) H a x
 | .kp g x ks=>(aE K (fun _=>False) H v x/\flat x=true)/\cV K (cond g H0 fun _=>none) H ks
structure PX (K:PySem.W.Frag) (H0:Hp) (W:Addr->Prop) (σ:St) (ρ:aV) (H:Hp):Prop where
 len:ρ.length=σ.length
 same:a9 H0 H
 wm:∀ a,W a->H0 a=none/\∃ o,H a=some o/\cE o=true
 sl:∀ (i:Nat) (m:Slot),ρ[i]? = some (some m)->∃ v,σ[i]? = some (some v)/\kJ K H0 W H v m
 dis:∀ (i j:Nat) (x y:PV) (a:Addr),ρ[i]? = some (some (.own x))->ρ[j]? = some (some (.own y))->σ[i]? = some (some (.ref a))->σ[j]? = some (some (.ref a))->i=j
theorem dU.keep {K:PySem.W.Frag}{M M':Addr->Prop}{H H':Hp}{a:Addr} (k:cU M M' H H') (ha:∀ o,H a=some o->H' a=some o):∀ {x:PV},dU K M H a x->dU K M' H' a x
 | .lst _,⟨us,e,r⟩=>⟨us,ha _ e,r.keep k⟩
 | .dK _,⟨us,e,q,r⟩=>⟨us,ha _ e,q,r.keep k⟩
 | .dT _,⟨us,e,q,r⟩=>⟨us,ha _ e,q,r.keep k⟩
theorem dU.at {K:PySem.W.Frag}{M:Addr->Prop}{H:Hp}{a:Addr}:∀ {x:PV},dU K M H a x->∃ o,H a=some o/\cE o=true
 | .lst _,⟨us,e,r⟩=>⟨_,e,rfl⟩
 | .dK _,⟨us,e,q,r⟩=>⟨_,e,rfl⟩
 | .dT _,⟨us,e,q,r⟩=>⟨_,e,rfl⟩
theorem dU.rep {K:PySem.W.Frag}{M M':Addr->Prop}{H:Hp}{a:Addr} (m:∀ b,M b->M' b) (ha:M' a):∀ {x:PV},dU K M H a x->aE K M' H (.ref a) x
 | .lst _,⟨us,e,r⟩=>.lst ha e (r.same (a9.refl _) m)
 | .dK _,⟨us,e,q,r⟩=>.dK ha e q (r.same (a9.refl _) m)
 | .dT _,⟨us,e,q,r⟩=>.dT ha e q (r.same (a9.refl _) m)
section
variable {K : PySem.W.Frag} {H0 : Hp} {W W' : Addr → Prop} {σ : St} {ρ : aV} {H H' : Hp}
theorem PX.mono (p:PX K H0 W σ ρ H) (s:a9 H H'):PX K H0 W σ ρ H':=by
 refine⟨p.len,p.same.trans s,fun a h=>⟨(p.wm a h).1,let ⟨o,e,m⟩:=(p.wm a h).2; ⟨o,s _ _ e,m⟩⟩,fun i m h=>?_,p.dis⟩
 obtain ⟨v,e,r⟩:=p.sl i m h
 refine⟨v,e,?_⟩
 cases m with
 | sh g x=>exact aE.same r s fun _ z=>z
 | own x=>
  obtain ⟨a,e1,e2,r⟩:=r
  exact⟨a,e1,e2,r.keep (.same s fun _ z=>z) fun _ z=>s _ _ z⟩
 | kp g x ks=>exact⟨⟨r.1.1.same s fun _ z=>z,r.1.2⟩,r.2.same s⟩
theorem PX.new (p:PX K H0 W σ ρ H) {a:Addr} (h:H a=none) : ¬ W a/\H0 a=none:=
 ⟨fun z=>(by obtain ⟨_,o,e,_⟩:=p.wm a z; rw [h] at e; cases e),p.same.free h⟩
theorem Mg.back {g:Tg}{H1:Hp} (s:a9 H H1) {a:Addr} (h:Mg H0 W H1 g a):Mg H0 W H g a:=by
 cases g with
 | fr=>exact s.free h
 | rd=>exact h
 | sh=>exact h
 | nw=>exact h
end
abbrev PK:=PV->Tg->Prop
abbrev aA:=aV->PK->Prop
abbrev bN:=aV->(Bool->Prop)->Prop
abbrev bV:=aV->(List (PV × Tg)->Prop)->Prop
inductive dW (K:PySem.W.Frag) (H0:Hp) (W:Addr->Prop) (Hs H:Hp):List V->List (PV × Tg)->Prop
 | nil:dW K H0 W Hs H [] []
 | cons {v:V}{x:PV}{g:Tg}{vs:List V}{xs:List (PV × Tg)}:aE K (Mg H0 W Hs g) H v x->dW K H0 W Hs H vs xs->dW K H0 W Hs H (v :: vs) ((x,g) :: xs)
def kK (K:PySem.W.Frag) (H0:Hp) (W:Addr->Prop) (H:Hp) (Q:PK) (Q':VK):Prop:=∀ v H' x g,a9 H H'->aE K (Mg H0 W H g) H' v x->Q x g->Q' v H'
def LE (X:Cx) (t:aA):TE:=fun σ H Q'=>∃ (W:Addr->Prop) (ρ:aV) (Q:PK),PX X.K X.H₀ W σ ρ H/\t ρ Q/\kK X.K X.H₀ W H Q Q'
def LT (X:Cx) (t:bN):TT:=fun σ H Q'=>∃ (W:Addr->Prop) (ρ:aV) (Q:Bool->Prop),PX X.K X.H₀ W σ ρ H/\t ρ Q/\∀ b H',a9 H H'->Q b->Q' b H'
def LA (X:Cx) (t:bV):TA:=fun σ H Q'=>∃ (W:Addr->Prop) (ρ:aV) (Q:List (PV × Tg)->Prop),PX X.K X.H₀ W σ ρ H/\t ρ Q/\∀ vs H' xs,a9 H H'->dW X.K X.H₀ W H H' vs xs->Q xs->Q' vs H'
theorem dW.same {K:PySem.W.Frag}{H0:Hp}{W:Addr->Prop}{Hs Hs' H H':Hp} (s:a9 H H') (b:a9 Hs' Hs):∀ {vs:List V}{xs:List (PV × Tg)},dW K H0 W Hs H vs xs->dW K H0 W Hs' H' vs xs
 | _,_,.nil=>.nil
 | _,_,.cons r t=>.cons (r.same s fun _ z=>Mg.back b z) (t.same s b)
theorem dW.any {K:PySem.W.Frag}{H0:Hp}{W:Addr->Prop}{Hs H:Hp}:∀ {vs:List V}{xs:List (PV × Tg)},dW K H0 W Hs H vs xs->Reps K (fun _=>True) H vs (xs.map (·.1))
 | _,_,.nil=>.nil
 | _,_,.cons r t=>.cons (r.same (a9.refl _) fun _ _=>trivial) t.any
def Nw:Tg->PV->Prop
 | .fr,_=>True
 | .nw,_=>True
 | _,x=>flat x=true
section
variable {K : PySem.W.Frag} {H0 Hs H : Hp} {W : Addr → Prop} {σ : St} {ρ : aV}
theorem Nw.rep {g:Tg}{x:PV}{v:V} (px:PX K H0 W σ ρ Hs) (n:Nw g x) (r:aE K (Mg H0 W Hs g) H v x):aE K (Ms H0 W true) H v x:=by
 cases g with
 | fr=>exact r.same (a9.refl _) fun a z=>px.new z
 | nw=>exact r.same (a9.refl _) fun a z=>z
 | sh=>exact r.flat n
 | rd=>exact r.flat n
theorem sT {v:V}{m:Slot} (r:kJ K H0 W H v m):aE K (Mg H0 W Hs m.tag) H v m.val:=by
 cases m with
 | sh g x=>
  cases g with
  | true=>exact aE.same r (a9.refl _) fun _ z=>z
  | false=>exact aE.same r (a9.refl _) fun _ z=>z
 | own x=>
  obtain ⟨a,rfl,_,r⟩:=r
  exact r.rep (fun _ _=>trivial) trivial
 | kp g x ks=>exact r.1.1.flat r.1.2
end
section
variable {X : Cx} {σ : St} {H : Hp} {Q' : VK} {ta tb : aA}
def a6 (i:Nat):aA:=fun ρ Q=>∃ m,ρ[i]? = some (some m)/\Q m.val m.tag
def qC (x:PV):aA:=fun _ Q=>Q x .fr
theorem F4 {i:Nat} (h:LE X (a6 i) σ H Q'):iV i σ H Q':=by
 obtain ⟨W,ρ,Q,px,⟨m,e,q⟩,k⟩:=h
 obtain ⟨v,ev,r⟩:=px.sl i m e
 exact⟨v,ev,k v H _ _ (a9.refl _) (sT r) q⟩
theorem j3 {x:PV}{v:V} (hr:∀ M,aE X.K M H v x) (h:LE X (qC x) σ H Q'):tC v σ H Q':=by
 obtain ⟨W,ρ,Q,px,q,k⟩:=h
 exact k v H _ _ (a9.refl _) (hr _) q
def c7 (X:Cx) (R:PV->Tg->PV->Tg->PK->Prop) (r:R2):Prop:=∀ (W:Addr->Prop) (Hs H:Hp) (u v:V) (x y:PV) (g g':Tg) (Q:PK) (Q':VK),a9 Hs H->
 (∀ a,Hs a=none->¬ W a/\X.H₀ a=none)->aE X.K (Mg X.H₀ W Hs g) H u x->aE X.K (Mg X.H₀ W Hs g') H v y->R x g y g' Q->(∀ w H' z gz,a9 H H'->aE X.K (Mg X.H₀ W Hs gz) H' w z->Q z gz->Q' w H')->r u v H Q'
def q2 (R:PV->Tg->PV->Tg->PK->Prop) (ta tb:aA):aA:=fun ρ Q=>ta ρ fun x g=>tb ρ fun y g'=>R x g y g' Q
theorem j4 {R:PV->Tg->PV->Tg->PK->Prop}{r:R2} (c:c7 X R r) (h:LE X (q2 R ta tb) σ H Q'):iY r (LE X ta) (LE X tb) σ H Q':=by
 obtain ⟨W,ρ,Q,px,q,k⟩:=h
 refine⟨W,ρ,_,px,q,fun u H1 x g s1 r1 q1=>⟨W,ρ,_,px.mono s1,q1,fun v H2 y g' s2 r2 q2=>?_⟩⟩
 exact c W H H2 u v x y g g' Q Q' (s1.trans s2) (fun a z=>px.new z) (r1.same s2 fun _ z=>z) (r2.same (a9.refl _) fun _ z=>Mg.back s1 z) q2 fun w H' z gz s3 r3 q3=>k w H' z gz ((s1.trans s2).trans s3) r3 q3
def RI (C:Int->Int->Prop) (f:Int->Int->PV):PV->Tg->PV->Tg->PK->Prop:=fun x _ y _ Q=>∃ i j,x = .int i/\y = .int j/\C i j/\Q (f i j) .fr
def cW (f:Int->Int->PV):PV->Tg->PV->Tg->PK->Prop:=fun x _ y _ Q=>∃ i j,x = .int i/\y = .int j/\Q (f i j) .fr
theorem nI {C:Int->Int->Prop}{f:Int->Int->Int}:c7 X (RI C fun i j=>.int (f i j)) (rI C fun i j=>.int (f i j)):=by
 rintro W Hs H u v x y g g' Q Q' s n r1 r2 ⟨i,j,rfl,rfl,c,q⟩ k
 cases r1; cases r2
 exact⟨i,j,rfl,rfl,c,k _ _ _ _ (a9.refl _) (.int _) q⟩
theorem sU {f:Int->Int->Int}:c7 X (cW fun i j=>.int (f i j)) (e8 fun i j=>.int (f i j)):=by
 rintro W Hs H u v x y g g' Q Q' s n r1 r2 ⟨i,j,rfl,rfl,q⟩ k
 cases r1; cases r2
 exact⟨i,j,rfl,rfl,k _ _ _ _ (a9.refl _) (.int _) q⟩
theorem kM {f:Int->Int->Bool}:c7 X (cW fun i j=>.bl (f i j)) (e8 fun i j=>.bl (f i j)):=by
 rintro W Hs H u v x y g g' Q Q' s n r1 r2 ⟨i,j,rfl,rfl,q⟩ k
 cases r1; cases r2
 exact⟨i,j,rfl,rfl,k _ _ _ _ (a9.refl _) (.bl _) q⟩
def iA (neg:Bool):PV->Tg->PV->Tg->PK->Prop:=fun x _ y _ Q=>(∃ i j,x = .int i/\y = .int j/\Q (.bl (if neg=true then !decide (i=j) else decide (i=j))) .fr) ∨ (∃ i j,x = .bl i/\y = .bl j/\Q (.bl (if neg=true then !decide (i=j) else decide (i=j))) .fr)
theorem sV (i j:Int):decide (V.int i=V.int j)=decide (i=j):=by
 rw [ak8,ah3,ah3]; exact⟨fun z=>V.int.inj z,fun z=>congrArg V.int z⟩
theorem sW (i j:Bool):decide (V.bl i=V.bl j)=decide (i=j):=by
 rw [ak8,ah3,ah3]; exact⟨fun z=>V.bl.inj z,fun z=>congrArg V.bl z⟩
theorem F5:c7 X (iA false) mD:=by
 rintro W Hs H u v x y g g' Q Q' s n r1 r2 (⟨i,j,rfl,rfl,q⟩ | ⟨i,j,rfl,rfl,q⟩) k
 ·cases r1; cases r2
  exact⟨rfl,by rw [sV]; exact k _ _ _ _ (a9.refl _) (.bl _) q⟩
 ·cases r1; cases r2
  exact⟨rfl,by rw [sW]; exact k _ _ _ _ (a9.refl _) (.bl _) q⟩
theorem F6:c7 X (iA true) mE:=by
 rintro W Hs H u v x y g g' Q Q' s n r1 r2 (⟨i,j,rfl,rfl,q⟩ | ⟨i,j,rfl,rfl,q⟩) k
 ·cases r1; cases r2
  exact⟨rfl,by rw [sV]; exact k _ _ _ _ (a9.refl _) (.bl _) q⟩
 ·cases r1; cases r2
  exact⟨rfl,by rw [sW]; exact k _ _ _ _ (a9.refl _) (.bl _) q⟩
def aS (t:aA):bN:=fun ρ Q=>t ρ fun x _=>∃ b,x = .bl b/\Q b
theorem sX {t:aA}{Q':Bool->Hp->Prop} (h:LT X (aS t) σ H Q'):LE X t σ H fun x H'=>∃ k,x = .bl k/\Q' k H':=by
 obtain ⟨W,ρ,Q,px,q,k⟩:=h
 refine⟨W,ρ,_,px,q,?_⟩
 rintro v H1 x g s r ⟨b,rfl,q⟩
 cases r
 exact⟨b,rfl,k _ _ s q⟩
def j5 (t u:bN):bN:=fun ρ Q=>t ρ fun c=>if c=true then u ρ Q else Q false
def fB (t u:bN):bN:=fun ρ Q=>t ρ fun c=>if c=true then Q true else u ρ Q
def dF (t:bN):bN:=fun ρ Q=>t ρ fun c=>Q (!c)
variable {t u : bN} {Qb : Bool → Hp → Prop}
theorem F7 (h:LT X (j5 t u) σ H Qb):pI (LT X t) (LT X u) σ H Qb:=by
 obtain ⟨W,ρ,Q,px,q,k⟩:=h
 refine⟨W,ρ,_,px,q,fun b H1 s1 q1=>?_⟩
 cases b with
 | true=>exact bU ⟨W,ρ,Q,px.mono s1,by simpa using q1,fun b H2 s2 q2=>k _ _ (s1.trans s2) q2⟩
 | false=>exact aT (k _ _ s1 (by simpa using q1))
theorem F8 (h:LT X (fB t u) σ H Qb):pJ (LT X t) (LT X u) σ H Qb:=by
 obtain ⟨W,ρ,Q,px,q,k⟩:=h
 refine⟨W,ρ,_,px,q,fun b H1 s1 q1=>?_⟩
 cases b with
 | false=>exact aT ⟨W,ρ,Q,px.mono s1,by simpa using q1,fun b H2 s2 q2=>k _ _ (s1.trans s2) q2⟩
 | true=>exact bU (k _ _ s1 (by simpa using q1))
theorem F9 (h:LT X (dF t) σ H Qb):pK (LT X t) σ H Qb:=by
 obtain ⟨W,ρ,Q,px,q,k⟩:=h
 exact⟨W,ρ,_,px,q,fun b H1 s1 q1=>k _ _ s1 q1⟩
def nJ (ta tb:aA):aA:=fun ρ Q=>ta ρ fun x _=>∃ c,x = .bl c/\if c=true then tb ρ Q else Q (.bl false) .fr
def nK (ta:aA):aA:=fun ρ Q=>ta ρ fun x _=>∃ c,x = .bl c/\Q (.bl (!c)) .fr
theorem kK.back {K:PySem.W.Frag}{H0:Hp}{W:Addr->Prop}{H H1:Hp}{Q:PK} (k:kK K H0 W H Q Q') (s:a9 H H1):kK K H0 W H1 Q Q':=fun v H' x g s' r q=>k v H' x g (s.trans s') (r.same (a9.refl _) fun _ z=>Mg.back s z) q
theorem G0 (h:LE X (nJ ta tb) σ H Q'):pL (LE X ta) (LE X tb) σ H Q':=by
 obtain ⟨W,ρ,Q,px,q,k⟩:=h
 refine⟨W,ρ,_,px,q,?_⟩
 rintro v H1 x g s1 r ⟨c,rfl,q⟩
 cases r
 refine⟨c,rfl,?_⟩
 cases c with
 | true=>exact bU ⟨W,ρ,Q,px.mono s1,by simpa using q,k.back s1⟩
 | false=>exact aT (k _ _ _ _ s1 (.bl _) (by simpa using q))
theorem G1 (h:LE X (nK ta) σ H Q'):pM (LE X ta) σ H Q':=by
 obtain ⟨W,ρ,Q,px,q,k⟩:=h
 refine⟨W,ρ,_,px,q,?_⟩
 rintro v H1 x g s1 r ⟨c,rfl,q⟩
 cases r
 exact⟨c,rfl,k _ _ _ _ s1 (.bl _) q⟩
def aB:bV:=fun _ Q=>Q []
def a7 (te:aA) (tr:bV):bV:=fun ρ Q=>te ρ fun x g=>tr ρ fun xs=>Q ((x,g) :: xs)
variable {Qa : List V → Hp → Prop} {tr : bV}
theorem G2 (h:LA X aB σ H Qa):i6 σ H Qa:=by
 obtain ⟨W,ρ,Q,px,q,k⟩:=h
 exact k _ _ _ (a9.refl _) .nil q
theorem G3 (h:LA X (a7 ta tr) σ H Qa):fO (LE X ta) (LA X tr) σ H Qa:=by
 obtain ⟨W,ρ,Q,px,q,k⟩:=h
 refine⟨W,ρ,_,px,q,fun v H1 x g s1 r1 q1=>⟨W,ρ,_,px.mono s1,q1,fun vs H2 xs s2 r2 q2=>?_⟩⟩
 exact k _ _ _ (s1.trans s2) (.cons (r1.same s2 fun _ z=>z) (r2.same (a9.refl _) s1)) q2
def eC (t:bV):aA:=fun ρ Q=>t ρ fun xs=>xs.length<=1000/\flats (xs.map (·.1))=true/\Q (.tup (xs.map (·.1))) .fr
def eD (t:bV):aA:=fun ρ Q=>t ρ fun xs=>xs.length<=1000/\flats (xs.map (·.1))=true/\Q (.lst (xs.map (·.1))) .fr
theorem dW.length {K:PySem.W.Frag}{H0:Hp}{W:Addr->Prop}{Hs H:Hp}:∀ {vs:List V}{xs:List (PV × Tg)},dW K H0 W Hs H vs xs->vs.length=xs.length
 | _,_,.nil=>rfl
 | _,_,.cons _ t=>congrArg (· + 1) t.length
theorem kN {n:Nat} (h:n<=1000):n<=sizeLine:=al0 (A0 h)
theorem G4 (h:LE X (eC tr) σ H Q'):qK (LA X tr) σ H Q':=by
 obtain ⟨W,ρ,Q,px,q,k⟩:=h
 refine⟨W,ρ,_,px,q,?_⟩
 rintro vs H1 xs s1 r ⟨hl,n,q⟩
 refine⟨by rw [r.length]; exact kN hl,fun p hp=>k _ _ _ .fr (s1.trans (bI hp _)) (.tup bL ?_) q⟩
 exact (r.any.flat n).same (bI hp _) fun _ z=>z
theorem G5 (h:LE X (eD tr) σ H Q'):qL (LA X tr) σ H Q':=by
 obtain ⟨W,ρ,Q,px,q,k⟩:=h
 refine⟨W,ρ,_,px,q,?_⟩
 rintro vs H1 xs s1 r ⟨hl,n,q⟩
 refine⟨by rw [r.length]; exact kN hl,fun p hp=>k _ _ _ .fr (s1.trans (bI hp _)) (.lst (s1.free hp) bL ?_) q⟩
 exact (r.any.flat n).same (bI hp _) fun _ z=>z
def cX (X:Cx) (R:List PV->(PV->Prop)->Prop) (r:List V->Hp->VK->Prop):Prop:=∀ (H:Hp) (vs:List V) (xs:List PV) (Q:PV->Prop) (Q':VK),Reps X.K (fun _=>True) H vs xs->R xs Q->
 (∀ w H' z,a9 H H'->aE X.K (fun a=>H a=none) H' w z->Q z->Q' w H')->r vs H Q'
def aF (R:List PV->(PV->Prop)->Prop) (t:bV):aA:=fun ρ Q=>t ρ fun xs=>R (xs.map (·.1)) fun z=>Q z .fr
theorem sY {R:List PV->(PV->Prop)->Prop}{r:List V->Hp->VK->Prop} (c:cX X R r) (h:LE X (aF R tr) σ H Q'):mJ r (LA X tr) σ H Q':=by
 obtain ⟨W,ρ,Q,px,q,k⟩:=h
 refine⟨W,ρ,_,px,q,fun vs H1 xs s1 r1 q1=>c H1 vs _ _ Q' r1.any q1 fun w H' z s2 r2 q2=>k w H' z .fr (s1.trans s2) (r2.same (a9.refl _) fun _ z=>s1.free z) q2⟩
end
structure j6 where
 nx:aV->Prop
 rt:PV->Prop
 bk:aV->Prop:=fun _=>False
 ct:aV->Prop:=fun _=>False
abbrev aQ:=j6->aV->Prop
def Ev (W:Addr->Prop) (H:Hp) (W':Addr->Prop) (H':Hp):Prop:=∀ b o,H b=some o->¬ W b->sS o=false->H' b=some o/\¬ W' b
theorem Ev.trans {W W1 W2:Addr->Prop}{H H1 H2:Hp} (a:Ev W H W1 H1) (b:Ev W1 H1 W2 H2):Ev W H W2 H2:=fun c o h n z=>let ⟨h1,n1⟩:=a c o h n z; b c o h1 n1 z
theorem Ev.same {W:Addr->Prop}{H H':Hp} (s:a9 H H'):Ev W H W H':=fun c o h n _=>⟨s _ _ h,n⟩
theorem Ev.refl (W:Addr->Prop) (H:Hp):Ev W H W H:=Ev.same (a9.refl _)
structure kO (X:Cx) (W:Addr->Prop) (H:Hp) (D':j6) (D:cH):Prop where
 nx:∀ W' σ' H' ρ',Ev W H W' H'->PX X.K X.H₀ W' σ' ρ' H'->D'.nx ρ'->D.nx σ' H'
 rt:∀ v H' x,a9 X.H₀ H'->aE X.K (fun a=>X.H₀ a=none) H' v x->D'.rt x->D.rt v H'
 bk:∀ W' σ' H' ρ',Ev W H W' H'->PX X.K X.H₀ W' σ' ρ' H'->D'.bk ρ'->D.bk σ' H'
 ct:∀ W' σ' H' ρ',Ev W H W' H'->PX X.K X.H₀ W' σ' ρ' H'->D'.ct ρ'->D.ct σ' H'
theorem kO.step {X:Cx}{W W1:Addr->Prop}{H H1:Hp}{D':j6}{D:cH} (k:kO X W H D' D) (e:Ev W H W1 H1):kO X W1 H1 D' D:=
 ⟨fun W' σ' H' ρ' e'=>k.nx W' σ' H' ρ' (e.trans e'),k.rt,fun W' σ' H' ρ' e'=>k.bk W' σ' H' ρ' (e.trans e'),fun W' σ' H' ρ' e'=>k.ct W' σ' H' ρ' (e.trans e')⟩
def LS (X:Cx) (t:aQ):TS:=fun D σ H=>∃ (W:Addr->Prop) (ρ:aV) (D':j6),PX X.K X.H₀ W σ ρ H/\t D' ρ/\kO X W H D' D
theorem eF {α:Type}{l:List α}{i j:Nat}{a b:α} (h:(l.set i a)[j]? = some b):(j=i/\i < l.length/\b=a) ∨ (j ≠ i/\l[j]? = some b):=by
 by_cases e:j=i
 ·subst e
  have hl:j < (l.set j a).length:=(ae7.mp h).1
  rw [ai9] at hl
  rw [ai1 hl] at h
  exact .inl ⟨rfl,hl,(ae6 h).symm⟩
 ·rw [af3 (Ne.symm e)] at h
  exact .inr ⟨e,h⟩
section
variable {K : PySem.W.Frag} {H0 : Hp} {W W' : Addr → Prop} {σ : St} {ρ : aV} {H H' Hs : Hp}
theorem PX.setSh {i:Nat}{v:V}{g:Bool}{x:PV} (p:PX K H0 W σ ρ H) (r:aE K (Ms H0 W g) H v x):PX K H0 W (σ.set i (some v)) (ρ.set i (some (.sh g x))) H:=by
 refine⟨by rw [ai9,ai9]; exact p.len,p.same,p.wm,fun j m h=>?_,fun j k y z a h1 h2 h3 h4=>?_⟩
 ·rcases eF h with ⟨rfl,hl,e⟩ | ⟨hne,h⟩
  ·cases e
   rw [p.len] at hl
   exact⟨v,ai1 hl,r⟩
  ·obtain ⟨u,e,q⟩:=p.sl j m h
   exact⟨u,by rw [af3 (Ne.symm hne)]; exact e,q⟩
 ·rcases eF h1 with ⟨_,_,e⟩ | ⟨n1,h1⟩
  ·cases e
  ·rcases eF h2 with ⟨_,_,e⟩ | ⟨n2,h2⟩
   ·cases e
   ·rw [af3 (Ne.symm n1)] at h3
    rw [af3 (Ne.symm n2)] at h4
    exact p.dis j k y z a h1 h2 h3 h4
def iB (W:Addr->Prop) (a:Addr):Addr->Prop:=fun b=>W b ∨ b=a
theorem nL {g:Bool}{a b:Addr} (n:b ≠ a) (h:Ms H0 W g b):Ms H0 (iB W a) g b:=by
 cases g with
 | true=>exact⟨fun z=>z.elim h.1 n,h.2⟩
 | false=>exact fun z=>z.elim h n
theorem PX.setOwn {i:Nat}{a:Addr}{x:PV} (p:PX K H0 W σ ρ Hs) (s:a9 Hs H) (ha:Hs a=none) (r:dU K (Ms H0 (iB W a) true) H a x):PX K H0 (iB W a) (σ.set i (some (.ref a))) (ρ.set i (some (.own x))) H:=by
 have old:∀ b o,Hs b=some o->b ≠ a:=fun b o e z=>by rw [z,ha] at e; cases e
 have kp:∀ g,cU (Ms H0 W g) (Ms H0 (iB W a) g) Hs H:=fun g=>⟨fun b _ m e=>⟨nL (old _ _ e) m,s _ _ e⟩,fun b _ m e=>⟨nL (old _ _ e) m,s _ _ e⟩,fun b _ m e=>⟨nL (old _ _ e) m,s _ _ e⟩,fun _ _ e=>s _ _ e,fun _ _ _ e _=>s _ _ e⟩
 have wa : ¬ W a:=(p.new ha).1
 refine⟨by rw [ai9,ai9]; exact p.len,p.same.trans s,fun b z=>?_,fun j m h=>?_,fun j k y z b h1 h2 h3 h4=>?_⟩
 ·rcases z with z | rfl
  ·obtain ⟨h1,o,h2,h3⟩:=p.wm b z
   exact⟨h1,o,s _ _ h2,h3⟩
  ·exact⟨(p.new ha).2,r.at⟩
 ·rcases eF h with ⟨rfl,hl,e⟩ | ⟨hne,h⟩
  ·cases e
   rw [p.len] at hl
   exact⟨_,ai1 hl,a,rfl,.inr rfl,r⟩
  ·obtain ⟨u,e,q⟩:=p.sl j m h
   refine⟨u,by rw [af3 (Ne.symm hne)]; exact e,?_⟩
   cases m with
   | sh g y=>exact aE.keep (kp g) q
   | own y=>
    obtain ⟨b,e1,e2,q⟩:=q
    exact⟨b,e1,.inl e2,q.keep (kp true) fun o z=>s _ _ z⟩
   | kp g c ks=>exact⟨⟨q.1.1.same s fun _ z=>z,q.1.2⟩,q.2.same s⟩
 ·have ne:∀ {j:Nat}{y:PV},ρ[j]? = some (some (.own y))->σ[j]? ≠ some (some (.ref a)):=fun {j y} h1 h2=>by
   obtain ⟨u,e,c,e1,e2,_⟩:=p.sl j _ h1
   rw [h2] at e
   cases e
   cases e1
   exact wa e2
  rcases eF h1 with ⟨e1,l1,_⟩ | ⟨n1,h1⟩
  ·rcases eF h2 with ⟨e2,_,_⟩ | ⟨n2,h2⟩
   ·rw [e1,e2]
   ·rw [e1,ai1 (by rw [<- p.len]; exact l1)] at h3
    rw [af3 (Ne.symm n2)] at h4
    cases h3
    exact absurd h4 (ne h2)
  ·rw [af3 (Ne.symm n1)] at h3
   rcases eF h2 with ⟨e2,l2,_⟩ | ⟨n2,h2⟩
   ·rw [e2,ai1 (by rw [<- p.len]; exact l2)] at h4
    cases h4
    exact absurd h3 (ne h1)
   ·rw [af3 (Ne.symm n2)] at h4
    exact p.dis j k y z b h1 h2 h3 h4
theorem Ev.own {a:Addr} (s:a9 Hs H) (ha:Hs a=none):Ev W Hs (iB W a) H:=fun b o e n _=>⟨s _ _ e,fun z=>z.elim n fun z=>by rw [z,ha] at e; cases e⟩
theorem nM {g:Bool}{a b:Addr} (wa:W a) (h:Ms H0 W g b):b ≠ a:=by
 cases g with
 | true=>exact fun z=>h.1 (by rw [z]; exact wa)
 | false=>exact fun z=>h (by rw [z]; exact wa)
theorem PX.updOwn {i:Nat}{a:Addr}{x y:PV}{o:HO} (p:PX K H0 W σ ρ H) (hi:ρ[i]? = some (some (.own x))) (ha:σ[i]? = some (some (.ref a))) (wa:W a) (mu:cE o=true) (r:dU K (Ms H0 W true) (upd H a o) a y) :
  PX K H0 W σ (ρ.set i (some (.own y))) (upd H a o):=by
 obtain ⟨w0,o',e',mu'⟩:=p.wm a wa
 have kp:∀ g,cU (Ms H0 W g) (Ms H0 W g) H (upd H a o):=fun g=>.upd e' mu' fun b m=>⟨nM wa m,m⟩
 refine⟨by rw [ai9]; exact p.len,fun b u e=>by rw [aR (fun z=>by rw [z,w0] at e; cases e)]; exact p.same _ _ e,fun b z=>?_,fun j m h=>?_,fun j k y' z b h1 h2 h3 h4=>?_⟩
 ·by_cases e:b=a
  ·subst e; exact⟨w0,o,bL,mu⟩
  ·obtain ⟨h1,o2,h2,h3⟩:=p.wm b z
   exact⟨h1,o2,by rw [aR e]; exact h2,h3⟩
 ·rcases eF h with ⟨rfl,hl,e⟩ | ⟨hne,h⟩
  ·cases e
   exact⟨_,ha,a,rfl,wa,r⟩
  ·obtain ⟨u,e,q⟩:=p.sl j m h
   refine⟨u,e,?_⟩
   cases m with
   | sh g y=>exact aE.keep (kp g) q
   | own y=>
    obtain ⟨b,e1,e2,q⟩:=q
    have hb:b ≠ a:=fun z=>by
     subst e1
     rw [z] at e
     exact hne (p.dis j i _ _ a h hi e ha)
    exact⟨b,e1,e2,q.keep (kp true) fun o z=>by rw [aR hb]; exact z⟩
   | kp g c ks=>exact⟨⟨q.1.1.keep (.upd e' mu' fun _ z=>z.elim),q.1.2⟩,q.2.upd e' mu'⟩
 ·have g1:∃ y,ρ[j]? = some (some (.own y)):=by
   rcases eF h1 with ⟨e,_,_⟩ | ⟨_,h⟩
   ·exact⟨x,by rw [e]; exact hi⟩
   ·exact⟨_,h⟩
  have g2:∃ y,ρ[k]? = some (some (.own y)):=by
   rcases eF h2 with ⟨e,_,_⟩ | ⟨_,h⟩
   ·exact⟨x,by rw [e]; exact hi⟩
   ·exact⟨_,h⟩
  obtain ⟨y1,g1⟩:=g1
  obtain ⟨y2,g2⟩:=g2
  exact p.dis j k y1 y2 b g1 g2 h3 h4
theorem Ev.upd {a:Addr}{o:HO} (wa:W a):Ev W H W (upd H a o):=fun b u e n _=>⟨by rw [aR (fun z=>n (by rw [z]; exact wa))]; exact e,n⟩
end
section
variable {X : Cx} {σ : St} {H : Hp} {D : cH} {te : aA} {t u : aQ}
def bC:aQ:=fun D ρ=>D.nx ρ
def aK (t u:aQ):aQ:=fun D ρ=>t { D with nx:=u D } ρ
theorem G6 (h:LS X bC D σ H):pN D σ H:=by
 obtain ⟨W,ρ,D',px,q,k⟩:=h
 exact k.nx W σ H ρ (Ev.refl _ _) px q
theorem G7 (h:LS X (aK t u) D σ H):pO (LS X t) (LS X u) D σ H:=by
 obtain ⟨W,ρ,D',px,q,k⟩:=h
 exact⟨W,ρ,_,px,q,fun W' σ' H' ρ' e px' q'=>⟨W',ρ',D',px',q',k.step e⟩,k.rt,k.bk,k.ct⟩
def sZ:Tg->PV->Bool
 | .fr,_=>true
 | .nw,_=>true
 | _,x=>flat x
def t0:Tg->PV->Prop
 | .rd,x=>flat x=true
 | _,_=>True
theorem G8 {K:PySem.W.Frag}{H0 Hs H:Hp}{W:Addr->Prop}{σ:St}{ρ:aV}{g:Tg}{x:PV}{v:V} (px:PX K H0 W σ ρ Hs) (n:t0 g x) (r:aE K (Mg H0 W Hs g) H v x):aE K (Ms H0 W (sZ g x)) H v x:=by
 cases g with
 | fr=>exact Nw.rep (g:=.fr) px trivial r
 | nw=>exact Nw.rep (g:=.nw) px trivial r
 | sh=>
  show aE K (Ms H0 W (flat x)) H v x
  cases e:flat x with
  | true=>exact r.flat e
  | false=>exact r.same (a9.refl _) fun _ z=>z
 | rd=>exact r.flat n
def b9 (i:Nat) (te:aA):aQ:=fun D ρ=>te ρ fun x g=>t0 g x/\D.nx (ρ.set i (some (.sh (sZ g x) x)))
theorem t4 {i:Nat} (h:LS X (b9 i te) D σ H):jW (LE X te) (cD i) D σ H:=by
 obtain ⟨W,ρ,D',px,q,k⟩:=h
 refine⟨W,ρ,_,px,q,?_⟩
 rintro v H1 x g s r ⟨n,q⟩
 exact k.nx W _ H1 _ (Ev.same s) ((px.mono s).setSh (G8 px n r)) q
def t5:PV->Bool
 | .lst xs=>flats xs
 | .dK ps=>flats (ps.map (·.2))
 | .dT ps=>flats (ps.map (·.2))
 | _=>false
theorem G9 {K:PySem.W.Frag}{M:Addr->Prop}{H:Hp}{v:V}{x:PV} (r:aE K M H v x) (o:t5 x=true):∃ a,v = .ref a/\M a/\∀ M',dU K M' H a x:=by
 cases r with
 | lst m e r=>exact⟨_,rfl,m,fun _=>⟨_,e,r.flat o⟩⟩
 | dK m e q r=>exact⟨_,rfl,m,fun _=>⟨_,e,q,r.flat o⟩⟩
 | dT m e q r=>exact⟨_,rfl,m,fun _=>⟨_,e,q,r.flat o⟩⟩
 | _=>cases o
def fS (i:Nat) (te:aA):aQ:=fun D ρ=>te ρ fun x g=>g = .fr/\t5 x=true/\D.nx (ρ.set i (some (.own x)))
theorem J0 {i:Nat} (h:LS X (fS i te) D σ H):jW (LE X te) (cD i) D σ H:=by
 obtain ⟨W,ρ,D',px,q,k⟩:=h
 refine⟨W,ρ,_,px,q,?_⟩
 rintro v H1 x g s r ⟨rfl,o,q⟩
 obtain ⟨a,rfl,m,w⟩:=G9 r o
 exact k.nx _ _ H1 _ (Ev.own s m) (px.setOwn s m (w _)) q
def aX (te:aA):aQ:=fun D ρ=>te ρ fun x g=>Nw g x/\D.rt x
theorem J1 (h:LS X (aX te) D σ H):m5 (LE X te) D σ H:=by
 obtain ⟨W,ρ,D',px,q,k⟩:=h
 refine⟨W,ρ,_,px,q,?_⟩
 rintro v H1 x g s r ⟨n,q⟩
 exact k.rt v H1 x (px.same.trans s) ((Nw.rep px n r).same (a9.refl _) fun _ z=>z.2) q
def Slot.nw:Slot->Prop
 | .own _=>True
 | .kp _ _ _=>True
 | .sh true _=>True
 | .sh false x=>flat x=true
def nN (i:Nat):aQ:=fun D ρ=>∃ m,ρ[i]? = some (some m)/\m.nw/\D.rt m.val
theorem J2 {i:Nat} (h:LS X (nN i) D σ H):m5 (iV i) D σ H:=by
 obtain ⟨W,ρ,D',px,⟨m,hi,n,q⟩,k⟩:=h
 obtain ⟨v,ev,r⟩:=px.sl i _ hi
 refine⟨v,ev,k.rt v H _ px.same ?_ q⟩
 cases m with
 | own x=>
  obtain ⟨a,rfl,wa,r⟩:=r
  exact r.rep (fun _ z=>z.2) (px.wm a wa).1
 | sh g x=>
  cases g with
  | true=>exact aE.same r (a9.refl _) fun _ z=>z.2
  | false=>exact aE.flat n r
 | kp g x ks=>exact r.1.1.flat r.1.2
def bD (c:bN) (t u:aQ):aQ:=fun D ρ=>c ρ fun b=>if b=true then t D ρ else u D ρ
theorem J3 {c:bN} (h:LS X (bD c t u) D σ H):pR (LT X c) (LS X t) (LS X u) D σ H:=by
 obtain ⟨W,ρ,D',px,q,k⟩:=h
 refine⟨W,ρ,_,px,q,fun b H1 s q1=>?_⟩
 cases b with
 | true=>exact bU ⟨W,ρ,D',px.mono s,by simpa using q1,k.step (Ev.same s)⟩
 | false=>exact aT ⟨W,ρ,D',px.mono s,by simpa using q1,k.step (Ev.same s)⟩
end
theorem aE.sqT {K:PySem.W.Frag}{M:Addr->Prop}{H:Hp}{v:V}{xs:List PV} (r:aE K M H v (.tup xs)):∃ a us,v = .ref a/\H a=some (.tup us)/\Reps K M H us xs:=by
 cases r with
 | tup e r=>exact⟨_,_,rfl,e,r⟩
theorem aE.sqL {K:PySem.W.Frag}{M:Addr->Prop}{H:Hp}{v:V}{xs:List PV} (r:aE K M H v (.lst xs)):∃ a us,v = .ref a/\M a/\H a=some (.lst us)/\Reps K M H us xs:=by
 cases r with
 | lst m e r=>exact⟨_,_,rfl,m,e,r⟩
theorem fA.sqL {K:PySem.W.Frag}{H:Hp}{a:Addr}{ns:List Int} (h:fA K H a ns):aM K H a (ns.map V.int):=h.elim (fun z=>.inl (.inr z)) .inr
def gP:PV->Option (List PV)
 | .tup xs=>some xs
 | .lst xs=>some xs
 | .scr ns=>some (intz ns)
 | .kt xs=>some xs
 | .fL xs=>some xs
 | _=>none
theorem aE.seq {K:PySem.W.Frag}{M:Addr->Prop}{H:Hp}{v:V}{x:PV}{xs:List PV} (r:aE K M H v x) (e:gP x=some xs):∃ a us,v = .ref a/\(aM K H a us ∨ aO K H a us)/\Reps K M H us xs:=by
 cases r with
 | tup h r=>cases e; exact⟨_,_,rfl,.inr (aO.of h),r⟩
 | lst m h r=>cases e; exact⟨_,_,rfl,.inl (aM.of h),r⟩
 | scr h=>cases e; exact⟨_,_,rfl,.inl h.sqL,Reps.intz _⟩
 | kt h r=>cases e; exact⟨_,_,rfl,.inr (.inr h),r⟩
 | fL h r=>cases e; exact⟨_,_,rfl,.inl (.inl (.inr ⟨_,h⟩)),r⟩
 | _=>cases e
section
variable {X : Cx} {σ : St} {H : Hp} {D : cH} {te ti to : aA} {t u : aQ} {Q' : VK}
theorem _root_.PP.PX.updL {K:PySem.W.Frag}{H0:Hp}{W:Addr->Prop}{σ:St}{ρ:aV}{H:Hp}{i:Nat}{a:Addr}{x:PV}{us:List V}{ys:List PV} (p:PX K H0 W σ ρ H) (hi:ρ[i]? = some (some (.own x))) (ha:σ[i]? = some (some (.ref a))) (wa:W a) (r:Reps K (Ms H0 W true) (upd H a (.lst us)) us ys) :
  PX K H0 W σ (ρ.set i (some (.own (.lst ys)))) (upd H a (.lst us)):=p.updOwn hi ha wa rfl (y:=.lst ys) ⟨us,bL,r⟩
def gQ (i:Nat) (te:aA):aQ:=fun D ρ=>∃ xs,ρ[i]? = some (some (.own (.lst xs)))/\te ρ fun x g=>Nw g x/\xs.length < 16000000/\D.nx (ρ.set i (some (.own (.lst (xs ++ [x])))))
theorem J4 {i:Nat} (h:LS X (gQ i te) D σ H):pP (rC X.K "list" rD (iV i) (fO (LE X te) i6)) D σ H:=by
 obtain ⟨W,ρ,D',px,⟨xs,hi,q⟩,k⟩:=h
 obtain ⟨v,ev,a,rfl,wa,us,ea,r⟩:=px.sl i _ hi
 refine⟨_,ev,C5 (aM.of ea),W,ρ,_,px,q,?_⟩
 rintro w H1 x g s rx ⟨n,hl,q⟩
 have ea1:=s _ _ ea
 refine⟨a,us,w,rfl,rfl,ea1,nC (by rw [r.length]; omega),?_⟩
 refine k.nx W σ _ _ ((Ev.same s).trans (Ev.upd wa)) ((px.mono s).updL hi ev wa ?_) q
 exact ((r.same s fun _ z=>z).append (.cons (Nw.rep px n rx) .nil)).keep (.upd ea1 rfl fun b m=>⟨nM wa m,m⟩)
end
theorem Reps.atI {K:PySem.W.Frag}{M:Addr->Prop}{H:Hp}{us:List V}{xs:List PV}{i:Int}{z:PV} (r:Reps K M H us xs) (h:L2.atI xs i=some z):∃ v,L2.atI us i=some v/\aE K M H v z:=by
 unfold L2.atI at h ⊢
 rw [r.length]
 cases e:gL xs.length i with
 | none=>rw [e] at h; cases h
 | some j=>rw [e] at h; exact r.at h
section
variable {X : Cx} {σ : St} {H : Hp} {Q' : VK} {ta tb te : aA} {tr : bV}
def nO:PV->Tg->PV->Tg->PK->Prop:=fun x g y _ Q=>∃ xs i z,gP x=some xs/\y = .int i/\L2.atI xs i=some z/\Q z g
theorem J5:c7 X nO (rB X.K):=by
 rintro W Hs H u v x y g g' Q Q' s n r1 r2 ⟨xs,i,z,e,rfl,hz,q⟩ k
 cases r2
 obtain ⟨a,us,rfl,hs,r⟩:=r1.seq e
 obtain ⟨v,hv,rv⟩:=r.atI hz
 rcases hs with hs | hs
 ·exact .inl ⟨a,us,i,v,rfl,rfl,hs,hv,k v H z g (a9.refl _) rv q⟩
 ·exact .inr (.inl ⟨a,us,i,v,rfl,rfl,hs,hv,k v H z g (a9.refl _) rv q⟩)
def kQ:PV->Option Nat
 | .tup xs=>some xs.length
 | .lst xs=>some xs.length
 | .scr ns=>some ns.length
 | .dK ps=>some ps.length
 | .kt xs=>some xs.length
 | .fL xs=>some xs.length
 | _=>none
def cN:List PV->(PV->Prop)->Prop:=fun xs Q=>∃ x n,xs = [x]/\kQ x=some n/\Q (.int n)
theorem Reps.one {K:PySem.W.Frag}{M:Addr->Prop}{H:Hp}{vs:List V}{x:PV} (r:Reps K M H vs [x]):∃ v,vs = [v]/\aE K M H v x:=by
 cases r with
 | cons r t=>cases t; exact⟨_,rfl,r⟩
theorem Reps.two {K:PySem.W.Frag}{M:Addr->Prop}{H:Hp}{vs:List V}{x y:PV} (r:Reps K M H vs [x,y]):∃ v w,vs = [v,w]/\aE K M H v x/\aE K M H w y:=by
 cases r with
 | cons r t=>
  obtain ⟨w,rfl,q⟩:=t.one
  exact⟨_,_,rfl,r,q⟩
theorem J6:cX X cN (fun xs H Q=>(∃ p ys,xs = [.ref p]/\(aM X.K H p ys ∨ aO X.K H p ys)/\Q (.int ys.length) H) ∨ ∃ a kvs,xs = [V.ref a]/\H a=some (.dK kvs)/\Q (.int kvs.length) H):=by
 rintro H vs xs Q Q' r ⟨x,n,rfl,e,q⟩ k
 obtain ⟨v,rfl,r1⟩:=r.one
 have fin:∀ {m:Nat},m=n->Q' (.int m) H:=fun {m} z=>by rw [z]; exact k _ _ _ (a9.refl _) (.int _) q
 cases r1 with
 | tup h r2=>cases e; exact .inl ⟨_,_,rfl,.inr (aO.of h),fin r2.length⟩
 | lst m h r2=>cases e; exact .inl ⟨_,_,rfl,.inl (aM.of h),fin r2.length⟩
 | scr h=>cases e; exact .inl ⟨_,_,rfl,.inl h.sqL,fin (by rw [ad1])⟩
 | kt h r2=>cases e; exact .inl ⟨_,_,rfl,.inr (.inr h),fin r2.length⟩
 | fL h r2=>cases e; exact .inl ⟨_,_,rfl,.inl (.inl (.inr ⟨_,h⟩)),fin r2.length⟩
 | dK m h e' r=>
  cases e
  refine .inr ⟨_,_,rfl,h,fin ?_⟩
  have:=congrArg List.length e'
  rw [ad1,ad1] at this
  exact this
 | _=>cases e
def nP:PV->Option (List PV)
 | .kt _=>none
 | x=>gP x
def t6:List PV->(PV->Prop)->Prop:=fun xs Q=>∃ x ys,xs = [x]/\nP x=some ys/\flats ys=true/\Q (.tup ys)
theorem J7:cX X (fun xs Q=>t6 xs Q/\∀ ns,xs ≠ [.scr ns]) (fun xs H Q=>∃ p ys,xs = [.ref p]/\((aM X.K H p ys/\∀ l,H l=none->Q (.ref l) (upd H l (.tup ys))) ∨ (aO X.K H p ys/\Q (.ref p) H))):=by
 rintro H vs xs Q Q' r ⟨⟨x,ys,rfl,e,f,q⟩,nsc⟩ k
 obtain ⟨v,rfl,r1⟩:=r.one
 cases r1 with
 | tup h r2=>cases e; exact⟨_,_,rfl,.inr ⟨aO.of h,k _ _ _ (a9.refl _) (.tup h (r2.flat f)) q⟩⟩
 | lst m h r2=>cases e; exact⟨_,_,rfl,.inl ⟨aM.of h,fun l hl=>k _ _ _ (bI hl _) (.tup bL ((r2.flat f).same (bI hl _) fun _ z=>z)) q⟩⟩
 | scr h=>exact absurd rfl (nsc _)
 | fL h r2=>cases e; exact⟨_,_,rfl,.inl ⟨.inl (.inr ⟨_,h⟩),fun l hl=>k _ _ _ (bI hl _) (.tup bL ((r2.flat f).same (bI hl _) fun _ z=>z)) q⟩⟩
 | _=>cases e
def j7:List PV->(PV->Prop)->Prop:=fun xs Q=>∃ bs:List Bool,xs = [.lst (bs.map PV.bl)]/\Q (.bl (bs.all id))
theorem Reps.ofBls {K:PySem.W.Frag}{M:Addr->Prop}{H:Hp}:∀ {ns:List Bool}{us:List V},Reps K M H us (ns.map PV.bl)->us=ns.map V.bl
 | [],_,.nil=>rfl
 | n :: r,_,.cons q t=>by
  cases q
  rw [Reps.ofBls t]; rfl
theorem J8:cX X j7 (fun xs H Q=>∃ (a:Addr) (bs:List Bool),xs = [.ref a]/\aM X.K H a (bs.map V.bl)/\Q (.bl (bs.all id)) H):=by
 rintro H vs xs Q Q' r ⟨bs,rfl,q⟩ k
 obtain ⟨v,rfl,r1⟩:=r.one
 obtain ⟨a,us,rfl,_,h,r2⟩:=r1.sqL
 obtain rfl:=r2.ofBls
 exact⟨a,bs,rfl,aM.of h,k _ _ _ (a9.refl _) (.bl _) q⟩
def nQ:List PV->(PV->Prop)->Prop:=fun xs Q=>∃ i j,xs = [.int i,.int j]/\Q (.int (if j < i then j else i))
def nR:List PV->(PV->Prop)->Prop:=fun xs Q=>∃ i j,xs = [.int i,.int j]/\Q (.int (if j > i then j else i))
theorem J9:cX X nQ (fun xs H Q=>∃ i j,xs = [.int i,.int j]/\Q (.int (if j < i then j else i)) H):=by
 rintro H vs xs Q Q' r ⟨i,j,rfl,q⟩ k
 obtain ⟨v,w,rfl,r1,r2⟩:=r.two
 cases r1; cases r2
 exact⟨i,j,rfl,k _ _ _ (a9.refl _) (.int _) q⟩
theorem K0:cX X nR (fun xs H Q=>∃ i j,xs = [.int i,.int j]/\Q (.int (if j > i then j else i)) H):=by
 rintro H vs xs Q Q' r ⟨i,j,rfl,q⟩ k
 obtain ⟨v,w,rfl,r1,r2⟩:=r.two
 cases r1; cases r2
 exact⟨i,j,rfl,k _ _ _ (a9.refl _) (.int _) q⟩
abbrev bA:=List PV->(PV->Prop)->Prop
def j8 (K:PySem.W.Frag) (p:bA):Sp:=fun vs H Q _=>∃ xs Qp,Reps K (fun _=>True) H vs xs/\p xs Qp/\∀ v H' x,a9 H H'->aE K (fun a=>H a=none) H' v x->Qp x->Q v H'
theorem K1 {p:bA}{E:XK} (h:LE X (aF p tr) σ H Q'):qM (j8 X.K p) [] E (LA X tr) σ H Q':=by
 obtain ⟨W,ρ,Q,px,q,k⟩:=h
 refine⟨W,ρ,_,px,q,fun vs H1 xs s1 r1 q1=>⟨_,_,by rw [List.append_nil]; exact r1.any,q1,fun v H' x s2 r2 q2=>k v H' x .fr (s1.trans s2) (r2.same (a9.refl _) fun _ z=>s1.free z) q2⟩⟩
def K2:PV->Option Bool
 | .non=>some false
 | .bl b=>some b
 | .int i=>some (i != 0)
 | .tup xs=>some (!xs.isEmpty)
 | .lst xs=>some (!xs.isEmpty)
 | .dK ps=>some (!ps.isEmpty)
 | _=>none
def nT (t:aA):bN:=fun ρ Q=>t ρ fun x _=>∃ b,K2 x=some b/\Q b
theorem nU {α β:Type}:∀ {l:List α}{m:List β},l.length=m.length->l.isEmpty=m.isEmpty
 | [],[],_=>rfl
 | _ :: _,_ :: _,_=>rfl
theorem K3 {t:aA}{Qb:Bool->Hp->Prop} (h:LT X (nT t) σ H Qb):LE X t σ H fun x H'=>∃ k,mF X.K x H' k/\Qb k H':=by
 obtain ⟨W,ρ,Q,px,q,k⟩:=h
 refine⟨W,ρ,_,px,q,?_⟩
 rintro v H1 x g s r ⟨b,e,q⟩
 refine⟨b,?_,k _ _ s q⟩
 cases r with
 | non=>cases e; rfl
 | bl b=>cases e; rfl
 | int i=>cases e; rfl
 | str x=>cases e
 | tup h r=>cases e; exact .inr (.inl ⟨_,aO.of h,by rw [nU r.length]⟩)
 | lst m h r=>cases e; exact .inl ⟨_,aM.of h,by rw [nU r.length]⟩
 | dK m h e' r=>
  cases e
  refine .inr (.inr ⟨_,h,?_⟩)
  have:=congrArg List.length e'
  rw [ad1,ad1] at this
  rw [nU this]
 | dT m h e' r=>cases e
 | scr h=>cases e
 | kt h r=>cases e
 | exc h e' c=>cases e
 | fK h e' r=>cases e
 | fT h e' r=>cases e
 | fL h r=>cases e
 | fn h=>cases e
 | ob=>cases e
end
structure iC (K:PySem.W.Frag) (H0:Hp) (W:Addr->Prop) (g:Bool) (H1:Hp) (J:It) (xs:List PV):Prop where
 go:∀ W' H' i,Ev W H1 W' H'->i < xs.length->J.go i H'
 yld:∀ W' H' i v H2,Ev W H1 W' H'->J.yld i H' v H2->i < xs.length->a9 H' H2/\∃ x,xs[i]? = some x/\aE K (Ms H0 W' g) H2 v x
 stop:∀ W' H',Ev W H1 W' H'->J.stop xs.length H'
abbrev cF:=aV->(List PV->Bool->Prop)->Prop
def LI (X:Cx) (t:cF):TI:=fun σ H R=>∃ (W:Addr->Prop) (ρ:aV) (Q:List PV->Bool->Prop),PX X.K X.H₀ W σ ρ H/\t ρ Q/\∀ J H1 xs g,a9 H H1->iC X.K X.H₀ W g H1 J xs->Q xs g->R J H1
theorem Ev.keep {H0:Hp}{W W':Addr->Prop}{H H':Hp}{g:Bool} (e:Ev W H W' H') (tw:∀ a,W a->∃ o,H a=some o/\cE o=true):cU (Ms H0 W g) (Ms H0 W' g) H H':=by
 have m:∀ {a:Addr}{o:HO},Ms H0 W g a->H a=some o->sS o=false->Ms H0 W' g a/\H' a=some o:=fun {a o} z h hk=>by
  cases g with
  | true=>
   obtain ⟨h1,h2⟩:=e a _ h z.1 hk
   exact⟨⟨h2,z.2⟩,h1⟩
  | false=>
   obtain ⟨h1,h2⟩:=e a _ h z hk
   exact⟨h2,h1⟩
 refine⟨fun a _ z h=>m z h rfl,fun a _ z h=>m z h rfl,fun a _ z h=>m z h rfl,fun a _ h=>(e a _ h (fun z=>?_) rfl).1,fun a _ _ h f=>(e a _ h (fun z=>?_) f).1⟩
 ·obtain ⟨o,h',mu⟩:=tw a z; rw [h] at h'; cases h'; cases mu
 ·obtain ⟨o,h',mu⟩:=tw a z; rw [h] at h'; cases h'; cases mu
section
variable {X : Cx} {σ : St} {H : Hp} {te : aA} {tr : bV} {R : It → Hp → Prop}
def t7 (K:PySem.W.Frag) (tl:TE):TI:=fun σ H R=>tl σ H fun x H1=>∃ a,x = .ref a/\((∃ xs,aM K H1 a xs/\R (m6 K a) H1) ∨ (∃ xs,aO K H1 a xs/\R (m7 K a) H1))
def nV:Tg->List PV->Bool
 | .fr,_=>true
 | .nw,_=>true
 | _,xs=>flats xs
def eG (te:aA):cF:=fun ρ Q=>te ρ fun x g=>∃ xs,gP x=some xs/\(g = .rd->flat x=true)/\Q xs (nV g xs)
theorem nW {K:PySem.W.Frag}{H0:Hp}{W:Addr->Prop}{g:Bool}{H1:Hp}{a:Addr}{us:List V}{xs:List PV} (tw:∀ a,W a->∃ o,H1 a=some o/\cE o=true) (ha:∀ W' H',Ev W H1 W' H'->aM K H' a us) (r:Reps K (Ms H0 W g) H1 us xs):iC K H0 W g H1 (m6 K a) xs:=by
 have lr:=r.length
 refine⟨fun W' H' i e hi=>⟨us,us[i]'(by omega),ha W' H' e,by simp⟩,fun W' H' i v H2 e y hi=>?_,fun W' H' e=>⟨us,ha W' H' e,by omega⟩⟩
 obtain ⟨rfl,y⟩:=y
 obtain ⟨x,hx,rx⟩:=r.get (y us (ha W' _ e))
 exact⟨a9.refl _,x,hx,rx.keep (e.keep tw)⟩
theorem t8 {K:PySem.W.Frag}{H0:Hp}{W:Addr->Prop}{g:Bool}{H1:Hp}{a:Addr}{us:List V}{xs:List PV} (tw:∀ a,W a->∃ o,H1 a=some o/\cE o=true) (ha:∀ W' H',Ev W H1 W' H'->aO K H' a us) (r:Reps K (Ms H0 W g) H1 us xs):iC K H0 W g H1 (m7 K a) xs:=by
 have lr:=r.length
 refine⟨fun W' H' i e hi=>⟨us,us[i]'(by omega),ha W' H' e,by simp⟩,fun W' H' i v H2 e y hi=>?_,fun W' H' e=>⟨us,ha W' H' e,by omega⟩⟩
 obtain ⟨rfl,y⟩:=y
 obtain ⟨x,hx,rx⟩:=r.get (y us (ha W' _ e))
 exact⟨a9.refl _,x,hx,rx.keep (e.keep tw)⟩
theorem j9 {K:PySem.W.Frag}{H0 Hs H:Hp}{W:Addr->Prop}{σ:St}{ρ:aV}{g:Tg}{us:List V}{xs:List PV} (px:PX K H0 W σ ρ Hs) (hg:g = .rd->flats xs=true) (r:Reps K (Mg H0 W Hs g) H us xs):Reps K (Ms H0 W (nV g xs)) H us xs:=by
 cases g with
 | fr=>exact r.same (a9.refl _) fun _ z=>px.new z
 | nw=>exact r.same (a9.refl _) fun _ z=>z
 | sh=>
  show Reps K (Ms H0 W (flats xs)) H us xs
  cases e:flats xs with
  | true=>exact r.flat e
  | false=>exact r.same (a9.refl _) fun _ z=>z
 | rd=>exact r.flat (hg rfl)
theorem K4 (h:LI X (eG te) σ H R):t7 X.K (LE X te) σ H R:=by
 obtain ⟨W,ρ,Q,px,q,k⟩:=h
 refine⟨W,ρ,_,px,q,?_⟩
 rintro v H1 x g s r ⟨xs,e,hg,q⟩
 have px1:=px.mono s
 have tw:∀ a,W a->∃ o,H1 a=some o/\cE o=true:=fun a z=>(px1.wm a z).2
 cases r with
 | tup h r=>
  cases e
  refine⟨_,rfl,.inr ⟨_,aO.of h,k _ _ _ _ s (t8 tw (fun W' H' e=>aO.of (e _ _ h (fun z=>?_) rfl).1) (j9 px (fun z=>by have:=hg z; unfold flat at this; exact this) r)) q⟩⟩
  obtain ⟨o,h',mu⟩:=tw _ z; rw [h] at h'; cases h'; cases mu
 | @lst a us xs' m h r=>
  cases e
  have wa : ¬ W a:=by
   cases g with
   | fr=>exact (px.new m).1
   | nw=>exact m.1
   | sh=>exact m
   | rd=>have:=hg rfl; unfold flat at this; cases this
  exact⟨_,rfl,.inl ⟨_,aM.of h,k _ _ _ _ s (nW tw (fun W' H' e=>aM.of (e _ _ h wa rfl).1) (j9 px (fun z=>by have:=hg z; unfold flat at this; cases this) r)) q⟩⟩
 | scr h=>
  cases e
  refine⟨_,rfl,.inl ⟨_,h.sqL,k _ _ _ _ s (nW tw (fun W' H' e=>(fA.keep (fun a o u hz f=>(e _ _ hz (fun z=>?_) f).1) h).sqL) (j9 (g:=g) px (fun z=>dS _) (Reps.intz _))) q⟩⟩
  obtain ⟨o,h',mu⟩:=tw _ z; rw [hz] at h'; cases h'; cases mu
 | kt h r=>
  cases e
  exact⟨_,rfl,.inr ⟨_,.inr h,k _ _ _ _ s (t8 tw (fun W' H' e=>.inr h) (j9 px (fun z=>by have:=hg z; unfold flat at this; exact this) r)) q⟩⟩
 | fL h r=>
  cases e
  refine⟨_,rfl,.inl ⟨_,.inl (.inr ⟨_,h⟩),k _ _ _ _ s (nW tw (fun W' H' e=>.inl (.inr ⟨_,(e _ _ h (fun z=>?_) rfl).1⟩)) (j9 px (fun z=>by have:=hg z; unfold flat at this; exact this) r)) q⟩⟩
  obtain ⟨o,h',mu⟩:=tw _ z; rw [h] at h'; cases h'; cases mu
 | _=>cases e
def fC (lo:Int) (n:Nat):List PV:=(List.range n).map fun (i:Nat)=>PV.int (lo+(i:Int))
theorem dX (lo:Int) (n:Nat):(fC lo n).length=n:=by unfold fC; rw [ad1,List.length_range]
theorem t9 {lo:Int}{n i:Nat} (h:i < n):(fC lo n)[i]? = some (.int (lo+i)):=by unfold fC; rw [ad9,List.getElem?_range h]; rfl
def fU (te:aA):cF:=fun ρ Q=>te ρ fun x _=>∃ j:Int,x = .int j/\-1000000<=j/\j<=1000000/\Q (fC 0 j.toNat) true
def kR (ta tb:aA):cF:=fun ρ Q=>ta ρ fun x _=>tb ρ fun y _=>∃ i j:Int,x = .int i/\y = .int j/\(-1000000<=i/\i<=1000000/\-1000000<=j/\j<=1000000)/\Q (fC i (j - i).toNat) true
theorem tD {K:PySem.W.Frag}{H0:Hp}{W:Addr->Prop}{H1:Hp} (lo:Int) (n:Nat):iC K H0 W true H1 (iW lo n) (fC lo n):=by
 refine⟨fun W' H' i e hi=>by rw [dX] at hi; exact hi,fun W' H' i v H2 e y hi=>?_,fun W' H' e=>by show n<=(fC lo n).length; rw [dX]; exact ad6 _⟩
 rw [dX] at hi
 obtain ⟨rfl,rfl⟩:=y
 exact⟨a9.refl _,_,t9 hi,.int _⟩
theorem K5 (h:LI X (fU te) σ H R):pW (fO (LE X te) i6) σ H R:=by
 obtain ⟨W,ρ,Q,px,q,k⟩:=h
 refine⟨W,ρ,_,px,q,?_⟩
 rintro v H1 x g s r ⟨j,rfl,h1,h2,q⟩
 cases r
 exact⟨j,rfl,by omega,by omega,k _ _ _ _ s (tD 0 j.toNat) q⟩
theorem K6 {ta tb:aA} (h:LI X (kR ta tb) σ H R):pX (fO (LE X ta) (fO (LE X tb) i6)) σ H R:=by
 obtain ⟨W,ρ,Q,px,q,k⟩:=h
 refine⟨W,ρ,_,px,q,fun v H1 x g s r q=>⟨W,ρ,_,px.mono s,q,?_⟩⟩
 rintro w H2 y g' s2 r2 ⟨i,j,rfl,rfl,h,q⟩
 cases r; cases r2
 exact⟨i,j,rfl,by omega,k _ _ _ _ (s.trans s2) (tD i (j - i).toNat) q⟩
end
abbrev fV:=PV->Bool->aV->(aV->Prop)->Prop
def jA (K:PySem.W.Frag) (own:Nat->Prop) (p:fV) (t:TG):Prop:=∀ (H0:Hp) (W:Addr->Prop) (σ:St) (ρ:aV) (H:Hp) (v:V) (x:PV) (g:Bool) (Q:aV->Prop) (Q':St->Hp->Prop),
 PX K H0 W σ ρ H->aE K (Ms H0 W g) H v x->p x g ρ Q->(∀ σ' ρ',PX K H0 W σ' ρ' H->(∀ i,¬ own i->σ'[i]? = σ[i]?)->σ'.length=σ.length->Q ρ'->Q' σ' H)->t v σ H Q'
def bO (i:Nat):fV:=fun x g ρ Q=>Q (ρ.set i (some (.sh (g || flat x) x)))
theorem kS {K:PySem.W.Frag}{H0 H:Hp}{W:Addr->Prop}{v:V}{x:PV}{g:Bool} (r:aE K (Ms H0 W g) H v x):aE K (Ms H0 W (g || flat x)) H v x:=by
 cases g with
 | true=>exact r
 | false=>
  show aE K (Ms H0 W (flat x)) H v x
  cases e:flat x with
  | true=>exact r.flat e
  | false=>exact r
theorem nX (K:PySem.W.Frag) (i:Nat):jA K (· = i) (bO i) (cD i):=by
 intro H0 W σ ρ H v x g Q Q' px r q k
 exact k _ _ (px.setSh (kS r)) (fun j hj=>by rw [af3 (Ne.symm hj)]) (ai9 ..) q
def iD (i j:Nat):fV:=fun x g ρ Q=>∃ y z,x = .tup [y,z]/\Q ((ρ.set i (some (.sh (g || flat y) y))).set j (some (.sh (g || flat z) z)))
theorem K7 (K:PySem.W.Frag) (i j:Nat):jA K (fun k=>k=i ∨ k=j) (iD i j) (jV K 2 (gK (cD i) (gK (cD j) jU))):=by
 intro H0 W σ ρ H v x g Q Q' px r q k
 obtain ⟨y,z,rfl,q⟩:=q
 obtain ⟨a,us,rfl,h,r⟩:=r.sqT
 obtain ⟨u1,u2,rfl,r1,r2⟩:=r.two
 refine⟨a,_,rfl,aO.of h,rfl,u1,_,rfl,u2,_,rfl,rfl,k _ _ ((px.setSh (kS r1)).setSh (kS r2)) (fun k hk=>?_) (by rw [ai9,ai9]) q⟩
 rw [af3 (fun e=>hk (.inr e.symm)),af3 (fun e=>hk (.inl e.symm))]
section
variable {X : Cx} {σ : St} {H : Hp} {D : cH}
def cY (ti:cF) (p:fV) (tb:aQ):aQ:=fun D ρ=>ti ρ fun xs g=>∃ I:Nat->aV->Prop,I 0 ρ/\(∀ i x ρ',xs[i]? = some x->I i ρ'->p x g ρ' fun ρ2=>tb { D with nx:=I (i+1),ct:=I (i+1),bk:=D.nx } ρ2)/\∀ ρ',I xs.length ρ'->D.nx ρ'
theorem K8 {ti:cF}{p:fV}{g:TG}{tb:aQ}{own:Nat->Prop} (hg:jA X.K own p g) (h:LS X (cY ti p tb) D σ H):pY (LI X ti) g (LS X tb) D σ H:=by
 obtain ⟨W,ρ,D',px,q,k⟩:=h
 refine⟨W,ρ,_,px,q,?_⟩
 rintro J H1 xs gb s it ⟨I,i0,turn,fin⟩
 refine⟨fun i m σ2 H2=>m=xs.length - i/\i<=xs.length/\∃ W2 ρ2,PX X.K X.H₀ W2 σ2 ρ2 H2/\Ev W H1 W2 H2/\I i ρ2,⟨xs.length,by omega,ah7 _,W,ρ,px.mono s,Ev.refl _ _,i0⟩,?_⟩
 rintro i m σ2 H2 ⟨rfl,hi,W2,ρ2,px2,e2,i2⟩
 have e0:Ev W H W2 H2:=(Ev.same s).trans e2
 by_cases hlt:i < xs.length
 ·refine .inr ⟨it.go W2 H2 i e2 hlt,fun σ3 H3=>∃ W3 ρ3,PX X.K X.H₀ W3 σ3 ρ3 H3/\Ev W H1 W3 H3/\I (i+1) ρ3,fun σ3 H3 ⟨W3,ρ3,a,b,c⟩=>⟨xs.length - (i+1),by omega,rfl,hlt,W3,ρ3,a,b,c⟩,fun v H3 y=>?_⟩
  obtain ⟨s3,x,hx,rx⟩:=it.yld W2 H2 i v H3 e2 y hlt
  refine hg X.H₀ W2 σ2 ρ2 H3 v x gb _ _ (px2.mono s3) rx (turn i x ρ2 hx i2) fun σ4 ρ4 px4 _ _ q4=>?_
  have e3:Ev W H1 W2 H3:=e2.trans (Ev.same s3)
  have e3':Ev W H W2 H3:=e0.trans (Ev.same s3)
  exact⟨W2,ρ4,_,px4,q4,fun W' σ' H' ρ' e p q=>⟨W',ρ',p,e3.trans e,q⟩,k.rt,fun W' σ' H' ρ' e p q=>k.nx W' σ' H' ρ' (e3'.trans e) p q,fun W' σ' H' ρ' e p q=>⟨W',ρ',p,e3.trans e,q⟩⟩
 ·have e:i=xs.length:=by omega
  subst e
  exact .inl ⟨it.stop W2 H2 e2,k.nx W2 σ2 H2 ρ2 e0 px2 (fin ρ2 i2)⟩
end
def Slot.blk:Slot->Slot
 | .kp _ x ks=>.kp false x ks
 | .sh _ x=>.sh false x
 | .own x=>.sh false x
def iE (fr:List (Option Nat)) (ρ:aV):aV:=fr.map fun o=>o.bind fun j=>(ρ[j]?).join.map Slot.blk
theorem gO.any {K:PySem.W.Frag}{H0 H:Hp}{a:Addr}{st un:List PV} (h:gO K H0 H a st un):gO K (fun _=>none) H a st un:=by
 obtain ⟨C,dx,l1,l2,us1,us2,h1,h2,h⟩:=h
 exact⟨C,dx,l1,l2,us1,us2,h1,⟨rfl,rfl,rfl,rfl⟩,h⟩
theorem cV.any {K:PySem.W.Frag}{H0 H:Hp}{ks:List (Addr × List PV × List PV)} (h:cV K H0 H ks):cV K (fun _=>none) H ks:=⟨fun k hk=>(h.1 k hk).any,h.2⟩
theorem Slot.blk_own {m:Slot}{x:PV} (h:m.blk = .own x):False:=by
 cases m <;> cases h
theorem K9 {K:PySem.W.Frag}{H0 H1 H1' H':Hp}{W W':Addr->Prop}{v:V}{m:Slot} (r:kJ K H0 W H1 v m) (k:cU (fun _=>False) (fun _=>False) H1 H') (f:∀ b o,H1 b=some o->cE o=false->H' b=some o) (rv:aE K (fun a=>¬ W' a) H' v m.val):kJ K H1' W' H' v m.blk:=by
 cases m with
 | sh g x=>exact rv
 | own x=>exact rv
 | kp g x ks=>exact⟨⟨r.1.1.keep k,r.1.2⟩,r.2.any.keep k f⟩
def gR (D:Addr):Addr->Prop:=fun a=>a=D
theorem L0 {K:PySem.W.Frag}{H0:Hp}{W:Addr->Prop}{σ:St}{ρ:aV}{H1 H':Hp}{D:Addr}{acc:List V}{fr:List (Option Nat)} (px:PX K H0 W σ ρ H1) (hD:H1 D=none) (s:a9 H1 H') (ha:H' D=some (.lst acc)) :
  PX K H1 (gR D) (cR fr σ) (iE fr ρ) H':=by
 have old:∀ {a:Addr}{o:HO},H1 a=some o->a ≠ D:=fun {a o} e z=>by rw [z,hD] at e; cases e
 refine⟨by unfold cR iE; rw [ad1,ad1],s,fun a z=>by cases z; exact⟨hD,_,ha,rfl⟩,fun i m h=>?_,fun i j x y a h1=>?_⟩
 ·unfold iE at h
  rw [ad9] at h
  cases ef:fr[i]? with
  | none=>rw [ef] at h; cases h
  | some o=>
   rw [ef] at h
   cases o with
   | none=>cases h
   | some j=>
    have h:some ((ρ[j]?).join.map Slot.blk)=some (some m):=h
    cases er:ρ[j]? with
    | none=>rw [er] at h; cases h
    | some o=>
     rw [er] at h
     cases o with
     | none=>cases h
     | some m0=>
      cases h
      obtain ⟨v,ev,r⟩:=px.sl j m0 er
      refine⟨v,?_,?_⟩
      ·unfold cR
       rw [ad9,ef]
       show some ((σ[j]?).join)=_
       rw [ev]; rfl
      ·have r':aE K (fun _=>True) H1 v m0.val:=(sT (Hs:=H1) r).same (a9.refl _) fun _ _=>trivial
       refine K9 r (.same s fun _ z=>z) (fun _ _ e _=>s _ _ e) ?_
       exact r'.keep ⟨fun a _ _ e=>⟨old e,s _ _ e⟩,fun a _ _ e=>⟨old e,s _ _ e⟩,fun a _ _ e=>⟨old e,s _ _ e⟩,fun _ _ e=>s _ _ e,fun _ _ _ e _=>s _ _ e⟩
 ·unfold iE at h1
  rw [ad9] at h1
  cases ef:fr[i]? with
  | none=>rw [ef] at h1; cases h1
  | some o=>
   rw [ef] at h1
   cases o with
   | none=>cases h1
   | some j=>
    have h1:some ((ρ[j]?).join.map Slot.blk)=some (some (Slot.own x)):=h1
    cases er:ρ[j]? with
    | none=>rw [er] at h1; cases h1
    | some o=>
     rw [er] at h1
     cases o with
     | none=>cases h1
     | some m0=>exact (Slot.blk_own (ae6 (ae6 h1))).elim
section
variable {X : Cx} {σ : St} {H : Hp} {Q' : VK}
abbrev _root_.L2.Cx.frm (X:Cx) (H1:Hp):Cx:={ X with H₀:=H1 }
def cZ (ti:cF) (fr:List (Option Nat)) (p:fV) (tc:bN) (te:aA):aA:=fun ρ Q=>ti ρ fun xs g=>xs.length<=16000000/\∃ I:Nat->List PV->Prop,I 0 []/\
 (∀ i x acc,xs[i]? = some x->I i acc->p x false (iE fr ρ) fun ρ2=>tc ρ2 fun b=>if b=true then te ρ2 fun y gy=>Nw gy y/\I (i+1) (acc ++ [y]) else I (i+1) acc)/\∀ acc,I xs.length acc->Q (.lst acc) .fr
theorem nY {ti:cF}{fr:List (Option Nat)}{p:fV}{g:TG}{tc:bN}{te:aA}{own:Nat->Prop} (hg:jA X.K own p g) (ho:∀ i,own i->fr[i]? = some none) (h:LE X (cZ ti fr p tc te) σ H Q') :
  mV (LI X ti) fr (fun _=>g) (fun H1=>LT (X.frm H1) tc) (fun H1=>LE (X.frm H1) te) σ H Q':=by
 obtain ⟨W,ρ,Q,px,q,k⟩:=h
 refine⟨W,ρ,_,px,q,?_⟩
 rintro J H1 xs gb s it ⟨hl,I,i0,turn,fin⟩ D hD
 have px1:=px.mono s
 refine⟨fun i m acc H'=>m=xs.length - i/\i<=xs.length/\a9 H1 H'/\H' D=some (.lst acc)/\∃ ys,Reps X.K (Ms H1 (gR D) true) H' acc ys/\ys.length<=i/\I i ys,⟨xs.length,by omega,ah7 _,bI hD _,bL,[],.nil,ad6 _,i0⟩,?_⟩
 rintro i m acc H' ⟨rfl,hi,sm,ha,ys,ry,hy,iy⟩
 refine⟨ha,?_⟩
 have ev:Ev W H1 (iB W D) H':=Ev.own sm hD
 by_cases hlt:i < xs.length
 ·refine .inr ⟨it.go _ H' i ev hlt,fun v H2 y=>?_⟩
  obtain ⟨s2,x,hx,rx⟩:=it.yld _ H' i v H2 ev y hlt
  have ha2:=s2 _ _ ha
  have pxb:PX X.K H1 (gR D) (cR fr σ) (iE fr ρ) H2:=L0 px1 hD (sm.trans s2) ha2
  have rx':aE X.K (Ms H1 (gR D) false) H2 v x:=rx.same (a9.refl _) fun a z=>by
   cases gb with
   | true=>exact fun e=>z.1 (.inr e)
   | false=>exact fun e=>z (.inr e)
  refine hg H1 (gR D) _ _ H2 v x false _ _ pxb rx' (turn i x ys hx iy) fun σ2 ρ2 px2 hown hlen q2=>⟨⟨hlen.symm,fun j w e=>?_⟩,?_⟩
  ·by_cases oj:own j
   ·have:=ho j oj
    unfold cR at e
    rw [ad9,this] at e
    cases e
   ·rw [hown j oj]; exact e
  ·refine⟨gR D,ρ2,_,px2,q2,fun b H4 s4 q4=>?_⟩
   have ha4:=s4 _ _ ha2
   have sm4:=(sm.trans s2).trans s4
   cases b with
   | false=>
    refine aT ⟨xs.length - (i+1),by omega,rfl,hlt,sm4,ha4,ys,ry.same (s2.trans s4) fun _ z=>z,by omega,by simpa using q4⟩
   | true=>
    refine bU ⟨gR D,ρ2,_,px2.mono s4,by simpa using q4,?_⟩
    rintro w H5 y gy s5 ryy ⟨nw,q5⟩
    have ha5:=s5 _ _ ha4
    have lr:=ry.length
    refine⟨ha5,nC (by omega),xs.length - (i+1),by omega,rfl,hlt,fun b o e=>?_,bL,ys ++ [y],?_,by rw [af4,List.length_singleton]; omega,q5⟩
    ·rw [aR (fun z=>by rw [z,hD] at e; cases e)]
     exact s5 _ _ (sm4 _ _ e)
    ·exact ((ry.same ((s2.trans s4).trans s5) fun _ z=>z).append (.cons (Nw.rep (px2.mono s4) nw ryy) .nil)).keep (.upd ha5 rfl fun b m=>⟨m.1,m⟩)
 ·have e:i=xs.length:=by omega
  subst e
  refine .inl ⟨it.stop _ H' ev,k _ H' _ .fr (s.trans sm) (.lst (s.free hD) ha (ry.same (a9.refl _) fun _ z=>s.free z.2)) (fin ys iy)⟩
def c8:bN:=fun _ Q=>Q true
theorem L1 {Qb:Bool->Hp->Prop} (h:LT X c8 σ H Qb):rY σ H Qb:=by
 obtain ⟨W,ρ,Q,px,q,k⟩:=h
 exact k _ _ (a9.refl _) q
end
section
variable {κ : Type} [DecidableEq κ]
def nZ (ps:List (κ × PV)) (k:κ):Option PV:=(ps.find? fun p=>decide (p.1=k)).map (·.2)
def cO (ps:List (κ × PV)) (k:κ) (x:PV):List (κ × PV):=if (ps.any fun p=>decide (p.1=k))=true then ps.map (fun p=>if p.1=k then (p.1,x) else p) else ps ++ [(k,x)]
variable {K : PySem.W.Frag} {M : Addr → Prop} {H : Hp}
theorem L3 (k:κ):∀ {kvs:List (κ × V)}{ps:List (κ × PV)},kvs.map (·.1)=ps.map (·.1)->Reps K M H (kvs.map (·.2)) (ps.map (·.2))->(nZ ps k=none->e9 kvs k=none)/\∀ x,nZ ps k=some x->∃ v,e9 kvs k=some v/\aE K M H v x
 | [],[],_,_=>⟨fun _=>rfl,fun x h=>by cases h⟩
 | [],_ :: _,e,_=>by cases e
 | _ :: _,[],e,_=>by cases e
 | (k1,v) :: kvs,(k2,x) :: ps,e,r=>by
  injection e with e1 e2
  have e1:k1=k2:=e1
  subst e1
  cases r with
  | cons r t=>
   obtain ⟨h1,h2⟩:=L3 k e2 t
   unfold nZ e9 at h1 h2 ⊢
   by_cases e:k1=k
   ·simp only [List.find?_cons,e,decide_true,Option.map_some]
    exact⟨fun z=>(by cases z),fun y z=>(by cases z; exact⟨v,rfl,r⟩)⟩
   ·simp only [List.find?_cons,e,decide_false]
    exact⟨h1,h2⟩
theorem L4 (k:κ) {kvs:List (κ × V)}{ps:List (κ × PV)} (e:kvs.map (·.1)=ps.map (·.1)):(kvs.any fun p=>decide (p.1=k))=ps.any fun p=>decide (p.1=k):=by
 have h1:(kvs.any fun p=>decide (p.1=k))=(kvs.map (·.1)).any fun z=>decide (z=k):=by rw [List.any_map]; rfl
 have h2:(ps.any fun p=>decide (p.1=k))=(ps.map (·.1)).any fun z=>decide (z=k):=by rw [List.any_map]; rfl
 rw [h1,h2,e]
theorem tE (k:κ) {w:V}{y:PV} (q:aE K M H w y):∀ {kvs:List (κ × V)}{ps:List (κ × PV)},kvs.map (·.1)=ps.map (·.1)->Reps K M H (kvs.map (·.2)) (ps.map (·.2))->
  (kvs.map fun kv=>if kv.1=k then (kv.1,w) else kv).map (·.1)=(ps.map fun kv=>if kv.1=k then (kv.1,y) else kv).map (·.1)/\Reps K M H ((kvs.map fun kv=>if kv.1=k then (kv.1,w) else kv).map (·.2)) ((ps.map fun kv=>if kv.1=k then (kv.1,y) else kv).map (·.2))
 | [],[],_,_=>⟨rfl,.nil⟩
 | [],_ :: _,e,_=>by cases e
 | _ :: _,[],e,_=>by cases e
 | (k1,v) :: kvs,(k2,x) :: ps,e,r=>by
  injection e with e1 e2
  have e1:k1=k2:=e1
  subst e1
  cases r with
  | cons r t=>
   obtain ⟨h1,h2⟩:=tE k q e2 t
   by_cases e:k1=k
   ·simp only [ah0,e,if_true]
    exact⟨by rw [h1],.cons q h2⟩
   ·simp only [ah0,e,ah6]
    exact⟨by rw [h1],.cons r h2⟩
theorem L5 (k:κ) {w:V}{y:PV} (q:aE K M H w y) {kvs:List (κ × V)}{ps:List (κ × PV)} (e:kvs.map (·.1)=ps.map (·.1)) (r:Reps K M H (kvs.map (·.2)) (ps.map (·.2))) :
  (cJ kvs k w).map (·.1)=(cO ps k y).map (·.1)/\Reps K M H ((cJ kvs k w).map (·.2)) ((cO ps k y).map (·.2)):=by
 unfold cJ cO
 rw [L4 k e]
 split
 ·exact tE k q e r
 ·rw [ag5,ag5,ag5,ag5,e]
  exact⟨rfl,r.append (.cons q .nil)⟩
end
def kP:aG->PV
 | .inl i=>.int i
 | .inr x=>.str x
theorem L6 {K:PySem.W.Frag}{M:Addr->Prop}{H:Hp}{v:V}{k:aG} (r:aE K M H v (kP k)):v=kV k:=by
 cases k with
 | inl i=>cases r; rfl
 | inr x=>cases r; rfl
theorem tF {K:PySem.W.Frag}{M:Addr->Prop}{H:Hp}:∀ {ks:List aG}{us:List V},Reps K M H us (ks.map kP)->us=ks.map kV
 | [],_,.nil=>rfl
 | k :: r,_,.cons q t=>by rw [L6 q,tF t]; rfl
section
variable {X : Cx} {σ : St} {H : Hp} {D : cH} {tk td te : aA} {Q' : VK}
theorem PX.updT {K:PySem.W.Frag}{H0:Hp}{W:Addr->Prop}{σ:St}{ρ:aV}{H:Hp}{i:Nat}{a:Addr}{x:PV}{kvs:List (List aG × V)}{ps:List (List aG × PV)} (p:PX K H0 W σ ρ H) (hi:ρ[i]? = some (some (.own x))) (ha:σ[i]? = some (some (.ref a))) (wa:W a)
  (r:kvs.map (·.1)=ps.map (·.1)/\Reps K (Ms H0 W true) (upd H a (.dT kvs)) (kvs.map (·.2)) (ps.map (·.2))):PX K H0 W σ (ρ.set i (some (.own (.dT ps)))) (upd H a (.dT kvs)):=p.updOwn hi ha wa rfl (y:=.dT ps) ⟨kvs,bL,r⟩
theorem L7 {κ α β:Type}{l:List (κ × α)}{m:List (κ × β)} (e:l.map (·.1)=m.map (·.1)):l.length=m.length:=by
 have:=congrArg List.length e
 rw [ad1,ad1] at this
 exact this
def o0 (i:Nat) (tk te:aA):aQ:=fun D ρ=>te ρ fun z g=>∃ ps,ρ[i]? = some (some (.own (.dT ps)))/\tk ρ fun y _=>∃ k,y = .tup (k.map kP)/\Nw g z/\ps.length < 16000000/\D.nx (ρ.set i (some (.own (.dT (cO ps k z)))))
theorem L8 {i:Nat} (h:LS X (o0 i tk te) D σ H):rQ (iV i) (LE X tk) (LE X te) D σ H:=by
 obtain ⟨W,ρ,D',px,q,k⟩:=h
 refine⟨W,ρ,_,px,q,?_⟩
 rintro w H1 z g s rz ⟨ps,hi,q⟩
 obtain ⟨v,ev,a,rfl,wa,kvs,ea,e1,r⟩:=(px.mono s).sl i _ hi
 refine⟨_,ev,W,ρ,_,px.mono s,q,?_⟩
 rintro kv H2 y g' s2 ry ⟨kk,rfl,nw,hl,q⟩
 obtain ⟨b,us,rfl,hb,rb⟩:=ry.sqT
 obtain rfl:=tF rb
 have ea2:=s2 _ _ ea
 refine⟨a,_,rfl,j0.t ea2 hb (nC (by rw [L7 e1]; omega)),?_⟩
 refine k.nx W σ _ _ ((Ev.same (s.trans s2)).trans (Ev.upd wa)) ((px.mono (s.trans s2)).updT hi ev wa ?_) q
 obtain ⟨h1,h2⟩:=L5 kk ((Nw.rep px nw rz).same s2 fun _ z=>z) e1 (r.same s2 fun _ z=>z)
 exact⟨h1,h2.keep (.upd ea2 rfl fun b m=>⟨nM wa m,m⟩)⟩
theorem L9 (h:LE X (qC (.dT [])) σ H Q'):rR σ H Q':=by
 obtain ⟨W,ρ,Q,px,q,k⟩:=h
 exact fun p hp=>k _ _ _ .fr (bI hp _) (.dT hp bL rfl .nil) q
end
def tG:PV->Option String
 | .non=>some "NoneType"
 | .bl _=>some "bool"
 | .int _=>some "int"
 | .str _=>some "str"
 | .tup _=>some "tuple"
 | .kt _=>some "tuple"
 | .lst _=>some "list"
 | _=>none
def dY (K:PySem.W.Frag) (n:String) (te:aA):aA:=fun ρ Q=>te ρ fun x _=>∃ T b,tG x=some T/\PySem.W.kitOne K (.type T) (.type n)=some b/\Q (.bl b) .fr
abbrev fW:=aV->(Option Int->Prop)->Prop
def fD (xs:List PV) (lo hi:Option Int):List PV:=(xs.drop (HT.aJ xs.length 0 lo)).take (HT.aJ xs.length xs.length hi - HT.aJ xs.length 0 lo)
def M0:PV->List PV->PV
 | .tup _,ys=>.tup ys
 | .kt _,ys=>.tup ys
 | _,ys=>.lst ys
def jB:fW:=fun _ Q=>Q none
def jC (te:aA):fW:=fun ρ Q=>te ρ fun x _=>∃ i,x = .int i/\Q (some i)
def kT (te:aA) (tl th:fW):aA:=fun ρ Q=>te ρ fun x _=>tl ρ fun lo=>th ρ fun hi=>∃ xs,nP x=some xs/\flats xs=true/\Q (M0 x (fD xs lo hi)) .fr
def dG (N:List Str) (xs:List PV):aV:=xs.map (fun x=>some (.sh (flat x) x)) ++ List.replicate (N.length - xs.length) none
abbrev gS (ta tb:aA):aA:=q2 (cW fun i j=>.int (i+j)) ta tb
abbrev tH (ta tb:aA):aA:=q2 (cW fun i j=>.int (i - j)) ta tb
abbrev iF (ta tb:aA):aA:=q2 (RI iZ fun i j=>.int (i * j)) ta tb
abbrev cB (ta tb:aA):aA:=q2 (RI mC fun i j=>.int (i / j)) ta tb
abbrev bP (ta tb:aA):aA:=q2 (RI (fun _ j=>0 < j) fun i j=>.int (i % j)) ta tb
abbrev kU (ta tb:aA):aA:=q2 (cW fun i j=>.bl (decide (i < j))) ta tb
abbrev iG (ta tb:aA):aA:=q2 (cW fun i j=>.bl (decide (j < i))) ta tb
abbrev M1 (ta tb:aA):aA:=q2 (cW fun i j=>.bl (decide (j<=i))) ta tb
abbrev kW (ta tb:aA):aA:=q2 (iA false) ta tb
abbrev gT (ta tb:aA):aA:=q2 (iA true) ta tb
abbrev bJ (ta tb:aA):aA:=q2 nO ta tb
def fE:List PV->(PV->Prop)->Prop:=fun xs Q=>t6 xs Q/\∀ ns,xs ≠ [.scr ns]
def fX:aQ:=fun _ _=>False
def QE (X:Cx) (e:Expr) (t:aA):Prop:=PE X e (LE X t)
def QT (X:Cx) (e:Expr) (t:bN):Prop:=PT X e (LT X t)
def QW (X:Cx) (e:Expr) (t:bN):Prop:=PW X e (LT X t)
def QA (X:Cx) (es:List Expr) (t:bV):Prop:=PA X es (LA X t)
def QS (X:Cx) (st:Stmt) (t:aQ):Prop:=PS X st (LS X t)
def dZ (X:Cx) (st:List Stmt) (t:aQ):Prop:=cC X st (LS X t)
def QI (X:Cx) (tg iter:Expr) (t:cF):Prop:=PI X tg iter (LI X t)
section
variable {X : Cx}
theorem bE {e:Expr}{t t':TE} (h:PE X e t) (m:∀ σ H Q,t' σ H Q->t σ H Q):PE X e t':=fun pins s σ H Q I q=>h pins s σ H Q I (m σ H Q q)
theorem kX {e:Expr}{t t':TT} (h:PT X e t) (m:∀ σ H Q,t' σ H Q->t σ H Q):PT X e t':=fun pins s σ H Q I q=>h pins s σ H Q I (m σ H Q q)
theorem tI {e:Expr}{t t':TT} (h:PW X e t) (m:∀ σ H Q,t' σ H Q->t σ H Q):PW X e t':=fun wh pins s σ H Q I q=>h wh pins s σ H Q I (m σ H Q q)
theorem tJ {e:List Expr}{t t':TA} (h:PA X e t) (m:∀ σ H Q,t' σ H Q->t σ H Q):PA X e t':=fun pos pins s σ H Q I q=>h pos pins s σ H Q I (m σ H Q q)
theorem eI {e:Stmt}{t t':TS} (h:PS X e t) (m:∀ D σ H,t' D σ H->t D σ H):PS X e t':=fun pins s σ H D I q=>h pins s σ H D I (m D σ H q)
theorem tK {e:List Stmt}{t t':TS} (h:cC X e t) (m:∀ D σ H,t' D σ H->t D σ H):cC X e t':=fun pins s σ H D I q=>h pins s σ H D I (m D σ H q)
theorem jD {tg e:Expr}{t t':TI} (h:PI X tg e t) (m:∀ σ H R,t' σ H R->t σ H R):PI X tg e t':=fun pins s σ H R I q=>h pins s σ H R I (m σ H R q)
variable {a b c e o : Expr} {es bS : List Expr} {ta tb te to tk : aA} {tr : bV} {tA tB' tc : bN} {pos p2 px : Pos} {st : Stmt} {sts : List Stmt} {t u : aQ}
theorem qv (i:Nat) {x:Str}{pos:Pos} (hN:X.N[i]? = some x:=by rfl) (hv:gH X.env.scope x:=by first | exact Or.inl rfl | exact Or.inr (Or.inl rfl) | exact Or.inr (Or.inr rfl)) (hd:(x == ("__debug__" : Str))=false:=by decide)
  (hcd:(x == ("__classdict__" : Str))=false:=by decide):QE X (.Name x pos) (a6 i):=bE (jR hN hv hd hcd) fun _ _ _=>F4
theorem aC {i j}:QE X (.Constant (.int i) j pos) (qC (.int i)):=bE wH fun _ _ _=>j3 fun _=>.int i
theorem e6 {i j}:QE X (.Constant (.bool i) j pos) (qC (.bl i)):=bE wI fun _ _ _=>j3 fun _=>.bl i
theorem dH {i j}:QE X (.Constant (.str i) j pos) (qC (.str i)):=bE wJ fun _ _ _=>j3 fun _=>.str i
theorem iH {op:Operator}{R:PV->Tg->PV->Tg->PK->Prop}{r:R2} (ho:bM X (binaryOp op) r) (cv:c7 X R r) (ha:QE X a ta) (hb:QE X b tb):QE X (.BinOp a op b pos) (q2 R ta tb):=bE (xG ho ha hb) fun _ _ _=>j4 cv
theorem gU (ha:QE X a ta) (hb:QE X b tb):QE X (.BinOp a .Add b pos) (q2 (cW fun i j=>.int (i+j)) ta tb):=iH xH sU ha hb
theorem tL (ha:QE X a ta) (hb:QE X b tb):QE X (.BinOp a .Sub b pos) (q2 (cW fun i j=>.int (i - j)) ta tb):=iH xI sU ha hb
theorem iI (ha:QE X a ta) (hb:QE X b tb):QE X (.BinOp a .Mult b pos) (q2 (RI iZ fun i j=>.int (i * j)) ta tb):=iH xJ nI ha hb
theorem cP (ha:QE X a ta) (hb:QE X b tb):QE X (.BinOp a .FloorDiv b pos) (q2 (RI mC fun i j=>.int (i / j)) ta tb):=iH xK nI ha hb
theorem bQ (ha:QE X a ta) (hb:QE X b tb):QE X (.BinOp a .Mod b pos) (q2 (RI (fun _ j=>0 < j) fun i j=>.int (i % j)) ta tb):=iH xL nI ha hb
theorem tM {op:CmpOp}{R:PV->Tg->PV->Tg->PK->Prop}{r:R2} (ho:bM X (compareOp op) r) (cv:c7 X R r) (ha:QE X a ta) (hb:QE X b tb) (hm:behindInMarks op b=false):QE X (.Compare a [op] [b] pos) (q2 R ta tb):=bE (xP ho ha hb hm) fun _ _ _=>j4 cv
theorem gV {op:CmpOp}{R:PV->Tg->PV->Tg->PK->Prop}{r:R2} (ho:bM X (compareOp op) r) (cv:c7 X R r) (ha:QE X a ta) (hb:QE X b tb) (hm:behindInMarks op b=false):QT X (.Compare a [op] [b] pos) (aS (q2 R ta tb)):=kX (xR ho ha hb hm) fun _ _ _ h=>j4 cv (sX h)
theorem kY (ha:QE X a ta) (hb:QE X b tb):QT X (.Compare a [.Lt] [b] pos) (aS (q2 (cW fun i j=>.bl (decide (i < j))) ta tb)):=gV qI kM ha hb (fN _)
theorem iJ (ha:QE X a ta) (hb:QE X b tb):QT X (.Compare a [.Gt] [b] pos) (aS (q2 (cW fun i j=>.bl (decide (j < i))) ta tb)):=gV xM kM ha hb (fN _)
theorem M2 (ha:QE X a ta) (hb:QE X b tb):QT X (.Compare a [.GtE] [b] pos) (aS (q2 (cW fun i j=>.bl (decide (j<=i))) ta tb)):=gV xN kM ha hb (fN _)
theorem kZ (ha:QE X a ta) (hb:QE X b tb):QT X (.Compare a [.Eq] [b] pos) (aS (q2 (iA false) ta tb)):=gV qG F5 ha hb (fN _)
theorem gW (ha:QE X a ta) (hb:QE X b tb):QT X (.Compare a [.NotEq] [b] pos) (aS (q2 (iA true) ta tb)):=gV qH F6 ha hb (fN _)
theorem fF (h:QE X e te) (he:∀ whole,isTrue e X.env whole=(do let v <- whole; standAt e.pos; holding [v] (truthy v)):=by intro _; rfl):QT X e (aS te):=kX (wL h he) fun _ _ _ h=>sX h
theorem M3 (h:QE X e te) (he:∀ whole,isTrue e X.env whole=(do let v <- whole; standAt e.pos; holding [v] (truthy v)):=by intro _; rfl):QT X e (nT te):=kX (xU h he) fun _ _ _ h=>K3 h
theorem o4 (ha:QT X a tA):QW X (.BoolOp .And [a] pos) tA:=wM ha
theorem iK (ha:QT X a tA):QW X (.BoolOp .Or [a] pos) tA:=wN ha
theorem o5 (ha:QT X a tA) (hb:QW X (.BoolOp .And (b :: bS) pos) tB'):QW X (.BoolOp .And (a :: b :: bS) pos) (j5 tA tB'):=tI (wO ha hb) fun _ _ _=>F7
theorem gX (ha:QT X a tA) (hb:QW X (.BoolOp .Or (b :: bS) pos) tB'):QW X (.BoolOp .Or (a :: b :: bS) pos) (fB tA tB'):=tI (wP ha hb) fun _ _ _=>F8
theorem fG (h:QW X e tA):QT X e tA:=PW.pt h
theorem eJ (ha:QT X a tA):QT X (.UnaryOp .Not a pos) (dF tA):=kX (wQ ha) fun _ _ _=>F9
theorem M4 {op} (h:QE X a ta):QE X (.BoolOp op [a] pos) ta:=wR h
theorem M5 (ha:QE X a ta) (hb:QE X (.BoolOp .And (b :: bS) pos) tb):QE X (.BoolOp .And (a :: b :: bS) pos) (nJ ta tb):=bE (wS ha hb) fun _ _ _=>G0
theorem M6 (ha:QE X a ta):QE X (.UnaryOp .Not a pos) (nK ta):=bE (wT ha) fun _ _ _=>G1
theorem aD:QA X [] aB:=tJ i7 fun _ _ _=>G2
theorem a8 (ha:QE X e te) (hr:QA X es tr) (hs:starEach (e :: es) X.env=(false,eval e X.env) :: starEach es X.env:=by rfl):QA X (e :: es) (a7 te tr):=tJ (eS ha hr hs) fun _ _ _=>G3
theorem fY {x1} (h:QA X es tr):QE X (.Tuple es x1 pos) (eC tr):=bE (y8 h) fun _ _ _=>G4
theorem fZ (h:QA X es tr):QE X (.List es pos) (eD tr):=bE (y9 h) fun _ _ _=>G5
theorem bK (ha:QE X a ta) (hb:QE X b tb) (hs:mM b:=by exact fun _ _=>rfl):QE X (.Subscript a b pos) (q2 nO ta tb):=bE (qZ zB ha hb hs) fun _ _ _=>j4 J5
theorem M7:QE X (.Dict [] [] pos) (qC (.dT [])):=bE zT fun _ _ _=>L9
theorem iL {x:Str}{id:String}{R:List PV->(PV->Prop)->Prop}{r:List V->Hp->VK->Prop} (hc:bW X (.builtin id) r) (cv:cX X R r) (hg:Gl X x) (hm:X.mg x=none) (hv:bootBuiltins x=some (.builtin id)) (ha:QA X (e :: es) tr) (hn:x ≠ "__name__":=by decide) (hdb:(x == ("__debug__" : Str))=false:=by decide)
  (he:starEach (e :: es) X.env=(false,eval e X.env) :: starEach es X.env:=by rfl) (hpl:(backTo pos (starEach es X.env)).any (·.1)=false:=by rfl):QE X (.Call (.Name x p2) (e :: es) [] pos) (aF R tr):=bE (qS hc hg hm hv ha hn hdb he hpl) fun _ _ _=>sY cv
theorem l3 {x:Str}{T:String}{R:List PV->(PV->Prop)->Prop}{r:List V->Hp->VK->Prop} (hc:bW X (.type T) r) (cv:cX X R r) (hg:Gl X x) (hm:X.mg x=none) (hv:bootBuiltins x=some (.type T)) (ha:QA X (e :: es) tr) (hn:x ≠ "__name__":=by decide) (hdb:(x == ("__debug__" : Str))=false:=by decide)
  (he:starEach (e :: es) X.env=(false,eval e X.env) :: starEach es X.env:=by rfl) (hpl:(backTo pos (starEach es X.env)).any (·.1)=false:=by rfl):QE X (.Call (.Name x p2) (e :: es) [] pos) (aF R tr):=bE (yE hc hg hm hv ha hn hdb he hpl) fun _ _ _=>sY cv
theorem bF:dZ X [] bC:=tK wV fun _ _ _=>G6
theorem aL (h1:QS X st t) (h2:dZ X sts u):dZ X (st :: sts) (aK t u):=tK (wW h1 h2) fun _ _ _=>G7
theorem aN (h1:QS X st t):dZ X [st] t:=wX h1
theorem gY:QS X st fX:=eI x4 fun _ _ _ ⟨_,_,_,_,h,_⟩=>h
theorem bR {i:Nat}{x:Str} (hN:X.N.Nodup) (he:QE X e te) (hi:X.N[i]? = some x:=by rfl) (hx:gI X.env.scope x:=by first | exact Or.inl rfl | exact Or.inr rfl) (hs:swapsWith e (some (.Name x p2)) pos.line X.env=pure false:=by rfl) (hf:X.fn x=true ∨ X.env.scope.names.lookup x=some .local:=by first | exact .inl rfl | exact .inr rfl) :
  QS X (.Assign [.Name x p2] e pos) (b9 i te):=eI (pT hN hi hx he hs hf) fun _ _ _=>t4
theorem iM {i:Nat}{x:Str} (hN:X.N.Nodup) (he:QE X e te) (hi:X.N[i]? = some x:=by rfl) (hx:gI X.env.scope x:=by first | exact Or.inl rfl | exact Or.inr rfl) (hs:swapsWith e (some (.Name x p2)) pos.line X.env=pure false:=by rfl) (hf:X.fn x=true ∨ X.env.scope.names.lookup x=some .local:=by first | exact .inl rfl | exact .inr rfl) :
  QS X (.Assign [.Name x p2] e pos) (fS i te):=eI (pT hN hi hx he hs hf) fun _ _ _=>J0
theorem b0 (he:QE X e te):QS X (.Return (some e) pos) (aX te):=eI (pQ he) fun _ _ _=>J1
theorem M8 (i:Nat) {x:Str} (hN:X.N[i]? = some x:=by rfl) (hv:gH X.env.scope x:=by first | exact Or.inl rfl | exact Or.inr (Or.inl rfl) | exact Or.inr (Or.inr rfl)) (hd:(x == ("__debug__" : Str))=false:=by decide) (hcd:(x == ("__classdict__" : Str))=false:=by decide) :
  QS X (.Return (some (.Name x p2)) pos) (nN i):=eI (pQ (jR hN hv hd hcd)) fun _ _ _=>J2
theorem bG {sa sb:List Stmt} (hc:QT X c tc) (ha:dZ X sa t) (hb:dZ X sb u):QS X (.If c sa sb pos) (bD tc t u):=eI (wZ hc ha hb) fun _ _ _=>J3
theorem jE (i:Nat) {x:Str}{apos cpos xpos:Pos} (he:QE X e te) (hN:X.N[i]? = some x:=by rfl) (hv:gH X.env.scope x:=by first | exact Or.inl rfl | exact Or.inr (Or.inl rfl) | exact Or.inr (Or.inr rfl)) (hd:(x == ("__debug__" : Str))=false:=by decide) (hcd:(x == ("__classdict__" : Str))=false:=by decide)
  (hbase:attributeBase (.Name x xpos) "append" X.env (eval (.Name x xpos) X.env)=eval (.Name x xpos) X.env:=by rfl)
  (hfew:((backTo cpos (starEach [e] X.env)).all (fun x=>!x.1) && (backToKw cpos (keywordEach [] X.env)).all (fun x=>x.1.isSome) && decide (([e]:List Expr).length+([]:List Keyword).length+(if ([]:List Keyword).isEmpty then 0 else 1) < 30))=true:=by rfl)
  (hline:(apos.endLine == cpos.line)=true:=by rfl) (hs:starEach [e] X.env=(false,eval e X.env) :: starEach [] X.env:=by rfl) (hplain:(backTo cpos (starEach [] X.env)).any (·.1)=false:=by rfl)
  (hsw:swapsWith (.Call (.Attribute (.Name x xpos) "append" apos) [e] [] cpos) none pos.line X.env=pure false:=by rfl) :
  QS X (.Expr (.Call (.Attribute (.Name x xpos) "append" apos) [e] [] cpos) pos) (gQ i te):=
 eI (wY (mP PySem.F.plainAttrs_list PySem.F.slot_list_append PySem.F.type_list_append rE (jR hN hv hd hcd) (eS he i7 hs) hbase hfew hline hs hplain) hsw) fun _ _ _=>J4
theorem M9 {i:Nat}{x:Str}{xpos tpos:Pos} (hu:X.A.units+1 < cLine) (hk:QE X a tk) (he:QE X e te) (hN:X.N[i]? = some x:=by rfl) (hv:gH X.env.scope x:=by first | exact Or.inl rfl | exact Or.inr (Or.inl rfl) | exact Or.inr (Or.inr rfl)) (hd:(x == ("__debug__" : Str))=false:=by decide) (hcd:(x == ("__classdict__" : Str))=false:=by decide)
  (hs:swapsWith e (some (.Subscript (.Name x xpos) a tpos)) pos.line X.env=pure false:=by rfl):QS X (.Assign [.Subscript (.Name x xpos) a tpos] e pos) (o0 i tk te):=eI (zR hu (jR hN hv hd hcd) hk he hs) fun _ _ _=>L8
theorem N0 {tg l:Expr}{tl:TE} (hl:PE X l tl):PI X tg l (t7 X.K tl):=by
 intro pins s σ H R I h
 refine aI (hl pins s σ H _ I h) fun v s1 ⟨x,H1,I1,r1,q1⟩=>?_
 obtain ⟨a,e,q⟩:=q1
 subst e
 cases r1
 rcases q with ⟨xs,hq,q⟩ | ⟨xs,hq,q⟩
 ·obtain ⟨its,rv,p,hz⟩:=I1.list hq
  refine wpAny_pyIter_list p.isList ?_
  refine⟨s1.heap.objs.size,[s1.heap.objs.size],_,_,H1,rfl,I1.kept (t':=s1.toks) fun b o e=>ad0 _ e,x8 a _,⟨_,ae1 _ rfl,rfl,rfl⟩,fun b hb=>?_,q⟩
  have e:b=s1.heap.objs.size:=by simpa using hb
  subst e
  exact I1.fpOk (ad6 _) (I1.hok.fresh (ad6 _))
 ·obtain ⟨its,rv,p,hz⟩:=I1.tuple hq
  refine wpAny_pyIter_tuple (show s1.heap.IsTuple a its.toArray from p) ?_
  refine⟨s1.heap.objs.size,[s1.heap.objs.size],_,_,H1,rfl,I1.kept (t':=s1.toks) fun b o e=>ad0 _ e,x9 a _,⟨_,ae1 _ rfl,rfl,rfl⟩,fun b hb=>?_,q⟩
  have e:b=s1.heap.objs.size:=by simpa using hb
  subst e
  exact I1.fpOk (ad6 _) (I1.hok.fresh (ad6 _))
theorem g6 {tg l:Expr} (hl:QE X l te):QI X tg l (eG te):=jD (N0 hl) fun _ _ _=>K4
theorem iN {tg:Expr} (hg:Gl X "range") (hm:X.mg "range" = none) (ha:QE X a ta) (hs:starEach [a] X.env = [(false,eval a X.env)]:=by rfl):QI X tg (.Call (.Name "range" p2) [a] [] pos) (fU ta):=jD (xB hg hm (eS ha i7 hs) hs) fun _ _ _=>K5
theorem tN {tg:Expr} (hg:Gl X "range") (hm:X.mg "range" = none) (ha:QE X a ta) (hb:QE X b tb) (hs:starEach [a,b] X.env = [(false,eval a X.env),(false,eval b X.env)]:=by rfl) (hs2:starEach [b] X.env = [(false,eval b X.env)]:=by rfl) :
  QI X tg (.Call (.Name "range" p2) [a,b] [] pos) (kR ta tb):=jD (xC hg hm (eS ha (eS hb i7 hs2) (by rw [hs,hs2])) hs hs2) fun _ _ _=>K6
theorem N1 {tg:Expr}{body:List Stmt}{ti:cF}{p:fV}{g:TG}{own:Nat->Prop} (hp:PassesOwn (model X.prog X.w) X.A X.env X.xe) (hc:X.calm=true) (hi:QI X tg e ti) (hg:PG X tg g) (ht:jA X.K own p g) (hb:dZ X body t)
  (hs:∀ x,foldedSetIterable e X.env x=pure x:=by intro _; rfl):QS X (.For tg e body [] pos) (cY ti p t):=eI (xE hp hc hi hg hb hs) fun _ _ _=>K8 ht
end
structure Bt (mg:Str->Option Value):Prop where
 len:mg "len" = none
 range:mg "range" = none
 tuple:mg "tuple" = none
 list:mg "list" = none
 sorted:mg "sorted" = none
 all:mg "all" = none
 any:mg "any" = none
 zip:mg "zip" = none
 min:mg "min" = none
 max:mg "max" = none
 sum:mg "sum" = none
 isinst:mg "isinstance" = none
 int:mg "int" = none
 bool:mg "bool" = none
 enum:mg "enumerate" = none
section
variable {X : Cx} {a b c e o : Expr} {es bS : List Expr} {ta tb te to tk : aA} {tr : bV} {tA tB' tc : bN} {pos p2 px : Pos} {st : Stmt} {sts : List Stmt} {t u : aQ}
theorem dI (B:Bt X.mg) (ha:QA X [e] tr) (hg:Gl X "len":=by rfl) (he:starEach [e] X.env=(false,eval e X.env) :: starEach [] X.env:=by rfl) (hpl:(backTo pos (starEach [] X.env)).any (·.1)=false:=by rfl):QE X (.Call (.Name "len" p2) [e] [] pos) (aF cN tr):=
 iL (zG.or A1) J6 hg B.len PySem.boot_len ha (he:=he) (hpl:=hpl)
theorem g9 (B:Bt X.mg) (ha:QA X [e] tr) (hg:Gl X "tuple":=by rfl) (he:starEach [e] X.env=(false,eval e X.env) :: starEach [] X.env:=by rfl) (hpl:(backTo pos (starEach [] X.env)).any (·.1)=false:=by rfl):QE X (.Call (.Name "tuple" p2) [e] [] pos) (aF fE tr):=
 l3 zI J7 hg B.tuple PyProof.Rows.boot_tuple ha (he:=he) (hpl:=hpl)
theorem tO (B:Bt X.mg) (hc:X.calm=true) (ha:QA X [e] tr) (hg:Gl X "all":=by rfl) (he:starEach [e] X.env=(false,eval e X.env) :: starEach [] X.env:=by rfl) (hpl:(backTo pos (starEach [] X.env)).any (·.1)=false:=by rfl):QE X (.Call (.Name "all" p2) [e] [] pos) (aF j7 tr):=
 iL (E5 hc) J8 hg B.all PyProof.Rows.boot_all ha (he:=he) (hpl:=hpl)
theorem N3 (B:Bt X.mg) (hc:X.calm=true) (ha:QA X [a,b] tr) (hg:Gl X "min":=by rfl) (he:starEach [a,b] X.env=(false,eval a X.env) :: starEach [b] X.env:=by rfl) (hpl:(backTo pos (starEach [b] X.env)).any (·.1)=false:=by rfl):QE X (.Call (.Name "min" p2) [a,b] [] pos) (aF nQ tr):=
 iL (xX hc) J9 hg B.min PyProof.Rows.boot_min ha (he:=he) (hpl:=hpl)
theorem N4 (B:Bt X.mg) (hc:X.calm=true) (ha:QA X [a,b] tr) (hg:Gl X "max":=by rfl) (he:starEach [a,b] X.env=(false,eval a X.env) :: starEach [b] X.env:=by rfl) (hpl:(backTo pos (starEach [b] X.env)).any (·.1)=false:=by rfl):QE X (.Call (.Name "max" p2) [a,b] [] pos) (aF nR tr):=
 iL (xW hc) K0 hg B.max PyProof.Rows.boot_max ha (he:=he) (hpl:=hpl)
def tP (K:PySem.W.Frag) (H:Hp) (x:V) (t:Value):Prop:=cI K H x t ∨ ∃ a us,x = .ref a/\aO K H a us/\t = .type "tuple"
theorem N5:bW X (.builtin "isinstance") (fun xs H Q=>∃ x t n b,xs = [x,.ty n]/\tP X.K H x t/\PySem.W.kitOne X.K t (.type n)=some b/\Q (.bl b) H):=by
 intro pins s σ H xs us Q I r h
 obtain ⟨x,t,n,b,rfl,ty,e,q⟩:=h
 rcases ty with ty | ⟨a,ws,rfl,hs,rfl⟩
 ·exact C4 pins s σ H _ us Q I r ⟨x,t,n,b,rfl,ty,e,q⟩
 obtain ⟨u,u',rfl,ru,ru'⟩:=jZ r
 cases ru'
 cases (show u=Value.ref a from ru)
 obtain ⟨its,_,⟨o,h1,h2,_⟩,_⟩:=I.tuple hs
 exact ag9 PySem.W.kitx_tuple I.kIn ⟨o,h1,h2⟩ e (fun z=>nomatch z) fun tk=>⟨.bl b,H,I.tok tk,rfl,q⟩
theorem N6 {K:PySem.W.Frag}{M:Addr->Prop}{H:Hp}{v:V}{x:PV}{T:String} (r:aE K M H v x) (e:tG x=some T):tP K H v (.type T):=by
 cases r with
 | non=>cases e; exact .inl .non
 | bl b=>cases e; exact .inl (.bl b)
 | int i=>cases e; exact .inl (.int i)
 | str i=>cases e; exact .inl (.str i)
 | tup h _=>cases e; exact .inl (.tup h)
 | lst _ h _=>cases e; exact .inl (.lst h)
 | kt h _=>cases e; exact .inr ⟨_,_,rfl,.inr h,rfl⟩
 | _=>cases e
theorem l4 {x:Str}{n:String} (B:Bt X.mg) (hn:bootBuiltins x=some (.type n)) (hm:X.mg x=none) (ha:QE X a ta) (hg:Gl X "isinstance":=by rfl) (hgx:Gl X x:=by rfl) (hx:x ≠ "__name__":=by decide) (hdx:(x == ("__debug__" : Str))=false:=by decide)
  (he:starEach [a,.Name x px] X.env=(false,eval a X.env) :: starEach [.Name x px] X.env:=by rfl) (he2:starEach [.Name x px] X.env=(false,eval (.Name x px) X.env) :: starEach [] X.env:=by rfl) (hpl:(backTo pos (starEach [.Name x px] X.env)).any (·.1)=false:=by rfl):QE X (.Call (.Name "isinstance" p2) [a,.Name x px] [] pos) (dY X.K n ta):=
 bE (qS N5 hg B.isinst PyProof.Rows.boot_isinstance (eS ha (eS (wK (v:=.ty n) hgx hm hn rfl hx hdx) i7 he2) he) (he:=he) (hpl:=hpl)) fun σ H Q' h=>by
  obtain ⟨W,ρ,Q,px,q,k⟩:=h
  refine⟨W,ρ,_,px,q,?_⟩
  rintro v H1 x g s r ⟨T,b,e,kt,q⟩
  exact⟨v,_,n,b,rfl,N6 r e,kt,k _ _ _ .fr s (.bl _) q⟩
theorem N7 (B:Bt X.mg) (ha:QE X a ta) (hg:Gl X "isinstance":=by rfl) (hgx:Gl X "int":=by rfl)
  (he:starEach [a,.Name "int" px] X.env=(false,eval a X.env) :: starEach [.Name "int" px] X.env:=by rfl) (he2:starEach [.Name "int" px] X.env=(false,eval (.Name "int" px) X.env) :: starEach [] X.env:=by rfl) (hpl:(backTo pos (starEach [.Name "int" px] X.env)).any (·.1)=false:=by rfl):QE X (.Call (.Name "isinstance" p2) [a,.Name "int" px] [] pos) (dY X.K "int" ta):=l4 B PyProof.Rows.boot_int B.int ha (hg:=hg) (hgx:=hgx) (he:=he) (he2:=he2) (hpl:=hpl)
theorem N8 (B:Bt X.mg) (ha:QE X a ta) (hg:Gl X "isinstance":=by rfl) (hgx:Gl X "bool":=by rfl)
  (he:starEach [a,.Name "bool" px] X.env=(false,eval a X.env) :: starEach [.Name "bool" px] X.env:=by rfl) (he2:starEach [.Name "bool" px] X.env=(false,eval (.Name "bool" px) X.env) :: starEach [] X.env:=by rfl) (hpl:(backTo pos (starEach [.Name "bool" px] X.env)).any (·.1)=false:=by rfl):QE X (.Call (.Name "isinstance" p2) [a,.Name "bool" px] [] pos) (dY X.K "bool" ta):=l4 B PyProof.Rows.boot_bool B.bool ha (hg:=hg) (hgx:=hgx) (he:=he) (he2:=he2) (hpl:=hpl)
theorem o6 (B:Bt X.mg) (ha:QE X a ta) (hg:Gl X "isinstance":=by rfl) (hgx:Gl X "tuple":=by rfl)
  (he:starEach [a,.Name "tuple" px] X.env=(false,eval a X.env) :: starEach [.Name "tuple" px] X.env:=by rfl) (he2:starEach [.Name "tuple" px] X.env=(false,eval (.Name "tuple" px) X.env) :: starEach [] X.env:=by rfl) (hpl:(backTo pos (starEach [.Name "tuple" px] X.env)).any (·.1)=false:=by rfl):QE X (.Call (.Name "isinstance" p2) [a,.Name "tuple" px] [] pos) (dY X.K "tuple" ta):=l4 B PyProof.Rows.boot_tuple B.tuple ha (hg:=hg) (hgx:=hgx) (he:=he) (he2:=he2) (hpl:=hpl)
end
end PP
namespace PP
open PySem L2 PyProof.Rows
def LO (X:Cx) (t:fW):TO:=fun σ H Q'=>∃ (W:Addr->Prop) (ρ:aV) (Q:Option Int->Prop),PX X.K X.H₀ W σ ρ H/\t ρ Q/\∀ o H',a9 H H'->Q o->Q' o H'
def QO (X:Cx) (e:Option Expr) (t:fW):Prop:=PO X e (LO X t)
theorem Reps.cut {K:PySem.W.Frag}{M:Addr->Prop}{H:Hp}{us:List V}{xs:List PV} (r:Reps K M H us xs) (lo hi:Option Int):Reps K M H (dR us lo hi) (fD xs lo hi):=by
 unfold dR fD
 rw [r.length]
 exact (r.drop _).take _
section
variable {X : Cx} {a b c e o : Expr} {es bS : List Expr} {ta tb te to tk : aA} {tr : bV} {tA tB' tc : bN} {pos p2 px : Pos} {st : Stmt} {sts : List Stmt} {t u : aQ}
theorem o7:QO X none jB:=fun pins s σ H Q I h=>yT pins s σ H Q I (by
 obtain ⟨W,ρ,Q1,px,q,k⟩:=h
 exact k _ _ (a9.refl _) q)
theorem o8 (h:QE X e te):QO X (some e) (jC te):=fun pins s σ H Q I hq=>yU h pins s σ H Q I (by
 obtain ⟨W,ρ,Q1,px,q,k⟩:=hq
 refine⟨W,ρ,_,px,q,?_⟩
 rintro v H1 x g s r ⟨i,rfl,q⟩
 cases r
 exact⟨i,rfl,k _ _ s q⟩)
theorem tQ {lo hi:Option Expr}{tl th:fW}{sp:Pos} (he:QE X e te) (hl:QO X lo tl) (hh:QO X hi th):QE X (.Subscript e (.Slice lo hi none sp) pos) (kT te tl th):=bE (qX (zF.or E8) he hl hh) fun σ H Q' h=>by
 obtain ⟨W,ρ,Q,px,q,k⟩:=h
 refine⟨W,ρ,_,px,q,fun v H1 x g s1 r1 q1=>⟨W,ρ,_,px.mono s1,q1,fun lo H2 s2 q2=>⟨W,ρ,_,px.mono (s1.trans s2),q2,?_⟩⟩⟩
 rintro hi H3 s3 ⟨xs,e,f,q3⟩
 have S:=(s1.trans s2).trans s3
 have r3:=r1.same (M':=Mg X.H₀ W H g) (s2.trans s3) fun _ z=>z
 cases r3 with
 | tup h r=>
  cases e
  refine .inr ⟨_,_,rfl,aO.of h,fun p hp=>k _ _ _ .fr (S.trans (bI hp _)) (.tup bL (((r.flat f).cut lo hi).same (bI hp _) fun _ z=>z)) q3,fun ec=>k _ _ _ .fr S (.tup h ?_) q3⟩
  have:=(r.flat (M':=Mg X.H₀ W H .fr) f).cut lo hi
  rw [ec] at this
  exact this
 | lst m h r=>
  cases e
  exact .inl ⟨_,_,rfl,aM.of h,fun p hp=>k _ _ _ .fr (S.trans (bI hp _)) (.lst (S.free hp) bL (((r.flat f).cut lo hi).same (bI hp _) fun _ z=>z)) q3⟩
 | scr h=>
  cases e
  exact .inl ⟨_,_,rfl,h.sqL,fun p hp=>k _ _ _ .fr (S.trans (bI hp _)) (.lst (S.free hp) bL (((Reps.intz _).cut lo hi).same (bI hp _) fun _ z=>z)) q3⟩
 | fL h r=>
  cases e
  exact .inl ⟨_,_,rfl,.inl (.inr ⟨_,h⟩),fun p hp=>k _ _ _ .fr (S.trans (bI hp _)) (.lst (S.free hp) bL (((r.flat f).cut lo hi).same (bI hp _) fun _ z=>z)) q3⟩
 | _=>cases e
structure Df (P:Program) (w:World) (K:PySem.W.Frag) (mg:Str->Option Value) (base:Heap) (k:Nat) (x:Str) (ps:List Str) (p:bA):Prop where
 ex:∃ f fd,cA P w K mg base cK k f fd ps (j8 K p)/\i8 K fd ps []/\PySem.W.keepIn K (.ref f)=true/\mg x=some (.ref f)
theorem bB {k j:Nat}{x:Str}{ps:List Str}{p:bA} (d:Df X.prog X.w X.K X.mg X.base k x ps p) (hr:bT j X.A) (ha:QA X (e :: es) tr) (hkj:k<=j:=by decide) (hg:Gl X x:=by rfl) (hdb:(x == ("__debug__" : Str))=false:=by decide)
  (he:starEach (e :: es) X.env=(false,eval e X.env) :: starEach es X.env:=by rfl) (hpl:(backTo pos (starEach es X.env)).any (·.1)=false:=by rfl):QE X (.Call (.Name x p2) (e :: es) [] pos) (aF p tr):=by
 obtain ⟨f,fd,F,b,kp,m⟩:=d.ex
 exact bE (yB F (hr.mono hkj) hg m kp b .nil zY ha hdb he hpl) fun _ _ _=>K1
theorem tR {K:PySem.W.Frag}{H:Hp}{N:List Str}{vs:List V}{xs:List PV} (r:Reps K (fun _=>True) H vs xs):PX K H (fun _=>False) (L2.dQ N vs) (dG N xs) H:=by
 have lr:=r.length
 have own:∀ {i:Nat}{m:Slot},(dG N xs)[i]? = some (some m)->∃ x,xs[i]? = some x/\m = .sh (flat x) x:=fun {i m} h=>by
  unfold dG at h
  by_cases hi:i < xs.length
  ·rw [List.getElem?_append_left (by simpa using hi),ad9] at h
   rw [ae8 hi] at h ⊢
   cases h
   exact⟨_,rfl,rfl⟩
  ·rw [List.getElem?_append_right (by simpa using hi),List.getElem?_replicate] at h
   split at h <;> cases h
 refine⟨by unfold L2.dQ dG; simp [lr],a9.refl _,fun a z=>z.elim,fun i m h=>?_,fun i j x y a h1=>?_⟩
 ·obtain ⟨x,hx,rfl⟩:=own h
  obtain ⟨v,hv,rx⟩:=r.at hx
  refine⟨v,?_,kS (g:=false) (rx.same (a9.refl _) fun _ _ z=>z)⟩
  have hi:i < vs.length:=(ae7.mp hv).1
  unfold L2.dQ
  rw [List.getElem?_append_left (by simpa using hi),ad9,hv]; rfl
 ·obtain ⟨x,_,e⟩:=own h1
  cases e
theorem Df.of {P:Program}{w:World}{K:PySem.W.Frag}{mg:Str->Option Value}{base:Heap}{k:Nat}{x:Str}{ps N:List Str}{p:bA}{st:Stmt}{f:Addr}{fd:FuncData} (F:eB K x x st f fd) (m:mg x=some (.ref f)) (S:FnScope N ps (aU st))
  (hb:∀ (kV doc pm:Value) (an:Option Addr) (cdv ct:Value) (us:List Value),us.length=ps.length->bindArgs (PySem.W.fnOf x x (fQ st) (dC st) (aU st) .none kV doc pm an cdv ct) ⟨us,[]⟩=pure (ps.zip us))
  (len:∀ xs Q,p xs Q->xs.length=ps.length)
  (body:∀ (cdv:Value) (A:Around) (outer:List Env) (s:Shared) (H:Hp) (E:XK),bT k (A.deeper (envOfC x (aU st) s.heap.objs.size f cdv))->
   ∃ t,dZ (eU cK P w K mg base N x (aU st) f cdv A outer s H E).nox (dC st) t/\∀ xs Q,p xs Q->t { nx:=fun _=>Q .non,rt:=Q } (dG N xs)):Df P w K mg base (k+1) x ps p:=by
 refine⟨f,fd,F.ok S (fun vs H Q E h=>?_) (fun cdv A outer s H vs Q E hr h=>?_),F.binds hb,F.kp,m⟩
 ·obtain ⟨xs,Qp,r,q,_⟩:=h
  rw [r.length]; exact len xs Qp q
 ·obtain ⟨xs,Qp,r,q,k⟩:=h
  obtain ⟨t,ht,hq⟩:=body cdv A outer s H E hr
  refine⟨_,ht,fun _=>False,dG N xs,_,tR r,hq xs Qp q,?_,?_,?_,?_⟩
  ·exact fun W' σ' H' ρ' e px q=>k _ _ _ px.same .non q
  ·exact fun v H' x s r q=>k _ _ _ s r q
  ·exact fun W' σ' H' ρ' e px q=>q
  ·exact fun W' σ' H' ρ' e px q=>q
theorem eL (i:Nat) {x:Str}{tp:Pos}{body:List Stmt}{ti:cF} (hN:X.N.Nodup) (hi:QI X (.Name x tp) e ti) (hb:dZ X body t) (hx:X.N[i]? = some x:=by rfl) (hl:gI X.env.scope x:=by first | exact Or.inl rfl | exact Or.inr rfl) (hf:X.fn x=true ∨ X.env.scope.names.lookup x=some .local:=by first | exact .inl rfl | exact .inr rfl)
  (hp:PassesOwn (model X.prog X.w) X.A X.env X.xe:=by exact PassesOwn.never) (hc:X.calm=true:=by rfl) (hs:∀ x,foldedSetIterable e X.env x=pure x:=by intro _; rfl):QS X (.For (.Name x tp) e body [] pos) (cY ti (bO i) t):=
 N1 hp hc hi (jT hN hx hl hf) (nX _ i) hb hs
abbrev bY:Value->Shared->Prop:=fun _ _=>False
section
variable {scope : Scope} {N : List Str} {fr : List (Option Nat)} {x y : Str} {tp xp yp : Pos} {kt : Nat} {iter elt : Expr} {ti : cF}
theorem tS {ifs:List Expr}{tcs:bN} (he:∀ (s:Shared) (H:Hp) (C:Addr) (fp:List Addr),QE (bH X scope N s H C fp bY) elt te) (hi:∀ (s:Shared) (H:Hp) (C:Addr) (fp:List Addr),i9 (bH X scope N s H C fp bY) ifs (LT (bH X scope N s H C fp bY) tcs))
  (hN:N.Nodup) (h0:N[0]? = some x) (hl:∀ (s:Shared) (H:Hp) (C:Addr) (fp:List Addr),(bH X scope N s H C fp bY).env.scope.names.lookup x=some .local) (s:Shared) (H:Hp) :
  j1 X scope N (.Name x tp) ifs elt s H (cD 0) (LT (X.frm H) tcs) (LE (X.frm H) te):=
 ⟨fun C fp=>jT (X:=bH X scope N s H C fp bY) hN h0 (.inl (hl s H C fp)) (.inr (hl s H C fp)),fun C fp=>hi s H C fp,fun C fp=>he s H C fp⟩
theorem o9 {Y:Cx}:i9 Y [] (LT Y c8):=fun pins s σ H Q I h=>A4 pins s σ H Q I (L1 h)
theorem l5 (hi:QI X (.Name x tp) iter ti) (he:∀ (s:Shared) (H:Hp) (C:Addr) (fp:List Addr),QE (bH X scope N s H C fp bY) elt te)
  (hc:X.calm=true:=by rfl) (S:cL X scope N fr:=by exact cL.of rfl rfl) (hN:N.Nodup:=by decide +kernel) (h0:N[0]? = some x:=by rfl) (hl:∀ (s:Shared) (H:Hp) (C:Addr) (fp:List Addr),(bH X scope N s H C fp bY).env.scope.names.lookup x=some .local:=by intro _ _ _ _; rfl) (hf:fr[0]? = some none:=by rfl)
  (hs:∀ x,foldedSetIterable iter X.env x=pure x:=by intro _; rfl):QE X (.ListComp elt [⟨.Name x tp,iter,[],0⟩] scope pos) (cZ ti fr (bO 0) c8 te):=
 bE (sB (gh:=fun _=>cD 0) (tch:=fun H=>LT (X.frm H) c8) (teh:=fun H=>LE (X.frm H) te) hc S hi (tS he (fun _ _ _ _=>o9) hN h0 hl) hs) fun _ _ _=>nY (nX _ 0) (fun i e=>by subst e; exact hf)
theorem N9 {i:Nat}{z:Str}{zp:Pos} (nd:X.N.Nodup) (hi:QI X (.Name x tp) iter ti) (he:∀ (s:Shared) (H:Hp) (C:Addr) (fp:List Addr),QE (bH X scope N s H C fp bY) elt te)
  (hz:X.N[i]? = some z:=by rfl) (hzl:X.env.scope.names.lookup z=some .local:=by rfl) (hsw:swapsWith (.ListComp elt [⟨.Name x tp,iter,[],0⟩] scope p2) (some (.Name z zp)) pos.line X.env=pure true:=by rfl)
  (hc:X.calm=true:=by rfl) (S:cL X scope N fr:=by exact cL.of rfl rfl) (hN:N.Nodup:=by decide +kernel) (h0:N[0]? = some x:=by rfl) (hl:∀ (s:Shared) (H:Hp) (C:Addr) (fp:List Addr),(bH X scope N s H C fp bY).env.scope.names.lookup x=some .local:=by intro _ _ _ _; rfl) (hf:fr[0]? = some none:=by rfl)
  (hs:∀ x,foldedSetIterable iter X.env x=pure x:=by intro _; rfl):QS X (.Assign [.Name z zp] (.ListComp elt [⟨.Name x tp,iter,[],0⟩] scope p2) pos) (b9 i (cZ ti fr (bO 0) c8 te)):=
 eI (A8 (gh:=fun _=>cD 0) (tch:=fun H=>LT (X.frm H) c8) (teh:=fun H=>LE (X.frm H) te) hc S hi (tS he (fun _ _ _ _=>o9) hN h0 hl) nd hz hzl hsw hs) fun D σ H h=>nY (nX _ 0) (fun i e=>by subst e; exact hf) (t4 h)
end
end
end PP
namespace SO
open PySem PyProof.Rows
variable {rk : Keyed → Int}
abbrev LS:=Option (Array Keyed) × Array Keyed × Nat × Nat × Nat × Nat × Nat
abbrev LO:=Option (Array Keyed) × Array Keyed × Nat × Nat × Nat
variable {rk : Keyed → Int} {xs ys o : List Keyed} {i j : Nat}
variable {rk : Keyed → Int} {xs ys o : List Keyed} {i j : Nat}
variable {rk : Keyed → Int}
def Ch:Nat->List (Nat × Nat)->Nat->Prop
 | a,[],b=>a=b
 | a,(p,n) :: r,b=>p=a/\0 < n/\Ch (a+n) r b
variable {rk : Keyed → Int} {κ : SortKind} {a0 : Array Keyed} {pd : Array (Nat × Nat × Nat)} {st : SortSt} {prog : Program} {w : World} {A : Around} {E : Value → Shared → Prop} {s : Shared} {Ok : Keyed → Prop}
abbrev RS:=Option Unit × Nat
def O0 (sz pw:Nat):StateT SortSt Sem (Option Unit × Unit):=forIn [0:sz] ((none,()):Option Unit × Unit) fun _ _=>do
 let z <- get
 match (if (pendingOf z).size > 1 then (pendingOf z)[(pendingOf z).size - 2]? else none) with
 | some (_,_,o)=>if o<=pw then pure (.done (none,())) else do
   let q <- mergeAt' ((pendingOf z).size - 2)
   if (!q)=true then pure (.done (some (),())) else pure (.yield (none,()))
 | _=>pure (.done (none,()))
def jn (sz lo n:Nat):StateT SortSt Sem (ForInStep RS):=do
 let z <- get
 match (pendingOf z).back? with
 | some (s1,n1,_)=>do
  let r <- O0 sz (power' sz (2 * s1+n1) (2 * s1+n1+n1+n) sz)
  match r.1 with
  | some u=>pure (.done (some u,lo))
  | none=>do
   modify fun s=>setPending s ((pendingOf s).modify ((pendingOf s).size - 1) fun x=>(x.1,x.2.1,power' sz (2 * s1+n1) (2 * s1+n1+n1+n) sz))
   modify fun s=>setPending s ((pendingOf s).push (lo,n,0))
   pure (.yield (none,lo+n))
 | _=>do
  modify fun s=>setPending s ((pendingOf s).push (lo,n,0))
  pure (.yield (none,lo+n))
end SO
namespace L2
open PySem PySem.Spec PyProof.Rows
section
variable {X : Cx} {pins : List (Addr × Obj)} {σ : St} {H H1 H' : Hp} {s s1 s' : Shared} {B h2 : Heap} {a C : Addr}
abbrev Cx.suite (X:Cx) (a:Addr):Cx:={ X with A:=X.A.mark (some (.ref a)),calm:=false,xe:=fun _ _=>False }
end
abbrev TB:=cH->XK->St->Hp->Prop
end L2
namespace Core
open PySem L2 PP
def O1 (ns:List Int):Bool:=((ns.zip (ns.drop 1)).map fun p=>decide (p.1 < p.2)).all id
theorem l6 {α β:Type}{l:List α}{f:α->β}{i:Nat}{x:α} (h:l[i]? = some x):(l.take (i+1)).map f=(l.take i).map f ++ [f x]:=by
 rw [aj7,h]; simp
def kin (ws:List Int) (ls:List (Int × Int)) (S:List Int) (h:Int):Bool:=!decide (h ∈ S) && decide (ws.getD h.toNat 0<=(((sO ls h).filter fun x=>decide (x ∈ S)).length:Int))
def nextOf (ws:List Int) (ls:List (Int × Int)) (S:List Int):List Int:=((List.range ws.length).map fun (i:Nat)=>(i:Int)).filter (kin ws ls S)
def jF (ws:List Int) (ls:List (Int × Int)) (S:List Int):Nat->List Int
 | 0=>S
 | k+1=>jF ws ls S k ++ nextOf ws ls (jF ws ls S k)
theorem O2 {ws:List Int}{ls:List (Int × Int)}{S:List Int}{x:Int} (h:kin ws ls S x=true):decide (x ∈ S)=false:=by
 unfold kin at h
 cases e:decide (x ∈ S) with
 | false=>rfl
 | true=>rw [e] at h; cases h
def after (ws:List Int) (ls:List (Int × Int)) (S:List Int) (m:Nat):List (List Int):=(List.range m).map fun k=>nextOf ws ls (jF ws ls S k)
def cH (ws:List Int) (ls:List (Int × Int)) (ns:List Int) (m:Nat):Prop:=(∀ k < m,nextOf ws ls (jF ws ls ns k) ≠ [])/\nextOf ws ls (jF ws ls ns m) = []
theorem oA {ns:List Int}{i:Nat}{x:PV} (h:(intz ns)[i]? = some x):∃ n,x = .int n/\ns[i]? = some n:=by
 rw [ad9] at h
 cases e:ns[i]? with
 | none=>rw [e] at h; cases h
 | some n=>rw [e] at h; exact⟨n,(ae6 h).symm,rfl⟩
theorem gA {lo:Int}{n i:Nat}{x:PV} (h:(fC lo n)[i]? = some x):x = .int (lo+i)/\i < n:=by
 have hi:i < n:=by
  have:=(ae7.mp h).1
  rwa [dX] at this
 rw [t9 hi] at h
 exact⟨(ae6 h).symm,hi⟩
def rng (n:Nat):List Int:=(List.range n).map fun (i:Nat)=>(i:Int)
theorem l7 (a b:List Int):intz (a ++ b)=intz a ++ intz b:=ag5
theorem bZ (a:List Int):(intz a).length=a.length:=ad1 _
def e7 (ws:List Int) (ls:List (Int × Int)):PV:=.tup [.tup (intz ws),.tup (ls.map fun l=>.tup [.int l.1,.int l.2])]
def gZ (x:PV) (ns:List Int):Prop:=x = .tup (intz ns) ∨ x = .lst (intz ns)
theorem gZ.seq {x:PV}{ns:List Int} (h:gZ x ns):gP x=some (intz ns):=by rcases h with rfl | rfl <;> rfl
theorem fH:∀ (ls:List (Int × Int)),flats (ls.map fun l=>PV.tup [.int l.1,.int l.2])=true
 | []=>rfl
 | l :: r=>by
  show (flat (.tup [.int l.1,.int l.2]) && flats (r.map fun l=>PV.tup [.int l.1,.int l.2]))=true
  rw [fH r]; rfl
theorem tT (ws:List Int) (ls:List (Int × Int)):flat (e7 ws ls)=true:=by
 show flats [.tup (intz ws),.tup (ls.map fun l=>PV.tup [.int l.1,.int l.2])]=true
 show (flat (.tup (intz ws)) && (flat (.tup (ls.map fun l=>PV.tup [.int l.1,.int l.2])) && true))=true
 show (flats (intz ws) && (flats (ls.map fun l=>PV.tup [.int l.1,.int l.2]) && true))=true
 rw [dS,fH]; rfl
theorem tU (ns:List Int):flat (.tup (intz ns))=true:=dS ns
abbrev bX (t:aQ) (N:List Str) (p:bA):Prop:=∀ xs Q,p xs Q->t { nx:=fun _=>Q .non,rt:=Q } (dG N xs)
def O3 (n:Nat) (x:Int):Bool:=decide (0<=x) && decide (x < (n:Int))
section
variable {κ : Type} [DecidableEq κ]
theorem O4 (kvs:List (κ × PV)) (k:κ) (v:PV):(cO kvs k v).length<=kvs.length+1:=by
 unfold cO
 split
 ·rw [ad1]; omega
 ·rw [af4,ag6,List.length_nil]; omega
end
theorem tV:∀ (xs:List PV),flats xs=true ↔ ∀ x ∈ xs,flat x=true
 | []=>by simp [flats]
 | x :: r=>by
  unfold flats
  rw [aj2,tV r]; simp
theorem O5 {κ:Type} [DecidableEq κ] {ps:List (κ × PV)}{k:κ}{v:PV}{p:κ × PV} (h:p ∈ cO ps k v):p.2=v ∨ p ∈ ps:=by
 unfold cO at h
 split at h
 ·obtain ⟨q,hq,e⟩:=ag8.mp h
  split at e
  ·subst e; exact .inl rfl
  ·subst e; exact .inr hq
 ·rcases ag4.mp h with h | h
  ·exact .inr h
  ·rw [ae4.mp h]; exact .inl rfl
theorem O6 {κ:Type} [DecidableEq κ] {ps:List (κ × PV)}{k:κ}{v:PV} (h:flats (ps.map (·.2))=true) (hv:flat v=true):flats ((cO ps k v).map (·.2))=true:=by
 rw [tV] at h ⊢
 intro x hx
 obtain ⟨p,hp,rfl⟩:=ag8.mp hx
 rcases O5 hp with e | e
 ·rw [e]; exact hv
 ·exact h _ (ag8.mpr ⟨p,e,rfl⟩)
theorem O7 {ws:List Int}{h:Int} (h0:0<=h) (h1:h < (ws.length:Int)):atI (intz ws) h=some (.int (ws.getD h.toNat 0)):=by
 refine sP h0 ?_
 have:h.toNat < ws.length:=by omega
 rw [ad9,ah8,ae8 this]; rfl
def tups (rs:List (List Int)):List PV:=rs.map fun r=>PV.tup (intz r)
end Core
namespace PP
open PySem L2
def oB:List PV->(PV->Prop)->Prop:=fun xs Q=>∃ ys:List (List Int),xs = [.lst (ys.map fun r=>PV.tup (intz r))]/\ys.length < 64/\(∀ y ∈ ys,y ≠ [])/\∀ zs:List (List Int),zs.Perm ys->zs.Pairwise (fun u v=>HT.b4 v u=false)->Q (.lst (zs.map fun r=>PV.tup (intz r)))
def oC:List PV->(PV->Prop)->Prop:=fun xs Q=>∃ ps:List (List aG × PV),xs = [.dT ps]/\Q (.lst (ps.map fun p=>PV.tup (p.1.map kP)))
end PP
namespace Core
open PySem L2 PP
theorem tW (g:Tg) (n:Int):Nw g (.int n):=by cases g <;> first | exact trivial | rfl
def fI (x:PV) (ns:List Int):Prop:=x = .scr ns ∨ x = .lst (intz ns)
theorem fI.seq {x:PV}{ns:List Int} (h:fI x ns):gP x=some (intz ns):=by rcases h with rfl | rfl <;> rfl
theorem fI.len {x:PV}{ns:List Int} (h:fI x ns):kQ x=some ns.length:=by
 rcases h with rfl | rfl
 ·rfl
 ·show some (intz ns).length=_
  rw [bZ]
def fJ:bA:=fun xs Q=>∃ x ns k,xs = [x,.int k]/\fI x ns/\0<=k/\Q (.int (ns.getD k.toNat 0))
def tX:aQ:=(aK (bD (aS (kU (a6 1) (aF cN (a7 (a6 0) aB)))) (aX (bJ (a6 0) (a6 1))) bC)
 (aX (qC (.int 0))))
theorem O8:bX tX ["script","k"] fJ:=by
 rintro xs Q ⟨x,ns,k,rfl,hx,h0,q⟩
 refine⟨_,rfl,_,rfl,_,_,rfl,hx.len,_,_,rfl,rfl,_,rfl,?_⟩
 by_cases h:k < (ns.length:Int)
 ·rw [af0 h]
  exact bU ⟨_,rfl,_,rfl,_,_,_,hx.seq,rfl,O7 h0 h,tW _ _,q⟩
 ·rw [ad7 h]
  rw [ah8,List.getElem?_eq_none (by omega)] at q
  exact aT ⟨trivial,q⟩
def aY (ls:List (Int × Int)):List PV:=ls.map fun l=>PV.tup [.int l.1,.int l.2]
theorem l8 (ls:List (Int × Int)):(aY ls).length=ls.length:=ad1 _
def dA (l m:Int × Int):Prop:=l.1 < m.1 ∨ (l.1=m.1/\l.2 < m.2)
structure dJ (n:Int) (ls:List (Int × Int)) (a b:Int):Prop where
 inn:∀ l ∈ ls,0<=l.1/\l.1 < l.2/\l.2 < n
 ord:ls.Pairwise dA
 low:∀ l ∈ ls,dA l (a,b)
theorem dJ.mono {n a b a' b':Int}{ls:List (Int × Int)} (h:dJ n ls a b) (m:a < a' ∨ (a=a'/\b<=b')):dJ n ls a' b':=
 ⟨h.inn,h.ord,fun l hl=>by have:=h.low l hl; unfold dA at *; dsimp only at *; omega⟩
theorem dJ.add {n a b:Int}{ls:List (Int × Int)} (h:dJ n ls a b) (h0:0<=a/\a < b/\b < n):dJ n (ls ++ [(a,b)]) a (b+1):=by
 refine⟨fun l hl=>?_,?_,fun l hl=>?_⟩
 ·rcases ag4.mp hl with hl | hl
  ·exact h.inn l hl
  ·rw [ae4.mp hl]; exact h0
 ·exact List.pairwise_append.mpr ⟨h.ord,List.pairwise_singleton _ _,fun l hl m hm=>by rw [ae4.mp hm]; exact h.low l hl⟩
 ·rcases ag4.mp hl with hl | hl
  ·have:=h.low l hl; unfold dA at *; dsimp only at *; omega
  ·rw [ae4.mp hl]; unfold dA; dsimp only; omega
def O9:aQ:=(aK (fS 4 (eD aB))
 (aK (cY (fU (a6 2)) (bO 5)
  (aK (gQ 4 (bP (a6 0) (a6 3)))
  (b9 0 (cB (a6 0) (a6 3)))))
 (aK (fS 6 (eD aB))
 (aK (cY (fU (a6 2)) (bO 7)
  (cY (kR (gS (a6 7) (qC (.int 1))) (a6 2)) (bO 8)
   (aK (bD (aS (kW (bP (a6 1) (qC (.int 2))) (qC (.int 1)))) (gQ 6 (eC (a7 (a6 7) (a7 (a6 8) aB)))) bC)
   (b9 1 (cB (a6 1) (qC (.int 2)))))))
 (aX (eC (a7 (aF fE (a7 (a6 4) aB)) (a7 (aF fE (a7 (a6 6) aB)) aB))))))))
abbrev si (n:Int):Option Slot:=some (.sh true (.int n))
def l9:bA:=fun xs Q=>∃ i,xs = [.int i]/\Q (.bl true)
def tY (K:PySem.W.Frag):aQ:=(aX (nJ (dY K "int" (a6 0)) (nK (dY K "bool" (a6 0)))))
def jG:bA:=fun xs Q=>∃ y ns ms,xs = [.tup (intz ns),y]/\gZ y ms/\ns.length<=1000/\ms.length<=1000/\Q (.bl (decide (ns=ms)))
def tZ (K:PySem.W.Frag):aQ:=(aK (bD (fB (dF (aS (dY K "tuple" (a6 0)))) (aS (gT (aF cN (a7 (a6 0) aB)) (aF cN (a7 (a6 1) aB))))) (aX (qC (.bl false))) bC)
 (aK (cY (fU (aF cN (a7 (a6 1) aB))) (bO 2)
  (bD (fB (dF (aS (aF l9 (a7 (bJ (a6 0) (a6 2)) aB)))) (aS (gT (bJ (a6 0) (a6 2)) (bJ (a6 1) (a6 2))))) (aX (qC (.bl false))) bC))
 (aX (qC (.bl true)))))
theorem gZ.len {x:PV}{ns:List Int} (h:gZ x ns):kQ x=some ns.length:=by
 rcases h with rfl | rfl <;> (show some (intz ns).length=_; rw [bZ])
theorem P0 {K:PySem.W.Frag} (kt:PySem.W.kitOne K (.type "tuple") (.type "tuple")=some true):bX (tZ K) ["found","due","k"] jG:=by
 rintro xs Q ⟨y,ns,ms,rfl,hy,hn,hm,q⟩
 refine⟨_,rfl,_,_,rfl,kt,_,rfl,aT ⟨_,rfl,_,_,rfl,rfl,_,rfl,_,_,rfl,hy.len,.inl ⟨_,_,rfl,rfl,_,rfl,?_⟩⟩⟩
 rw [bZ]
 by_cases hl:ns.length=ms.length
 ·show if (!decide ((ns.length:Int)=(ms.length:Int)))=true then _ else _
  rw [af0 (by omega)]
  refine aT ⟨_,rfl,_,_,rfl,hy.len,_,rfl,by omega,by omega,fun i ρ=>∃ z,ρ = [some (.sh true (.tup (intz ns))),some (.sh (flat y) y),z]/\ns.take i=ms.take i,⟨none,?_,rfl⟩,?_,?_⟩
  ·show dG _ _=_
   unfold dG
   show [some (Slot.sh (flat (.tup (intz ns))) (.tup (intz ns))),_,_]=_
   rw [tU]
  ·rintro i z ρ hz ⟨z0,rfl,e⟩
   obtain ⟨rfl,hi⟩:=gA hz
   have i1:i < ms.length:=by simpa using hi
   have i2:i < ns.length:=by omega
   have e0:(0:Int)+(i:Int)=(i:Int):=by omega
   have a1:atI (intz ns) ((0:Int)+(i:Int))=some (.int ns[i]):=by rw [e0]; exact k7 (by rw [ad9,ae8 i2]; rfl)
   have a2:atI (intz ms) ((0:Int)+(i:Int))=some (.int ms[i]):=by rw [e0]; exact k7 (by rw [ad9,ae8 i1]; rfl)
   refine⟨_,rfl,_,rfl,_,_,_,rfl,rfl,a1,_,rfl,_,rfl,aT ⟨_,rfl,_,rfl,_,_,_,rfl,rfl,a1,_,rfl,_,rfl,_,_,_,hy.seq,rfl,a2,.inl ⟨_,_,rfl,rfl,_,rfl,?_⟩⟩⟩
   by_cases h:ns[i]=ms[i]
   ·show if (!decide (ns[i]=ms[i]))=true then _ else _
    rw [af0 h]
    refine aT ⟨_,rfl,?_⟩
    rw [aj7,aj7,e,ae8 i1,ae8 i2,h]
   ·show if (!decide (ns[i]=ms[i]))=true then _ else _
    rw [ad7 h]
    refine bU ⟨trivial,?_⟩
    rw [ad7 (fun z=>h (by subst z; rfl))] at q
    exact q
  ·rintro ρ ⟨z,rfl,e⟩
   rw [dX] at e
   have:ns=ms:=by
    have h1:ns.take ((ms.length:Int).toNat)=ns:=ak1 (by omega)
    have h2:ms.take ((ms.length:Int).toNat)=ms:=ak1 (by omega)
    rw [h1,h2] at e; exact e
   rw [af0 this] at q
   exact⟨trivial,q⟩
 ·show if (!decide ((ns.length:Int)=(ms.length:Int)))=true then _ else _
  rw [ad7 (by omega)]
  refine bU ⟨trivial,?_⟩
  rw [ad7 (fun z=>hl (by rw [z]))] at q
  exact q
theorem P3 {K:PySem.W.Frag} (k1:PySem.W.kitOne K (.type "int") (.type "int")=some true) (k2:PySem.W.kitOne K (.type "int") (.type "bool")=some false):bX (tY K) ["found"] l9:=by
 rintro xs Q ⟨i,rfl,q⟩
 exact⟨_,rfl,_,_,rfl,k1,_,rfl,bU ⟨_,rfl,_,_,rfl,k2,_,rfl,trivial,q⟩⟩
theorem u3 {ls:List (Int × Int)}{i:Nat}{x:PV} (h:(aY ls)[i]? = some x):∃ l,x = .tup [.int l.1,.int l.2]/\ls[i]? = some l:=by
 unfold aY at h
 rw [ad9] at h
 cases e:ls[i]? with
 | none=>rw [e] at h; cases h
 | some n=>rw [e] at h; exact⟨n,(ae6 h).symm,rfl⟩
end Core
namespace PP
open PySem L2 PyProof.Rows
section
variable {X : Cx} {a b e : Expr} {ta tb te : aA} {tr : bV} {pos p2 p3 pos2 : Pos}
theorem P4:cX X oC (fun xs H Q=>∃ a kvs,xs = [.ref a]/\H a=some (.dT kvs)/\∀ l ys,H l=none->Paired (kH H) ys (kvs.map (·.1))->Q (.ref l) (upd H l (.lst ys))):=by
 rintro H vs xs Q Q' r ⟨ps,rfl,q⟩ k
 obtain ⟨v,rfl,r1⟩:=r.one
 cases r1 with
 | @dT a kvs _ m h e r2=>
  refine⟨a,kvs,rfl,h,fun l ys hl pr=>k _ _ _ (bI hl _) (.lst hl bL ?_) q⟩
  have kv:∀ (k:List aG),Reps X.K (fun a=>H a=none) H (k.map kV) (k.map kP):=fun k=>by
   induction k with
   | nil=>exact .nil
   | cons a r ih=>exact .cons (by cases a <;> constructor) ih
  have go:∀ {ys:List V}{ks:List (List aG)},Paired (kH H) ys ks->Reps X.K (fun a=>H a=none) H ys (ks.map fun k=>PV.tup (k.map kP)):=fun {ys ks} pr=>by
   induction pr with
   | nil=>exact .nil
   | cons h t ih=>
    obtain ⟨q,rfl,hq⟩:=h
    exact .cons (.tup hq (kv _)) ih
  have e2:(ps.map fun p=>PV.tup (p.1.map kP))=(kvs.map (·.1)).map fun k=>PV.tup (k.map kP):=by rw [e,List.map_map]; rfl
  rw [e2]
  exact (go pr).same (bI hl _) fun _ z=>z
theorem P5 (B:Bt X.mg) (hc:X.calm=true) (ha:QA X [e] tr) (hg:Gl X "list":=by rfl) (he:starEach [e] X.env=(false,eval e X.env) :: starEach [] X.env:=by rfl) (hpl:(backTo pos (starEach [] X.env)).any (·.1)=false:=by rfl):QE X (.Call (.Name "list" p2) [e] [] pos) (aF oC tr):=
 l3 (C3 hc) P4 hg B.list PyProof.Rows.boot_list ha (he:=he) (hpl:=hpl)
def oD:V->Int
 | .int i=>i
 | _=>0
def hB (H:Hp):V->List Int
 | .ref a=>match H a with
  | some (.tup us)=>us.map oD
  | _=>[]
 | _=>[]
theorem P6 {H:Hp}{a:Addr}{ns:List Int} (h:H a=some (.tup (ns.map V.int))):hB H (.ref a)=ns:=by
 show (match H a with | some (.tup us)=>us.map oD | _=>[])=ns
 rw [h]
 show (ns.map V.int).map oD=ns
 rw [List.map_map]
 exact List.map_id _
theorem u4 {K:PySem.W.Frag}{M:Addr->Prop}{H:Hp}:∀ {us:List V}{ys:List (List Int)},Reps K M H us (ys.map fun r=>PV.tup (intz r))->us.map (hB H)=ys/\∀ u ∈ us,∃ b,u = .ref b/\H b=some (.tup ((hB H u).map V.int))
 | _,[],.nil=>⟨rfl,fun u h=>nomatch h⟩
 | _,y :: ys,.cons r t=>by
  obtain ⟨a,us,rfl,h,r1⟩:=r.sqT
  obtain rfl:=r1.ofInts
  obtain ⟨h1,h2⟩:=u4 t
  have hk:=P6 h
  refine⟨by rw [ah0,h1,hk],fun u hu=>?_⟩
  rcases ae0.mp hu with rfl | hu
  ·exact⟨a,rfl,by rw [hk]; exact h⟩
  ·exact h2 u hu
theorem u5 {K:PySem.W.Frag}{M:Addr->Prop}{H:Hp}:∀ {us:List V},(∀ u ∈ us,∃ b,u = .ref b/\H b=some (.tup ((hB H u).map V.int)))->Reps K M H us ((us.map (hB H)).map fun r=>PV.tup (intz r))
 | [],_=>.nil
 | u :: us,h=>by
  obtain ⟨b,rfl,hb⟩:=h u ad2
  exact .cons (.tup hb (Reps.intz _)) (u5 fun v hv=>h v (ad5 _ hv))
theorem P7:cX X oB (sM X.K):=by
 rintro H vs xs Q Q' r ⟨ys,rfl,hl,hne,q⟩ k
 obtain ⟨v,rfl,r1⟩:=r.one
 obtain ⟨a,us,rfl,_,h,r2⟩:=r1.sqL
 obtain ⟨h1,h2⟩:=u4 r2
 have lr:=r2.length
 rw [ad1] at lr
 refine⟨a,us,hB H,rfl,aM.of h,by omega,fun y hy=>?_,fun l zs hl' pm so=>?_⟩
 ·obtain ⟨b,rfl,hb⟩:=h2 y hy
  refine⟨b,rfl,aO.of hb,hne _ ?_⟩
  rw [<- h1]; exact ag8.mpr ⟨_,hy,rfl⟩
 ·have hz:∀ u ∈ zs,∃ b,u = .ref b/\H b=some (.tup ((hB H u).map V.int)):=fun u hu=>h2 u (pm.mem_iff.mp hu)
  refine k _ _ _ (bI hl' _) (.lst hl' bL ((u5 hz).same (bI hl' _) fun _ z=>z)) (q _ ?_ ?_)
  ·rw [<- h1]; exact pm.map _
  ·rw [List.pairwise_map]; exact so
theorem P8 (B:Bt X.mg) (ha:QA X [e] tr) (hg:Gl X "sorted":=by rfl) (he:starEach [e] X.env=(false,eval e X.env) :: starEach [] X.env:=by rfl) (hpl:(backTo pos (starEach [] X.env)).any (·.1)=false:=by rfl):QE X (.Call (.Name "sorted" p2) [e] [] pos) (aF oB tr):=
 iL B7 P7 hg B.sorted PyProof.Rows.boot_sorted ha (he:=he) (hpl:=hpl)
end
end PP
namespace Core
open PySem L2 PP
def two (l:Int × Int):List Int:=[l.1,l.2]
def jH (r:List Int):Int × Int:=(r.getD 0 0,r.getD 1 0)
theorem u6 (ls:List (Int × Int)):aY ls=(ls.map two).map fun r=>PV.tup (intz r):=by
 unfold aY
 rw [List.map_map]; rfl
theorem P9 {zs:List (List Int)}{ls:List (Int × Int)} (h:zs.Perm (ls.map two)):∃ ls':List (Int × Int),zs=ls'.map two/\ls'.Perm ls:=by
 refine⟨zs.map jH,?_,?_⟩
 ·rw [List.map_map]
  have:∀ z ∈ zs,(two ∘ jH) z=z:=fun z hz=>by
   obtain ⟨l,_,rfl⟩:=ag8.mp (h.mem_iff.mp hz)
   rfl
  rw [List.map_congr_left this,List.map_id']
 ·have:=h.map jH
  rw [List.map_map] at this
  have e:ls.map (jH ∘ two)=ls:=by
   have:∀ l ∈ ls,(jH ∘ two) l=id l:=fun l _=>rfl
   rw [List.map_congr_left this,List.map_id]
  rw [e] at this
  exact this
theorem Q0 {ls:List (Int × Int)} (so:(ls.map two).Pairwise fun u v=>HT.b4 v u=false) (nd:ls.Nodup):ls.Pairwise dA:=by
 rw [List.pairwise_map] at so
 refine (List.pairwise_and_iff.mpr ⟨so,nd⟩).imp fun {a b} h=>?_
 obtain ⟨h1,h2⟩:=h
 unfold two at h1
 rw [HT.fP] at h1
 unfold dA
 by_cases e:b.1=a.1
 ·rw [if_pos e,HT.fP] at h1
  by_cases e2:b.2=a.2
  ·exact absurd (Prod.ext e.symm e2.symm) h2
  ·rw [if_neg e2] at h1
   have:=of_decide_eq_false h1
   omega
 ·rw [if_neg e] at h1
  have:=of_decide_eq_false h1
  omega
theorem u7 (ws:List Int) (ls:List (Int × Int)):flats [.tup (intz ws),.tup (aY ls)]=true:=tT ws ls
def u8:aQ:=(aK (fS 3 (eD aB))
 (aK (cY (fU (a6 1)) (bO 4)
  (aK (b9 5 (aF fJ (a7 (a6 0) (a7 (a6 4) aB))))
  (gQ 3 (bJ (eD (a7 (bP (cB (a6 5) (qC (.int 5))) (qC (.int 4))) (a7 (bP (cB (a6 5) (qC (.int 5))) (qC (.int 3))) (a7 (bP (cB (a6 5) (qC (.int 5))) (qC (.int 6))) (a7 (bP (cB (a6 5) (qC (.int 5))) (qC (.int 61))) aB))))) (bP (a6 2) (qC (.int 4)))))))
 (aK (fS 6 (qC (.dT [])))
 (aK (cY (eG (a6 0)) (bO 5)
  (bD (aS (iG (a6 1) (qC (.int 1)))) (aK (b9 7 (bP (a6 5) (a6 1)))
   (aK (b9 8 (bP (cB (bP (iF (bP (a6 5) (qC (.int 1000000007))) (qC (.int 48271))) (qC (.int 2147483647))) (qC (.int 89))) (a6 1)))
   (bD (aS (gT (a6 7) (a6 8))) (o0 6 (eC (a7 (aF nQ (a7 (a6 7) (a7 (a6 8) aB))) (a7 (aF nR (a7 (a6 7) (a7 (a6 8) aB))) aB))) (qC (.bl true))) bC))) bC))
 (aX (eC (a7 (aF fE (a7 (a6 3) aB)) (a7 (aF fE (a7 (aF oB (a7 (aF oC (a7 (a6 6) aB)) aB)) aB)) aB))))))))
theorem Q2 {a b c d:PV}{i:Int} (h0:0<=i) (h1:i < 4):∃ z,atI [a,b,c,d] i=some z/\(z=a ∨ z=b ∨ z=c ∨ z=d):=by
 have:i=0 ∨ i=1 ∨ i=2 ∨ i=3:=by omega
 rcases this with rfl | rfl | rfl | rfl
 ·exact⟨a,rfl,.inl rfl⟩
 ·exact⟨b,rfl,.inr (.inl rfl)⟩
 ·exact⟨c,rfl,.inr (.inr (.inl rfl))⟩
 ·exact⟨d,rfl,.inr (.inr (.inr rfl))⟩
theorem u9 {a b c d:Int}{i:Int} (h0:0<=i) (h1:i < 4):∃ z:Int,atI [PV.int a,PV.int b,PV.int c,PV.int d] i=some (.int z)/\(z=a ∨ z=b ∨ z=c ∨ z=d):=by
 obtain ⟨z,h,e⟩:=Q2 (a:=PV.int a) (b:=PV.int b) (c:=PV.int c) (d:=PV.int d) h0 h1
 rcases e with rfl | rfl | rfl | rfl
 ·exact⟨a,h,.inl rfl⟩
 ·exact⟨b,h,.inr (.inl rfl)⟩
 ·exact⟨c,h,.inr (.inr (.inl rfl))⟩
 ·exact⟨d,h,.inr (.inr (.inr rfl))⟩
def hE (l:Int × Int):List aG:=[Sum.inl l.1,Sum.inl l.2]
structure DL (n:Int) (ps:List (List aG × PV)) (i:Nat):Prop where
 key:∀ p ∈ ps,∃ l:Int × Int,p.1=hE l/\0<=l.1/\l.1 < l.2/\l.2 < n
 len:ps.length<=i
 fl:flats (ps.map (·.2))=true
 nd:(ps.map (·.1)).Nodup
theorem Q3 {κ:Type} [DecidableEq κ] {ps:List (κ × PV)} (k:κ) (v:PV) (h:(ps.map (·.1)).Nodup):((cO ps k v).map (·.1)).Nodup:=by
 unfold cO
 split
 ·rw [List.map_map]
  have:((fun x:κ × PV=>x.1) ∘ fun kv:κ × PV=>if kv.1=k then (kv.1,v) else kv)=fun x=>x.1:=by
   funext x
   show (if x.1=k then (x.1,v) else x).1=x.1
   split <;> rfl
  rw [this]; exact h
 ·rename_i hn
  rw [ag5]
  refine List.nodup_append.mpr ⟨h,List.pairwise_singleton _ _,fun x hx y hy e=>hn ?_⟩
  obtain ⟨p,hp,rfl⟩:=ag8.mp hx
  rw [ae4.mp hy] at e
  exact List.any_eq_true.mpr ⟨p,hp,af0 e⟩
theorem Q4 {κ:Type} [DecidableEq κ] {ps:List (κ × PV)}{k:κ}{v:PV}{p:κ × PV} (h:p ∈ cO ps k v):p.1=k ∨ ∃ q ∈ ps,q.1=p.1:=by
 unfold cO at h
 split at h
 ·obtain ⟨q,hq,e⟩:=ag8.mp h
  split at e
  ·subst e; exact .inr ⟨q,hq,rfl⟩
  ·subst e; exact .inr ⟨q,hq,rfl⟩
 ·rcases ag4.mp h with h | h
  ·exact .inr ⟨p,h,rfl⟩
  ·rw [ae4.mp h]; exact .inl rfl
theorem DL.put {n:Int}{ps:List (List aG × PV)}{i:Nat} (h:DL n ps i) (l:Int × Int) (hl:0<=l.1/\l.1 < l.2/\l.2 < n):DL n (cO ps (hE l) (.bl true)) (i+1):=by
 refine⟨fun p hp=>?_,?_,O6 h.fl rfl,Q3 _ _ h.nd⟩
 ·rcases Q4 hp with e | ⟨q,hq,e⟩
  ·exact⟨l,e,hl⟩
  ·obtain ⟨l',e',h'⟩:=h.key q hq
   exact⟨l',e ▸ e',h'⟩
 ·have:=O4 ps (hE l) (.bl true)
  have:=h.len
  omega
theorem DL.links {n:Int}:∀ {ps:List (List aG × PV)},(∀ p ∈ ps,∃ l:Int × Int,p.1=hE l/\0<=l.1/\l.1 < l.2/\l.2 < n)->∃ ls:List (Int × Int),(ps.map fun p=>PV.tup (p.1.map kP))=aY ls/\(∀ l ∈ ls,0<=l.1/\l.1 < l.2/\l.2 < n)/\ls.length=ps.length/\ps.map (·.1)=ls.map hE
 | [],_=>⟨[],rfl,(fun _ h=>nomatch h),rfl,rfl⟩
 | p :: ps,h=>by
  obtain ⟨l,e,hl⟩:=h p ad2
  obtain ⟨ls,h1,h2,h3,h4⟩:=DL.links (ps:=ps) fun q hq=>h q (ad5 _ hq)
  refine⟨l :: ls,?_,fun m hm=>?_,by rw [ag6,ag6,h3],by rw [ah0,ah0,h4,e]⟩
  ·rw [ah0,h1,e]; rfl
  ·rcases ae0.mp hm with rfl | hm
   ·exact hl
   ·exact h2 m hm
theorem Q5 {x:PV}{ns:List Int} (h:fI x ns):(Slot.sh (flat x) x).tag = .rd->flat x=true:=by
 cases flat x <;> intro z <;> cases z
theorem Q6 (ns:List Int) {k:Int} (h:0<=k):fD (intz ns) (some k) none=intz (ns.drop k.toNat):=by
 unfold fD
 have e1:HT.aJ (intz ns).length 0 (some k)=min k.toNat (intz ns).length:=by
  have:=HT.yL (intz ns).length 0 k.toNat
  rw [show ((k.toNat:Nat):Int)=k by omega] at this
  exact this
 have e2:HT.aJ (intz ns).length (intz ns).length none=(intz ns).length:=rfl
 rw [e1,e2,bZ]
 rw [ak1 (by rw [ak2,bZ]; omega)]
 show _=List.map PV.int _
 rw [List.map_drop]
 by_cases hk:k.toNat<=ns.length
 ·rw [Nat.min_eq_left hk]
 ·rw [Nat.min_eq_right (by omega),List.drop_of_length_le (by rw [bZ]; omega),List.drop_of_length_le (by rw [bZ]; omega)]
def uA:bA:=fun xs Q=>∃ ns:List Int,xs = [.scr ns]/\ns.length<=63/\Q (.bl true)
structure Q7 (K:PySem.W.Frag):Prop where
 ii:PySem.W.kitOne K (.type "int") (.type "int")=some true
 ib:PySem.W.kitOne K (.type "int") (.type "bool")=some false
 tt:PySem.W.kitOne K (.type "tuple") (.type "tuple")=some true
 ll:PySem.W.kitOne K (.type "list") (.type "list")=some true
 bb:PySem.W.kitOne K (.type "bool") (.type "bool")=some true
theorem lA (K:PySem.W.Frag):Q7 K:=by
 have same:∀ n:String,PySem.W.kitMeta n=true->True:=fun _ _=>trivial
 refine⟨?_,?_,?_,?_,?_⟩
 ·unfold PySem.W.kitOne; rw [if_pos (by decide)]
 ·have e:(if PySem.W.kitMeta "bool" = true then (fastBuiltinMro "int").map (·.contains (Value.type "bool")) else none)=some false:=by decide +kernel
  unfold PySem.W.kitOne
  rw [if_neg (by decide)]
  exact e
 ·unfold PySem.W.kitOne; rw [if_pos (by decide)]
 ·unfold PySem.W.kitOne; rw [if_pos (by decide)]
 ·unfold PySem.W.kitOne; rw [if_pos (by decide)]
end Core
namespace PP
open PySem L2 PyProof.Rows
theorem Q8 {P:Program}{w:World}{K:PySem.W.Frag}{mg:Str->Option Value}{base:Heap}{k:Nat}{x:Str}{ps N:List Str}{p:bA}{st:Stmt}{f:Addr}{fd:FuncData} (F:eB K x x st f fd) (S:FnScope N ps (aU st))
  (len:∀ xs Q,p xs Q->xs.length=ps.length)
  (body:∀ (cdv:Value) (A:Around) (outer:List Env) (s:Shared) (H:Hp) (E:XK),bT k (A.deeper (envOfC x (aU st) s.heap.objs.size f cdv))->
   ∃ t,dZ (eU cK P w K mg base N x (aU st) f cdv A outer s H E).nox (dC st) t/\∀ xs Q,p xs Q->t { nx:=fun _=>Q .non,rt:=Q } (dG N xs)):cA P w K mg base cK (k+1) f fd ps (j8 K p):=by
 refine F.ok S (fun vs H Q E h=>?_) (fun cdv A outer s H vs Q E hr h=>?_)
 ·obtain ⟨xs,Qp,r,q,_⟩:=h
  rw [r.length]; exact len xs Qp q
 ·obtain ⟨xs,Qp,r,q,k⟩:=h
  obtain ⟨t,ht,hq⟩:=body cdv A outer s H E hr
  refine⟨_,ht,fun _=>False,dG N xs,_,tR r,hq xs Qp q,?_,?_,?_,?_⟩
  ·exact fun W' σ' H' ρ' e px q=>k _ _ _ px.same .non q
  ·exact fun v H' x s r q=>k _ _ _ s r q
  ·exact fun W' σ' H' ρ' e px q=>q
  ·exact fun W' σ' H' ρ' e px q=>q
def lB (K:PySem.W.Frag):Sp:=fun vs H Q _=>∃ (a:Addr) (ns:List Int),vs = [.ref a]/\fA K H a ns/\ns.length<=63/\∀ H',Q (.bl true) H'
theorem Q9 {P:Program}{w:World}{K:PySem.W.Frag}{mg:Str->Option Value}{base:Heap}{k:Nat}{f:Addr}{fd:FuncData} (F:cA P w K mg base cK k f fd ["script"] (j8 K Core.uA)):cA P w K mg base cK k f fd ["script"] (lB K):=
 F.imp fun vs H Q E h=>by
  obtain ⟨a,ns,rfl,hs,hl,q⟩:=h
  refine⟨[.scr ns],fun z=>z = .bl true,.cons (.scr hs) .nil,⟨ns,rfl,hl,rfl⟩,?_⟩
  rintro v H' x _ r rfl
  cases r
  exact q H'
theorem R0 {K:PySem.W.Frag}{H:Hp}{a:Addr}{ns:List Int} (hO:k9 H) (h:aM K H a (ns.map V.int)):fA K H a ns:=by
 rcases h with (h | ⟨o,h⟩) | h
 ·rcases hO a with e | ⟨o,xs,e⟩ <;> (rw [h] at e; cases e)
 ·exact .inl ⟨o,h⟩
 ·exact .inr h
end PP
namespace PyProof.Rows
open PySem
end PyProof.Rows
namespace PP
open PySem L2 PyProof.Rows
section
variable {X : Cx} {e : Expr} {te : aA} {pos p2 : Pos} {scope : Scope} {N : List Str} {fr : List (Option Nat)} {x y : Str} {tp xp yp : Pos} {kt : Nat} {iter elt : Expr} {ti : cF}
abbrev oE (x y:Str) (xp yp:Pos) (kt:Nat) (tp:Pos):Expr:=.Tuple [.Name x xp,.Name y yp] kt tp
theorem R1 {ifs:List Expr}{tcs:bN} (hc:X.calm=true) (he:∀ (s:Shared) (H:Hp) (C:Addr) (fp:List Addr),QE (bH X scope N s H C fp bY) elt te) (hi:∀ (s:Shared) (H:Hp) (C:Addr) (fp:List Addr),i9 (bH X scope N s H C fp bY) ifs (LT (bH X scope N s H C fp bY) tcs))
  (hN:N.Nodup) (h0:N[0]? = some x) (h1:N[1]? = some y) (hl:∀ (s:Shared) (H:Hp) (C:Addr) (fp:List Addr),(bH X scope N s H C fp bY).env.scope.names.lookup x=some .local) (hl2:∀ (s:Shared) (H:Hp) (C:Addr) (fp:List Addr),(bH X scope N s H C fp bY).env.scope.names.lookup y=some .local) (s:Shared) (H:Hp) :
  j1 X scope N (oE x y xp yp kt tp) ifs elt s H (jV X.K 2 (gK (cD 0) (gK (cD 1) jU))) (LT (X.frm H) tcs) (LE (X.frm H) te):=
 ⟨fun C fp=>x6 (X:=bH X scope N s H C fp bY) hc (pS (jT hN h0 (.inl (hl s H C fp)) (.inr (hl s H C fp))) (pS (jT hN h1 (.inl (hl2 s H C fp)) (.inr (hl2 s H C fp))) x5)),fun C fp=>hi s H C fp,fun C fp=>he s H C fp⟩
theorem oF (hi:QI X (oE x y xp yp kt tp) iter ti) (he:∀ (s:Shared) (H:Hp) (C:Addr) (fp:List Addr),QE (bH X scope N s H C fp bY) elt te)
  (hc:X.calm=true:=by rfl) (S:cL X scope N fr:=by exact cL.of rfl rfl) (hN:N.Nodup:=by decide +kernel) (h0:N[0]? = some x:=by rfl) (h1:N[1]? = some y:=by rfl) (hl:∀ (s:Shared) (H:Hp) (C:Addr) (fp:List Addr),(bH X scope N s H C fp bY).env.scope.names.lookup x=some .local:=by intro _ _ _ _; rfl) (hl2:∀ (s:Shared) (H:Hp) (C:Addr) (fp:List Addr),(bH X scope N s H C fp bY).env.scope.names.lookup y=some .local:=by intro _ _ _ _; rfl) (hf:fr[0]? = some none:=by rfl) (hf2:fr[1]? = some none:=by rfl)
  (hs:∀ x,foldedSetIterable iter X.env x=pure x:=by intro _; rfl):QE X (.ListComp elt [⟨oE x y xp yp kt tp,iter,[],0⟩] scope pos) (cZ ti fr (iD 0 1) c8 te):=
 bE (sB (gh:=fun _=>jV X.K 2 (gK (cD 0) (gK (cD 1) jU))) (tch:=fun H=>LT (X.frm H) c8) (teh:=fun H=>LE (X.frm H) te) hc S hi (R1 hc he (fun _ _ _ _=>o9) hN h0 h1 hl hl2) hs) fun _ _ _=>nY (K7 _ 0 1) (fun i e=>by rcases e with e | e <;> (subst e; assumption))
end
section
variable {X : Cx} {a b e o f : Expr} {ta tb te td tk tx : aA} {pos p2 apos cpos : Pos} {σ : L2.St} {H : Hp} {Q' : VK}
theorem oG {x:Str}{n:Int}{t:Nat} (hg:Gl X x) (hm:X.mg x=some (.int n t)) (hd:(x == ("__debug__" : Str))=false:=by decide):QE X (.Name x pos) (qC (.int n)):=
 bE (pH (v:=.int n) hg hm ⟨t,rfl⟩ hd) fun _ _ _=>j3 fun _=>.int n
end
end PP
namespace Core
open PySem L2 PP
section
variable (ws : List Int) (ls : List (Int × Int)) (os ns : List Int)
def hG:Nat->List Int
 | 0=>[]
 | k+1=>hG k ++ (os.find? (kin ws ls (ns ++ hG k))).toList
def oH (k:Nat):Option Int:=os.find? (kin ws ls (ns ++ hG ws ls os ns k))
end
section
variable {ws : List Int} {ls : List (Int × Int)} {os ns : List Int}
theorem ac6 {k:Nat}{h:Int} (e:oH ws ls os ns k=some h):hG ws ls os ns (k+1)=hG ws ls os ns k ++ [h]:=by
 show hG ws ls os ns k ++ (oH ws ls os ns k).toList=_
 rw [e]; rfl
def R3 (ws:List Int) (ls:List (Int × Int)) (T:List Int):Prop:=∀ h ∈ rng ws.length,kin ws ls T h=false
theorem ac7 {k:Nat}{h:Int} (e:oH ws ls os ns k=some h):h ∈ os/\h ∉ ns ++ hG ws ls os ns k:=
 ⟨List.mem_of_find?_eq_some e,of_decide_eq_false (O2 (List.find?_some e))⟩
end
theorem uB {i:Nat}{h:Int}{g:Bool}{ρ:aV}{Q:aV->Prop} (q:Q (ρ.set i (some (.sh true (.int h))))):bO i (.int h) g ρ Q:=by
 show Q (ρ.set i (some (.sh (g || true) (.int h))))
 rw [Bool.or_true]; exact q
def R4 (ns S:List Int):Int:=(ns.length:Int) - (((ns.filter fun x=>decide (x ∈ S)).length:Nat):Int)
def R5 (ws:List Int) (ls:List (Int × Int)) (S:List Int) (h:Int):Bool:=decide (R4 (sO ls h) S < ws.getD h.toNat 0)
def stay (ws:List Int) (ls:List (Int × Int)) (S:List Int):List Int:=S.filter (R5 ws ls S)
end Core
namespace PP
open PySem L2 PyProof.Rows
def eM (xs ys:List PV):List PV:=List.zipWith (fun x y=>PV.tup [x,y]) xs ys
theorem oI (xs ys:List PV):(eM xs ys).length=min xs.length ys.length:=by unfold eM; rw [List.length_zipWith]
theorem uC {xs ys:List PV}{i:Nat}{x y:PV} (h:xs[i]? = some x) (h':ys[i]? = some y):(eM xs ys)[i]? = some (.tup [x,y]):=by
 unfold eM; rw [List.getElem?_zipWith,h,h']
theorem R6 {xs ys:List PV}{i:Nat}{z:PV} (h:(eM xs ys)[i]? = some z):∃ x y,xs[i]? = some x/\ys[i]? = some y/\z = .tup [x,y]:=by
 unfold eM at h
 rw [List.getElem?_zipWith] at h
 cases e:xs[i]? with
 | none=>rw [e] at h; cases h
 | some x=>
  cases e':ys[i]? with
  | none=>rw [e,e'] at h; cases h
  | some y=>rw [e,e'] at h; exact⟨x,y,rfl,rfl,(ae6 h).symm⟩
theorem R7 {K:PySem.W.Frag}{H0:Hp}{W:Addr->Prop}{g:Bool}{H1:Hp}{a b:Addr}{us vs:List V}{xs ys:List PV} (tw:∀ a,W a->∃ o,H1 a=some o/\cE o=true) (ha:∀ W' H',Ev W H1 W' H'->aO K H' a us) (hb:∀ W' H',Ev W H1 W' H'->aO K H' b vs)
  (r:Reps K (Ms H0 W g) H1 us xs) (r':Reps K (Ms H0 W g) H1 vs ys):iC K H0 W g H1 (nE K a b) (eM xs ys):=by
 have lr:=r.length
 have lr':=r'.length
 have ll:=oI xs ys
 refine⟨fun W' H' i e hi=>⟨us,vs,us[i]'(by omega),vs[i]'(by omega),ha W' H' e,hb W' H' e,by simp,by simp⟩,fun W' H' i v H2 e y hi=>?_,fun W' H' e=>⟨us,vs,ha W' H' e,hb W' H' e,by omega⟩⟩
 obtain ⟨T,x,y',hT,rfl,rfl,y⟩:=y
 obtain ⟨h1,h2⟩:=y us vs (ha W' _ e) (hb W' _ e)
 obtain ⟨z,hz,rz⟩:=r.get h1
 obtain ⟨z',hz',rz'⟩:=r'.get h2
 have sm:=bI hT (HO.tup [x,y'])
 exact⟨sm,_,uC hz hz',.tup bL (.cons ((rz.keep (e.keep tw)).same sm fun _ q=>q) (.cons ((rz'.keep (e.keep tw)).same sm fun _ q=>q) .nil))⟩
end PP
namespace Core
open PySem L2 PP
section
variable {ws : List Int} {ls : List (Int × Int)} {ns wts : List Int} {m : Nat}
def loose (ls:List (Int × Int)) (wts ns:List Int):List ((Int × Int) × Int):=(ls.zip wts).filter fun z=>!(decide (z.1.1 ∈ ns) && decide (z.1.2 ∈ ns))
end
end Core
namespace PP
open PySem L2 PyProof.Rows
section
variable {X : Cx} {σ : L2.St} {H : Hp} {D : cH} {tr : bV} {Q' : VK} {a b c e : Expr} {es : List Expr} {pos p2 cp np hp : Pos} {t : aQ} {te : aA} {tc : bN}
def k8:V->Value
 | .ref a=>.ref a
 | .ty n=>.type n
 | _=>.none
end
end PP
namespace PP
open PySem L2
theorem us1 {us:List Value} (h:us.length=1):∃ a,us = [a]:=List.length_eq_one_iff.mp h
theorem us2 {us:List Value} (h:us.length=2):∃ a b,us = [a,b]:=by
 cases us with
 | nil=>cases h
 | cons a r=>
  obtain ⟨b,rfl⟩:=us1 (us:=r) (by simpa using h)
  exact⟨a,b,rfl⟩
theorem uD {us:List Value} (h:us.length=3):∃ a b c,us = [a,b,c]:=by
 cases us with
 | nil=>cases h
 | cons a r=>
  obtain ⟨b,c,rfl⟩:=us2 (us:=r) (by simpa using h)
  exact⟨a,b,c,rfl⟩
theorem R8 {us:List Value} (h:us.length=4):∃ a b c d,us = [a,b,c,d]:=by
 cases us with
 | nil=>cases h
 | cons a r=>
  obtain ⟨b,c,d,rfl⟩:=uD (us:=r) (by simpa using h)
  exact⟨a,b,c,d,rfl⟩
end PP
namespace Core
open PySem L2 PP
abbrev uE (bs:List Bool):List PV:=bs.map PV.bl
section
variable {ws : List Int} {ls : List (Int × Int)}
def cne (ws:List Int) (ls:List (Int × Int)) (S:List Int):Bool:=!decide (S = []) && decide (stay ws ls S=S)
end
def far (ns S:List Int):Bool:=decide (((S.filter fun x=>decide (x ∈ ns)).length:Int)=0)
def uF (ws:List Int) (ls:List (Int × Int)):List Int->List Int->Bool
 | _,[]=>true
 | B,h :: R=>O3 ws.length h && (kin ws ls B h && uF ws ls (B ++ [h]) R)
end Core
namespace PP
open PySem L2
section
variable {X : Cx} {a b e : Expr} {ta tb te : aA} {tr : bV} {pos : Pos} {σ : St} {H : Hp} {Q' : VK} {es : List Expr}
def gB (neg:Bool):PV->Tg->PV->Tg->PK->Prop:=fun x _ y _ Q=>∃ i j:Str,x = .str i/\y = .str j/\Q (.bl (if neg=true then !decide (i=j) else decide (i=j))) .fr
theorem uG (i j:Str):decide (V.str i=V.str j)=decide (i=j):=by
 rw [ak8,ah3,ah3]; exact⟨fun z=>V.str.inj z,fun z=>congrArg V.str z⟩
theorem R9:c7 X (gB true) mE:=by
 rintro W Hs H u v x y g g' Q Q' s n r1 r2 ⟨i,j,rfl,rfl,q⟩ k
 cases r1; cases r2
 exact⟨rfl,by rw [uG]; exact k _ _ _ _ (a9.refl _) (.bl _) q⟩
theorem S0:c7 X (gB false) mD:=by
 rintro W Hs H u v x y g g' Q Q' s n r1 r2 ⟨i,j,rfl,rfl,q⟩ k
 cases r1; cases r2
 exact⟨rfl,by rw [uG]; exact k _ _ _ _ (a9.refl _) (.bl _) q⟩
theorem S2 (ha:QE X a ta) (hb:QE X b tb):QT X (.Compare a [.NotEq] [b] pos) (aS (q2 (gB true) ta tb)):=gV qH R9 ha hb (fN _)
theorem oJ (ha:QE X a ta) (hb:QE X b tb):QT X (.Compare a [.Eq] [b] pos) (aS (q2 (gB false) ta tb)):=gV qG S0 ha hb (fN _)
end
end PP
namespace Core
open PySem L2 PP
def mX (ws:List Int) (ls:List (Int × Int)) (ns R:List Int):Prop:=uF ws ls ns R=true/\R3 ws ls (ns ++ R)
end Core
namespace PP
open PySem L2
section
variable {X : Cx} {a b : Expr} {ta tb : aA} {pos : Pos}
def uH:PV->Tg->PV->Tg->PK->Prop:=fun x _ y _ Q=>∃ ns ms:List Int,x = .tup (intz ns)/\y = .tup (intz ms)/\Q (.bl (HT.b4 ns ms)) .fr
theorem S3:c7 X uH (mK X.K):=by
 rintro W Hs H u v x y g g' Q Q' s n r1 r2 ⟨ns,ms,rfl,rfl,q⟩ k
 obtain ⟨p1,us,rfl,h1,r1⟩:=r1.sqT
 obtain ⟨p2,vs,rfl,h2,r2⟩:=r2.sqT
 obtain rfl:=r1.ofInts
 obtain rfl:=r2.ofInts
 exact⟨p1,p2,ns,ms,rfl,rfl,aO.of h1,aO.of h2,k _ _ _ _ (a9.refl _) (.bl _) q⟩
end
section
variable {X : Cx} {a b e : Expr} {ta tb : aA} {tr : bV} {pos p2 : Pos}
def uI (K:PySem.W.Frag):R2:=fun x y H Q=>e8 (fun i j=>.bl (decide (i < j))) x y H Q ∨ mK K x y H Q
theorem S4 (hu:X.A.units < cLine):bM X (compareOp .Lt) (uI X.K):=by
 intro pins s σ H x y v u Q I rx ry h
 rcases h with h | h
 ·exact qI pins s σ H x y v u Q I rx ry h
 ·exact yY hu pins s σ H x y v u Q I rx ry h
def lC:PV->Tg->PV->Tg->PK->Prop:=fun x g y g' Q=>cW (fun i j=>.bl (decide (i < j))) x g y g' Q ∨ uH x g y g' Q
theorem S5:c7 X lC (uI X.K):=by
 intro W Hs H u v x y g g' Q Q' s n r1 r2 h k
 rcases h with h | h
 ·exact .inl (kM W Hs H u v x y g g' Q Q' s n r1 r2 h k)
 ·exact .inr (S3 W Hs H u v x y g g' Q Q' s n r1 r2 h k)
theorem S6 (hu:X.A.units+1 < cLine) (ha:QE X a ta) (hb:QE X b tb):QE X (.Compare a [.Lt] [b] pos) (q2 lC ta tb):=tM (S4 (by omega)) S5 ha hb (fN _)
end
end PP
namespace L2
open PySem PySem.Spec PyProof.Rows
section
variable {X : Cx}
def uJ (K:PySem.W.Frag) (ta:TA):TI:=fun σ H R=>ta σ H fun vs H1=>∃ a b,vs = [.ref a,.ref b]/\((∃ xs ys,aO K H1 a xs/\aO K H1 b ys/\R (nE K a b) H1) ∨ ∃ xs ys,aM K H1 a xs/\aM K H1 b ys/\R (nG K a b) H1)
theorem S7 {elts:List Expr}{kt:Nat}{pt:Pos}{a b:Expr}{ta:TA}{p pos:Pos} (hg:Gl X "zip") (hm:X.mg "zip" = none) (ha:PA X [a,b] ta) (hs:starEach [a,b] X.env = [(false,eval a X.env),(false,eval b X.env)]:=by rfl) (hs2:starEach [b] X.env = [(false,eval b X.env)]:=by rfl) :
  PI X (.Tuple elts kt pt) (.Call (.Name "zip" p) [a,b] [] pos) (uJ X.K ta):=by
 intro pins s σ H R I h
 refine Call_ (i4 I hg hm PyProof.Rows.boot_zip (aj9 (aI (ha pos pins s σ H _ I h) fun us s1 ⟨vs,H1,I1,r1,q1⟩=>?_) (by rw [hs,hs2]) (by rw [hs2]; rfl)))
 obtain ⟨a',b',e,q1⟩:=q1
 subst e
 obtain ⟨u1,u2,rfl,r,r'⟩:=aH.two r1
 cases r
 cases r'
 have fresh:∀ k,H1 (s1.heap.objs.size+k)=none:=fun k=>I1.hok.fresh (Nat.le_add_right _ _)
 have fp:∀ c ∈ [s1.heap.objs.size+4,s1.heap.objs.size+2,s1.heap.objs.size+3,s1.heap.objs.size,s1.heap.objs.size+1],cQ X pins H1 c:=fun c hc=>by
  simp only [ae0,af5,ak7] at hc
  rcases hc with rfl | rfl | rfl | rfl | rfl
  ·exact I1.fpOk (Nat.le_add_right _ _) (fresh 4)
  ·exact I1.fpOk (Nat.le_add_right _ _) (fresh 2)
  ·exact I1.fpOk (Nat.le_add_right _ _) (fresh 3)
  ·exact I1.fpOk (ad6 _) (fresh 0)
  ·exact I1.fpOk (Nat.le_add_right _ _) (fresh 1)
 rcases q1 with ⟨xs,ys,h1,h2,q⟩ | ⟨xs,ys,h1,h2,q⟩
 ·obtain ⟨us,_,p1,_⟩:=I1.tuple h1
  obtain ⟨ws,_,p2,_⟩:=I1.tuple h2
  refine Zp.E1 p1 p2 fun h' z ti to s1' s2' kp=>wpAny_pyIter_zip z ?_
  exact⟨s1.heap.objs.size+4,[s1.heap.objs.size+4,s1.heap.objs.size+2,s1.heap.objs.size+3,s1.heap.objs.size,s1.heap.objs.size+1],_,_,H1,rfl,I1.kept (t':=s1.toks) kp,E4 a' b' _ _ _ _ _ (by simp),⟨z,ti,⟨_,_,to⟩,s1',s2'⟩,fp,q⟩
 ·obtain ⟨us,_,p1,_⟩:=I1.list h1
  obtain ⟨ws,_,p2,_⟩:=I1.list h2
  refine call_zip_2 p1.isList p2.isList fun h' z ti to s1' s2' _ kp=>wpAny_pyIter_zip z ?_
  exact⟨s1.heap.objs.size+4,[s1.heap.objs.size+4,s1.heap.objs.size+2,s1.heap.objs.size+3,s1.heap.objs.size,s1.heap.objs.size+1],_,_,H1,rfl,I1.kept (t':=s1.toks) kp,F0 a' b' _ _ _ _ _ (by simp),⟨z,ti,⟨_,_,to⟩,s1',s2'⟩,fp,q⟩
end
end L2
namespace PP
open PySem L2
theorem S8 {K:PySem.W.Frag}{H0:Hp}{W:Addr->Prop}{g:Bool}{H1:Hp}{a b:Addr}{us vs:List V}{xs ys:List PV} (tw:∀ a,W a->∃ o,H1 a=some o/\cE o=true) (ha:∀ W' H',Ev W H1 W' H'->aM K H' a us) (hb:∀ W' H',Ev W H1 W' H'->aM K H' b vs)
  (r:Reps K (Ms H0 W g) H1 us xs) (r':Reps K (Ms H0 W g) H1 vs ys):iC K H0 W g H1 (nG K a b) (eM xs ys):=by
 have lr:=r.length
 have lr':=r'.length
 have ll:=oI xs ys
 refine⟨fun W' H' i e hi=>⟨us,vs,us[i]'(by omega),vs[i]'(by omega),ha W' H' e,hb W' H' e,by simp,by simp⟩,fun W' H' i v H2 e y hi=>?_,fun W' H' e=>⟨us,vs,ha W' H' e,hb W' H' e,by omega⟩⟩
 obtain ⟨T,x,y',hT,rfl,rfl,y⟩:=y
 obtain ⟨h1,h2⟩:=y us vs (ha W' _ e) (hb W' _ e)
 obtain ⟨z,hz,rz⟩:=r.get h1
 obtain ⟨z',hz',rz'⟩:=r'.get h2
 have sm:=bI hT (HO.tup [x,y'])
 exact⟨sm,_,uC hz hz',.tup bL (.cons ((rz.keep (e.keep tw)).same sm fun _ q=>q) (.cons ((rz'.keep (e.keep tw)).same sm fun _ q=>q) .nil))⟩
section
variable {X : Cx} {σ : L2.St} {H : Hp} {ta tb : aA} {R : It → Hp → Prop}
def oK (ta tb:aA):cF:=fun ρ Q=>ta ρ fun x g0=>tb ρ fun y g=>∃ xs ys,((x = .tup xs/\y = .tup ys) ∨ (x = .lst xs/\y = .lst ys/\g0 ≠ .rd/\g ≠ .rd))/\flats xs=true/\flats ys=true/\Q (eM xs ys) true
theorem uK {K:PySem.W.Frag}{H0 Hs:Hp}{W:Addr->Prop}{σ:L2.St}{ρ:aV}{g:Tg}{b:Addr} (px:PX K H0 W σ ρ Hs) (ng:g ≠ .rd) (m:Mg H0 W Hs g b) : ¬ W b:=by
 cases g with
 | fr=>exact (px.new m).1
 | nw=>exact m.1
 | sh=>exact m
 | rd=>exact absurd rfl ng
theorem S9 (h:LI X (oK ta tb) σ H R):uJ X.K (fO (LE X ta) (fO (LE X tb) i6)) σ H R:=by
 obtain ⟨W,ρ,Q,px,q,k⟩:=h
 refine⟨W,ρ,_,px,q,fun v0 H0 x0 g0 s0 r0 q0=>⟨W,ρ,_,px.mono s0,q0,?_⟩⟩
 rintro v H1 x g s r ⟨xs,ys,c,fx,fy,q⟩
 have S:=s0.trans s
 have px1:=px.mono S
 have tw:∀ a,W a->∃ o,H1 a=some o/\cE o=true:=fun a z=>(px1.wm a z).2
 rcases c with ⟨rfl,rfl⟩ | ⟨rfl,rfl,n0,n1⟩
 ·obtain ⟨a,us,rfl,h1,ra⟩:=(r0.same (M':=fun _=>True) s fun _ _=>trivial).sqT
  obtain ⟨b,vs,rfl,h2,rb⟩:=r.sqT
  have sta:∀ {c us},H1 c=some (.tup us)->∀ W' H',Ev W H1 W' H'->aO X.K H' c us:=fun {c us} hc W' H' e=>aO.of (e _ _ hc (fun z=>by obtain ⟨o,h',mu⟩:=tw _ z; rw [hc] at h'; cases h'; cases mu) rfl).1
  exact⟨a,b,rfl,.inl ⟨us,vs,aO.of h1,aO.of h2,k _ _ _ _ S (R7 tw (sta h1) (sta h2) (ra.flat fx) (rb.flat fy)) q⟩⟩
 ·obtain ⟨a,us,rfl,m0,h1,ra⟩:=(r0.same s fun _ z=>z).sqL
  obtain ⟨b,vs,rfl,m1,h2,rb⟩:=r.sqL
  have w0:=uK px n0 m0
  have w1:=uK (px.mono s0) n1 m1
  exact⟨a,b,rfl,.inr ⟨us,vs,aM.of h1,aM.of h2,k _ _ _ _ S (S8 tw (fun W' H' e=>aM.of (e _ _ h1 w0 rfl).1) (fun W' H' e=>aM.of (e _ _ h2 w1 rfl).1) (ra.flat fx) (rb.flat fy)) q⟩⟩
theorem T0 {elts:List Expr}{kt:Nat}{pt p2 pos:Pos}{a b:Expr} (B:Bt X.mg) (ha:QE X a ta) (hb:QE X b tb) (hg:Gl X "zip":=by rfl) (hs:starEach [a,b] X.env = [(false,eval a X.env),(false,eval b X.env)]:=by rfl) (hs2:starEach [b] X.env = [(false,eval b X.env)]:=by rfl):QI X (.Tuple elts kt pt) (.Call (.Name "zip" p2) [a,b] [] pos) (oK ta tb):=
 jD (S7 hg B.zip (eS ha (eS hb i7 hs2) (by rw [hs,hs2])) hs hs2) fun _ _ _=>S9
end
end PP
namespace Core
open PySem L2 PP
theorem T1 (xs:List PV):fD xs (some 1) none=xs.drop 1:=by
 unfold fD
 have e1:HT.aJ xs.length 0 (some 1)=min 1 xs.length:=by
  show (if (1:Int) < 0 then ((1:Int)+(xs.length:Int)).toNat else min (1:Int).toNat xs.length)=_
  rw [if_neg (by decide)]; rfl
 rw [e1]
 show (xs.drop (min 1 xs.length)).take (xs.length - min 1 xs.length)=_
 rw [ak1 (by rw [ak2]; exact ad6 _)]
 cases xs with
 | nil=>rfl
 | cons x xs=>rw [show min 1 (x :: xs).length=1 by simp]
def lD {α:Type} (lt:α->α->Bool) (A:List α):Bool:=((A.zip (A.drop 1)).map fun p=>lt p.1 p.2).all id
def lE:bA:=fun xs Q=>∃ x,xs = [x]/\((∃ ns,gZ x ns/\ns.length<=1000/\Q (.bl (O1 ns))) ∨ ∃ ls:List (Int × Int),x = .lst (aY ls)/\ls.length<=4096/\∀ b:Bool,(b=true ↔ ls.Pairwise dA)->Q (.bl b))
def oM:aQ:=(aX (aF j7 (a7 (cZ (oK (a6 0) (kT (a6 0) (jC (qC (.int 1))) jB)) [none,none] (iD 0 1) c8 (q2 lC (a6 0) (a6 1))) aB)))
theorem uL {α:Type} (f:α->PV) (lt:α->α->Bool) (fl:∀ a,flat (f a)=true) (hlt:∀ (a b:α) (g g':Tg) (K:PK),K (.bl (lt a b)) .fr->lC (f a) g (f b) g' K) (A:List α) (la:A.length<=10000) (x:PV) (hx:x = .tup (A.map f) ∨ x = .lst (A.map f)) {Q:PV->Prop} (q:Q (.bl (lD lt A))) :
  oM { nx:=fun _=>Q .non,rt:=Q } [some (.sh (flat x) x)]:=by
 have fls:∀ B:List α,flats (B.map f)=true:=fun B=>by
  induction B with
  | nil=>rfl
  | cons b B ih=>show (flat (f b) && flats (B.map f))=true; rw [fl,ih]; rfl
 have sx:nP x=some (A.map f):=by rcases hx with rfl | rfl <;> rfl
 have cut:fD (A.map f) (some 1) none=(A.drop 1).map f:=by rw [T1,List.map_drop]
 refine⟨_,rfl,_,rfl,_,rfl,_,sx,fls A,?_⟩
 rw [cut]
 refine⟨A.map f,(A.drop 1).map f,?_,fls A,fls _,?_⟩
 ·rcases hx with rfl | rfl
  ·exact .inl ⟨rfl,rfl⟩
  ·refine .inr ⟨rfl,rfl,?_,fun z=>by cases z⟩
   cases flat (.lst (A.map f)) <;> intro z <;> cases z
 have zl:(eM (A.map f) ((A.drop 1).map f)).length=A.length - 1:=by rw [oI,ad1,ad1,ak2]; omega
 refine⟨by rw [zl]; omega,fun i acc=>acc=uE (((A.zip (A.drop 1)).take i).map fun p=>lt p.1 p.2),rfl,?_,?_⟩
 ·rintro i y acc hy rfl
  obtain ⟨u,v,h1,h2,rfl⟩:=R6 hy
  rw [ad9] at h1 h2
  cases ha:A[i]? with
  | none=>rw [ha] at h1; cases h1
  | some a=>
   cases hb:(A.drop 1)[i]? with
   | none=>rw [hb] at h2; cases h2
   | some b=>
    rw [ha] at h1
    rw [hb] at h2
    cases h1
    cases h2
    have hz:(A.zip (A.drop 1))[i]? = some (a,b):=List.getElem?_zip_eq_some.mpr ⟨ha,hb⟩
    refine⟨_,_,rfl,_,rfl,_,rfl,hlt a b _ _ _ ⟨trivial,?_⟩⟩
    dsimp only
    rw [aj7,hz,ag5]
    unfold uE
    rw [ag5]; rfl
 ·rintro acc rfl
  rw [ak1 (by rw [zl,List.length_zip,ak2]; omega)]
  exact⟨_,rfl,trivial,q⟩
theorem T2 (ls:List (Int × Int)):lD (fun a b=>HT.b4 [a.1,a.2] [b.1,b.2]) ls=true ↔ ls.Pairwise dA:=by
 have lt2:∀ a b:Int × Int,HT.b4 [a.1,a.2] [b.1,b.2]=true ↔ dA a b:=fun a b=>by
  unfold dA
  rw [HT.fP,HT.fP,HT.qT]
  by_cases h1:a.1=b.1
  ·rw [if_pos h1]
   by_cases h2:a.2=b.2
   ·rw [if_pos h2]
    exact⟨fun z=>(by cases z),fun z=>(by omega)⟩
   ·rw [if_neg h2,ah3]; omega
  ·rw [if_neg h1,ah3]; omega
 induction ls with
 | nil=>exact⟨fun _=>.nil,fun _=>rfl⟩
 | cons a r ih=>
  cases r with
  | nil=>exact⟨fun _=>List.pairwise_singleton _ _,fun _=>rfl⟩
  | cons b r=>
   have e:lD (fun a b:Int × Int=>HT.b4 [a.1,a.2] [b.1,b.2]) (a :: b :: r)=(HT.b4 [a.1,a.2] [b.1,b.2] && lD (fun a b:Int × Int=>HT.b4 [a.1,a.2] [b.1,b.2]) (b :: r)):=rfl
   rw [e,aj2,lt2,List.pairwise_cons]
   refine⟨fun ⟨h1,h2⟩=>⟨fun c hc=>?_,ih.mp h2⟩,fun ⟨h1,h2⟩=>⟨h1 b ad2,ih.mpr h2⟩⟩
   rcases ae0.mp hc with rfl | hc
   ·exact h1
   ·have:=(List.pairwise_cons.mp (ih.mp h2)).1 c hc
    unfold dA at *; omega
theorem T3:bX oM ["things"] lE:=by
 rintro xs Q ⟨x,rfl,⟨ns,hx,hl,q⟩ | ⟨ls,rfl,hl,q⟩⟩
 ·exact uL PV.int (fun a b=>decide (a < b)) (fun _=>rfl) (fun a b g g' K h=>.inl ⟨_,_,rfl,rfl,h⟩) ns (by omega) x hx q
 ·exact uL (fun l:Int × Int=>PV.tup [.int l.1,.int l.2]) (fun a b=>HT.b4 [a.1,a.2] [b.1,b.2]) (fun _=>rfl) (fun a b g g' K h=>.inr ⟨_,_,rfl,rfl,h⟩) ls (by omega) _ (.inr rfl) (q _ (T2 ls))
structure WD (n:Int) (ws:List Int) (ls:List (Int × Int)):Prop where
 many:(ws.length:Int)=n
 inn:∀ l ∈ ls,0<=l.1/\l.1 < l.2/\l.2 < n
 most:ls.length<=1700
 ord:ls.Pairwise dA
 pos:∀ w ∈ ws,0<=w/\w<=60
theorem WD.perm {n:Int}{ws:List Int}{ls ls':List (Int × Int)} (h1:(ws.length:Int)=n) (h2:∀ l ∈ ls,0<=l.1/\l.1 < l.2/\l.2 < n) (h3:ls.length<=1700) (nd:ls.Nodup) (h4:∀ w ∈ ws,0<=w/\w<=60) (p:ls'.Perm ls) (so:(ls'.map two).Pairwise fun u v=>HT.b4 v u=false):WD n ws ls':=
 ⟨h1,fun l hl=>h2 l (p.mem_iff.mp hl),by rw [p.length_eq]; exact h3,Q0 so (p.nodup_iff.mpr nd),h4⟩
def lF:bA:=fun xs Q=>∃ c d n m:Int,xs = [.int c,.int d,.int n,.int m]/\0<=n/\n<=8/\0 < m/\m<=61/\∀ ws ls,WD n ws ls->Q (e7 ws ls)
abbrev uM:aQ:=O9
theorem T4 : bX uM ["wants_cell", "links_cell", "many", "most", "wants", "k", "links", "one", "other"] lF := by
 rintro xs Q ⟨c, d, n, m, rfl, n0, n1, m0, m1, q⟩
 refine ⟨by decide, rfl, rfl, rfl, ?_⟩
 refine ⟨_, rfl, n, rfl, by omega, by omega, fun i ρ => ∃ (c' : Int) (y : Option Slot) (ws : List Int), ρ = [si c', si d, si n, si m, some (.own (.lst (intz ws))), y, none, none, none] /\ ws.length = i /\ ∀ w ∈ ws, 0 <= w /\ w <= 60, ⟨c, none, [], rfl, rfl, fun _ h => nomatch h⟩, ?_, ?_⟩
 ·rintro i y ρ hy ⟨c', y0, ws, rfl, hl, hp⟩
  obtain ⟨rfl, hi⟩ := gA hy
  refine ⟨_, rfl, _, rfl, _, rfl, _, _, rfl, rfl, m0, trivial, by rw [bZ]; omega, ?_⟩
  refine ⟨_, rfl, _, rfl, _, _, rfl, rfl, ⟨m0, by omega⟩, trivial, ?_⟩
  refine ⟨c' / m, si (0 + (i : Int)), ws ++ [c' % m], ?_, by rw [af4, hl]; rfl, fun w hw => ?_⟩
  ·rw [l7]; rfl
  ·rcases ag4.mp hw with hw | hw
   ·exact hp w hw
   ·rw [ae4.mp hw]; exact ⟨aj0 _ (by omega), by have := ah9 c' m0; omega⟩
 rintro ρ ⟨c', y0, ws, rfl, hl, hp⟩
 rw [dX] at hl
 refine ⟨by decide, rfl, rfl, rfl, ?_⟩
 refine ⟨_, rfl, n, rfl, by omega, by omega, fun i ρ => ∃ (d' : Int) (y z : Option Slot) (ls : List (Int × Int)), ρ = [si c', si d', si n, si m, some (.own (.lst (intz ws))), y0, some (.own (.lst (aY ls))), y, z] /\ dJ n ls i 0 /\ ls.length <= i * 7, ⟨d, none, none, [], rfl, ⟨(fun _ h => nomatch h), .nil, (fun _ h => nomatch h)⟩, ah7 _⟩, ?_, ?_⟩
 ·rintro i y ρ hy ⟨d', y1, z, ls, rfl, hin, hll⟩
  obtain ⟨rfl, hi⟩ := gA hy
  refine ⟨_, rfl, _, _, rfl, rfl, _, rfl, _, _, rfl, rfl, by omega, fun j ρ => ∃ (d' : Int) (z : Option Slot) (ls : List (Int × Int)), ρ = [si c', si d', si n, si m, some (.own (.lst (intz ws))), y0, some (.own (.lst (aY ls))), si (0 + (i : Int)), z] /\ dJ n ls i (i + 1 + j) /\ ls.length <= i * 7 + j, ⟨d', z, ls, rfl, hin.mono (.inr ⟨rfl, by omega⟩), by omega⟩, ?_, ?_⟩
  ·rintro j y ρ hy ⟨d2, z2, ls2, rfl, hin2, hl2⟩
   obtain ⟨rfl, hj⟩ := gA hy
   refine ⟨_, rfl, _, _, rfl, rfl, (by show (0 : Int) < 2; decide), .inl ⟨_, _, rfl, rfl, _, rfl, ?_⟩⟩
   have tail : ∀ ls3 : List (Int × Int), dJ n ls3 i (i + 1 + (j + 1 : Nat)) -> ls3.length <= i * 7 + (j + 1) -> (b9 1 (cB (a6 1) (qC (.int 2)))) { nx := fun ρ => ∃ (d' : Int) (z : Option Slot) (ls : List (Int × Int)), ρ = [si c', si d', si n, si m, some (.own (.lst (intz ws))), y0, some (.own (.lst (aY ls))), si (0 + (i : Int)), z] /\ dJ n ls i (i + 1 + (j + 1 : Nat)) /\ ls.length <= i * 7 + (j + 1), rt := Q }
     [si c', si d2, si n, si m, some (.own (.lst (intz ws))), y0, some (.own (.lst (aY ls3))), si (0 + (i : Int)), si (0 + (i : Int) + 1 + (j : Int))] := fun ls3 h3 h4 =>
    ⟨_, rfl, _, _, rfl, rfl, ⟨by decide, by decide⟩, trivial, _, _, ls3, rfl, h3, h4⟩
   by_cases h : d2 % 2 = 1
   ·show if decide (d2 % 2 = 1) = true then _ else _
    rw [af0 h]
    refine bU ⟨_, rfl, _, rfl, _, rfl, by show 2 <= 1000; decide, rfl, trivial, by rw [l8]; omega, ?_⟩
    have ad := hin2.add (by omega)
    have := tail (ls2 ++ [((i : Int), (i : Int) + 1 + (j : Int))]) (by have e : (i : Int) + 1 + ((j + 1 : Nat) : Int) = (i : Int) + 1 + (j : Int) + 1 := (by omega); rw [e]; exact ad) (by rw [af4, List.length_singleton]; omega)
    unfold aY at this
    rw [ag5] at this
    rw [show (0 : Int) + (i : Int) = (i : Int) by omega] at this ⊢
    exact this
   ·show if decide (d2 % 2 = 1) = true then _ else _
    rw [ad7 h]
    exact aT (tail ls2 (hin2.mono (.inr ⟨rfl, by omega⟩)) (by omega))
  ·rintro ρ ⟨d2, z2, ls2, rfl, hin2, hl2⟩
   rw [dX] at hl2
   exact ⟨d2, _, z2, ls2, rfl, hin2.mono (.inl (by omega)), by omega⟩
 rintro ρ ⟨d', y1, z, ls, rfl, hin, hll⟩
 rw [dX] at hll
 refine ⟨_, rfl, ⟨_, _, rfl, rfl, dS _, _, rfl, ⟨_, _, rfl, rfl, fH _, by show 2 <= 1000; decide, ?_, trivial, q ws ls ⟨by omega, hin.inn, by omega, hin.ord, hp⟩⟩, fun ns z => by cases z⟩, fun ns z => by cases z⟩
 show (flat (.tup (intz ws)) && (flat (.tup (aY ls)) && true)) = true
 rw [tU]
 show (true && (flats (aY ls) && true)) = true
 rw [show flats (aY ls) = true from fH ls]; rfl
def lG:bA:=fun xs Q=>∃ c n:Int,xs = [.int c,.int n]/\0<=n/\n<=40/\∀ ws ls,WD n ws ls->Q (e7 ws ls)
def uN:aQ:=(aK (fS 2 (eD aB))
 (aK (fS 3 (eD aB))
 (aK (b9 4 (gS (qC (.int 1)) (bP (a6 0) (qC (.int 8)))))
 (aK (cY (fU (a6 1)) (bO 5)
  (aK (gQ 2 (bP (cB (a6 0) (gS (qC (.int 8)) (a6 5))) (qC (.int 61))))
  (cY (kR (gS (a6 5) (qC (.int 1))) (a6 1)) (bO 6)
   (aK (b9 7 (gS (gS (bP (a6 0) (qC (.int 1000000007))) (iF (iF (qC (.int 977)) (a6 5)) (a6 5))) (iF (qC (.int 40692)) (a6 6))))
   (aK (b9 7 (bP (iF (gS (a6 7) (qC (.int 1))) (qC (.int 48271))) (qC (.int 2147483647))))
   (bD (aS (kU (bP (cB (bP (iF (a6 7) (a6 7)) (qC (.int 2147483647))) (qC (.int 8))) (qC (.int 8))) (a6 4))) (gQ 3 (eC (a7 (a6 5) (a7 (a6 6) aB)))) bC))))))
 (aX (eC (a7 (aF fE (a7 (a6 2) aB)) (a7 (aF fE (a7 (a6 3) aB)) aB))))))))
theorem T5:bX uN ["cell","many","wants","links","mark","one","other","number"] lG:=by
 rintro xs Q ⟨c,n,rfl,n0,n1,q⟩
 refine⟨by decide,rfl,rfl,rfl,?_⟩
 refine⟨by decide,rfl,rfl,rfl,?_⟩
 refine⟨_,rfl,_,_,rfl,rfl,(by show (0:Int) < 8; decide),_,_,rfl,rfl,trivial,?_⟩
 dsimp only
 generalize (1:Int)+c % 8=mk
 refine⟨_,rfl,n,rfl,by omega,by omega,fun i ρ=>∃ (y5 y6 y7:Option Slot) (ws:List Int) (ls:List (Int × Int)),ρ = [si c,si n,some (.own (.lst (intz ws))),some (.own (.lst (aY ls))),si mk,y5,y6,y7]/\ws.length=i/\(∀ w ∈ ws,0<=w/\w<=60)/\dJ n ls i 0/\ls.length<=i * 40,
  ⟨none,none,none,[],[],rfl,rfl,(fun _ h=>nomatch h),⟨(fun _ h=>nomatch h),.nil,(fun _ h=>nomatch h)⟩,ah7 _⟩,?_,?_⟩
 ·rintro i y ρ hy ⟨y5,y6,y7,ws,ls,rfl,hw,hp,hin,hll⟩
  obtain ⟨rfl,hi⟩:=gA hy
  have e0:(0:Int)+(i:Int)=(i:Int):=by omega
  rw [e0]
  refine⟨_,rfl,_,rfl,_,rfl,_,_,rfl,rfl,_,_,rfl,rfl,⟨by omega,by omega⟩,_,_,rfl,rfl,(by show (0:Int) < 61; decide),trivial,by rw [bZ]; omega,?_⟩
  dsimp only
  have u0:0<=c / (8+(i:Int)) % 61:=aj0 _ (by decide)
  have u1:c / (8+(i:Int)) % 61 < 61:=ah9 _ (by decide)
  generalize c / (8+(i:Int)) % 61=u at u0 u1
  have ex:intz ws ++ [PV.int u]=intz (ws ++ [u]):=(l7 ws [u]).symm
  rw [ex]
  refine⟨_,rfl,_,_,rfl,rfl,_,rfl,_,_,rfl,rfl,by omega,fun j ρ=>∃ (y6 y7:Option Slot) (ls:List (Int × Int)),ρ = [si c,si n,some (.own (.lst (intz (ws ++ [u])))),some (.own (.lst (aY ls))),si mk,si i,y6,y7]/\dJ n ls i (i+1+j)/\ls.length<=i * 40+j,⟨y6,y7,ls,rfl,hin.mono (.inr ⟨rfl,by omega⟩),by omega⟩,?_,?_⟩
  ·rintro j y ρ hy ⟨z6,z7,ls2,rfl,hin2,hl2⟩
   obtain ⟨rfl,hj⟩:=gA hy
   refine⟨_,rfl,_,_,rfl,rfl,(by show (0:Int) < 1000000007; decide),_,rfl,_,_,rfl,rfl,.inl ⟨by decide,by decide⟩,_,rfl,_,_,rfl,rfl,.inr ⟨by omega,by omega⟩,_,_,rfl,rfl,_,rfl,_,_,rfl,rfl,.inl ⟨by decide,by decide⟩,_,_,rfl,rfl,trivial,?_⟩
   dsimp only
   generalize c % 1000000007+977 * (i:Int) * (i:Int)+40692 * ((i:Int)+1+(j:Int))=nm
   refine⟨_,rfl,_,_,rfl,rfl,_,_,rfl,rfl,.inr ⟨by decide,by decide⟩,_,_,rfl,rfl,(by show (0:Int) < 2147483647; decide),trivial,?_⟩
   dsimp only
   have b1:0<=(nm+1) * 48271 % 2147483647:=aj0 _ (by decide)
   have b2:(nm+1) * 48271 % 2147483647 < 2147483647:=ah9 _ (by decide)
   generalize (nm+1) * 48271 % 2147483647=num at b1 b2
   refine⟨_,rfl,_,rfl,_,_,rfl,rfl,.inl ⟨by omega,by omega⟩,_,_,rfl,rfl,(by show (0:Int) < 2147483647; decide),_,_,rfl,rfl,⟨by decide,by decide⟩,_,_,rfl,rfl,(by show (0:Int) < 8; decide),_,rfl,_,_,rfl,rfl,_,rfl,?_⟩
   dsimp only
   cases hc:decide (num * num % 2147483647 / 8 % 8 < mk) with
   | false=>exact aT ⟨si ((i:Int)+1+(j:Int)),si num,ls2,rfl,hin2.mono (.inr ⟨rfl,by omega⟩),by omega⟩
   | true=>
    refine bU ⟨_,rfl,_,rfl,_,rfl,by show 2<=1000; decide,rfl,trivial,by rw [l8]; omega,?_⟩
    have ad:=hin2.add (by omega)
    refine⟨si ((i:Int)+1+(j:Int)),si num,ls2 ++ [((i:Int),(i:Int)+1+(j:Int))],?_,?_,by rw [af4,List.length_singleton]; omega⟩
    ·unfold aY
     rw [ag5]; rfl
    ·have e:(i:Int)+1+((j+1:Nat):Int)=(i:Int)+1+(j:Int)+1:=by omega
     rw [e]; exact ad
  ·rintro ρ ⟨z6,z7,ls2,rfl,hin2,hl2⟩
   rw [dX] at hl2
   refine⟨si i,z6,z7,ws ++ [u],ls2,rfl,by rw [af4,hw]; rfl,fun w hw'=>?_,hin2.mono (.inl (by omega)),by omega⟩
   rcases ag4.mp hw' with h | h
   ·exact hp w h
   ·rw [ae4.mp h]; omega
 rintro ρ ⟨y5,y6,y7,ws,ls,rfl,hw,hp,hin,hll⟩
 rw [dX] at hw hll
 refine⟨_,rfl,⟨_,_,rfl,rfl,dS _,_,rfl,⟨_,_,rfl,rfl,fH _,by show 2<=1000; decide,tT ws ls,trivial,q ws ls ⟨by omega,hin.inn,by omega,hin.ord,hp⟩⟩,fun ns z=>by cases z⟩,fun ns z=>by cases z⟩
def jI:bA:=fun xs Q=>∃ x ns n wy,xs = [x,.int n,.int wy]/\fI x ns/\ns.length<=63/\0<=n/\n<=40/\∀ ws ls,WD n ws ls->Q (e7 ws ls)
def oN:aQ:=(aK (bD (j5 (aS (kW (bP (cB (a6 2) (qC (.int 4))) (qC (.int 2))) (qC (.int 1)))) (aS (kU (a6 1) (qC (.int 9))))) (aX (aF lF (a7 (aF fJ (a7 (a6 0) (a7 (qC (.int 0)) aB))) (a7 (aF fJ (a7 (a6 0) (a7 (qC (.int 1)) aB))) (a7 (a6 1) (a7 (bJ (eD (a7 (qC (.int 4)) (a7 (qC (.int 3)) (a7 (qC (.int 6)) (a7 (qC (.int 61)) aB))))) (bP (a6 2) (qC (.int 4)))) aB)))))) bC)
 u8)
def uO:aQ:=(aK (bD (j5 (aS (kW (bP (cB (a6 2) (qC (.int 8))) (qC (.int 4))) (qC (.int 1)))) (aS (iG (a6 1) (qC (.int 8))))) (aX (aF lG (a7 (aF fJ (a7 (a6 0) (a7 (qC (.int 0)) aB))) (a7 (a6 1) aB)))) bC)
 oN)
theorem T6 {x:PV}{ns:List Int}{n wy:Int}{Q:PV->Prop} (hx:fI x ns) (hns:ns.length<=63) (n0:0<=n) (n1:n<=40) (q:∀ ws ls,WD n ws ls->Q (e7 ws ls)):oN { nx:=fun _=>Q .non,rt:=Q } [some (.sh (flat x) x),si n,si wy,none,none,none,none,none,none]:=by
 have d4:(0:Int) < 4:=by decide
 have last:u8 { nx:=fun _=>Q .non,rt:=Q } [some (.sh (flat x) x),si n,si wy,none,none,none,none,none,none]:=by
  refine⟨by decide,rfl,rfl,rfl,?_⟩
  refine⟨_,rfl,n,rfl,by omega,by omega,fun i ρ=>∃ (y z:Option Slot) (ws:List Int),ρ = [some (.sh (flat x) x),si n,si wy,some (.own (.lst (intz ws))),y,z,none,none,none]/\ws.length=i/\∀ w ∈ ws,0<=w/\w<=60,⟨none,none,[],rfl,rfl,fun _ h=>nomatch h⟩,?_,?_⟩
  ·rintro i y ρ hy ⟨y0,z0,ws,rfl,hl,hp⟩
   obtain ⟨rfl,hi⟩:=gA hy
   refine⟨_,rfl,_,rfl,x,ns,_,rfl,hx,by omega,trivial,?_⟩
   generalize ns.getD ((0:Int)+(i:Int)).toNat 0=cell
   obtain ⟨z,hz,hzz⟩:=u9 (a:=cell / 5 % 4) (b:=cell / 5 % 3) (c:=cell / 5 % 6) (d:=cell / 5 % 61) (i:=wy % 4) (aj0 _ (by decide)) (ah9 _ d4)
   refine⟨_,rfl,_,rfl,_,_,rfl,rfl,⟨by decide,by decide⟩,_,_,rfl,rfl,d4,_,rfl,_,_,rfl,rfl,⟨by decide,by decide⟩,_,_,rfl,rfl,(by show (0:Int) < 3; decide),_,rfl,_,_,rfl,rfl,⟨by decide,by decide⟩,_,_,rfl,rfl,(by show (0:Int) < 6; decide),_,rfl,_,_,rfl,rfl,⟨by decide,by decide⟩,_,_,rfl,rfl,(by show (0:Int) < 61; decide),by show 4<=1000; decide,rfl,_,rfl,_,_,rfl,rfl,d4,_,_,_,rfl,rfl,hz,tW _ _,by rw [bZ]; omega,?_⟩
   refine⟨si (0+(i:Int)),si cell,ws ++ [z],?_,by rw [af4,hl]; rfl,fun w hw=>?_⟩
   ·rw [l7]; rfl
   ·rcases ag4.mp hw with hw | hw
    ·exact hp w hw
    ·rw [ae4.mp hw]
     rcases hzz with e | e | e | e <;> rw [e] <;> omega
  rintro ρ ⟨y0,z0,ws,rfl,hl,hp⟩
  rw [dX] at hl
  refine⟨rfl,rfl,?_⟩
  refine⟨_,rfl,_,hx.seq,Q5 hx,fun i ρ=>∃ (y z u:Option Slot) (ps:List (List aG × PV)),ρ = [some (.sh (flat x) x),si n,si wy,some (.own (.lst (intz ws))),y0,y,some (.own (.dT ps)),z,u]/\DL n ps i,⟨z0,none,none,[],rfl,⟨(fun _ h=>nomatch h),ad6 _,rfl,.nil⟩⟩,?_,?_⟩
  ·rintro i y ρ hy ⟨y1,z1,u1,ps,rfl,dl⟩
   obtain ⟨cell,rfl,hc⟩:=oA hy
   have hi:i < ns.length:=(ae7.mp hc).1
   generalize nV _ _=gg
   have dl1:DL n ps (i+1):=⟨dl.key,Nat.le_succ_of_le dl.len,dl.fl,dl.nd⟩
   refine⟨_,rfl,_,_,rfl,rfl,_,rfl,?_⟩
   by_cases h1:(1:Int) < n
   ·dsimp only
    rw [af0 h1]
    have np:(0:Int) < n:=by omega
    refine bU ⟨_,rfl,_,rfl,_,_,rfl,rfl,np,trivial,?_⟩
    refine⟨_,rfl,_,_,rfl,rfl,(by show (0:Int) < 1000000007; decide),_,_,rfl,rfl,.inr ⟨by decide,by decide⟩,_,_,rfl,rfl,(by show (0:Int) < 2147483647; decide),_,_,rfl,rfl,⟨by decide,by decide⟩,_,rfl,_,_,rfl,rfl,np,trivial,?_⟩
    dsimp only
    generalize hone:cell % n=one
    generalize hoth:cell % 1000000007 * 48271 % 2147483647 / 89 % n=oth
    have o1:0<=one/\one < n:=by rw [<- hone]; exact⟨aj0 _ (by omega),ah9 _ np⟩
    have o2:0<=oth/\oth < n:=by rw [<- hoth]; exact⟨aj0 _ (by omega),ah9 _ np⟩
    refine⟨_,rfl,_,rfl,.inl ⟨_,_,rfl,rfl,_,rfl,?_⟩⟩
    by_cases h2:one=oth
    ·show if (!decide (one=oth))=true then _ else _
     rw [af0 h2]
     exact aT ⟨some (.sh (gg || true) (.int cell)),si one,si oth,ps,rfl,dl1⟩
    ·show if (!decide (one=oth))=true then _ else _
     rw [ad7 h2]
     refine bU ⟨_,rfl,_,rfl,_,rfl,_,_,rfl,_,rfl,_,rfl,_,_,rfl,by show 2<=1000; decide,rfl,hE (if oth < one then oth else one,if oth > one then oth else one),rfl,trivial,by have:=dl.len; omega,?_⟩
     refine⟨some (.sh (gg || true) (.int cell)),si one,si oth,_,rfl,dl.put _ ?_⟩
     dsimp only
     split <;> split <;> omega
   ·dsimp only
    rw [ad7 h1]
    exact aT ⟨some (.sh (gg || true) (.int cell)),z1,u1,ps,rfl,dl1⟩
  rintro ρ ⟨y1,z1,u1,ps,rfl,dl⟩
  rw [bZ] at dl
  obtain ⟨ls,e1,e2,e3,e4⟩:=DL.links dl.key
  have lnd:ls.Nodup:=by
   have:=dl.nd
   rw [e4] at this
   exact (List.pairwise_map.mp this).imp fun h e=>h (congrArg hE e)
  have hlen:=dl.len
  refine⟨_,rfl,⟨_,_,rfl,rfl,dS _,_,rfl,ps,rfl,ls.map two,?_,by rw [ad1]; omega,?_,fun zs pz so=>?_⟩,fun ns z=>by cases z⟩
  ·show [PV.lst (ps.map fun p=>PV.tup (p.1.map kP))]=_
   rw [e1,u6]
  ·intro y hy z
   obtain ⟨l,_,rfl⟩:=ag8.mp hy
   cases z
  obtain ⟨ls',rfl,pl⟩:=P9 pz
  rw [<- u6]
  exact⟨⟨_,_,rfl,rfl,fH _,by show 2<=1000; decide,u7 _ _,trivial,q ws ls' (WD.perm (by omega) e2 (by omega) lnd hp pl so)⟩,fun ns z=>by cases z⟩
 refine⟨_,rfl,_,_,rfl,rfl,⟨by decide,by decide⟩,_,_,rfl,rfl,(by show (0:Int) < 2; decide),.inl ⟨_,_,rfl,rfl,_,rfl,?_⟩⟩
 cases hc:(decide (wy / 4 % 2=1)) with
 | false=>exact aT (aT last)
 | true=>
  refine bU ⟨_,rfl,_,_,rfl,rfl,_,rfl,?_⟩
  by_cases h:n < 9
  ·dsimp only
   rw [af0 h]
   obtain ⟨z,hz,e⟩:=u9 (a:=4) (b:=3) (c:=6) (d:=61) (i:=wy % 4) (aj0 _ (by decide)) (ah9 _ d4)
   refine bU ⟨_,rfl,x,ns,0,rfl,hx,by decide,_,rfl,x,ns,1,rfl,hx,by decide,_,rfl,by show 4<=1000; decide,rfl,_,rfl,_,_,rfl,rfl,d4,_,_,_,rfl,rfl,hz,_,_,n,z,rfl,n0,by omega,by omega,by omega,fun ws ls w=>⟨trivial,q ws ls w⟩⟩
  ·dsimp only
   rw [ad7 h]; exact aT last
theorem T7:bX uO ["flow","many","way","wants","k","cell","pairs","one","other"] jI:=by
 rintro xs Q ⟨x,ns,n,wy,rfl,hx,hns,n0,n1,q⟩
 have d4:(0:Int) < 4:=by decide
 have mid:oN { nx:=fun _=>Q .non,rt:=Q } [some (.sh (flat x) x),si n,si wy,none,none,none,none,none,none]:=T6 hx hns n0 n1 q
 refine⟨_,rfl,_,_,rfl,rfl,⟨by decide,by decide⟩,_,_,rfl,rfl,d4,.inl ⟨_,_,rfl,rfl,_,rfl,?_⟩⟩
 cases hc:(decide (wy / 8 % 4=1)) with
 | false=>exact aT (aT mid)
 | true=>
  refine bU ⟨_,rfl,_,_,rfl,rfl,_,rfl,?_⟩
  by_cases h:(8:Int) < n
  ·dsimp only
   rw [af0 h]
   exact bU ⟨_,rfl,x,ns,0,rfl,hx,by decide,_,rfl,_,n,rfl,by omega,by omega,fun ws ls w=>⟨trivial,q ws ls w⟩⟩
  ·dsimp only
   rw [ad7 h]; exact aT mid
def lH:bA:=fun xs Q=>∃ ws ls x y,xs = [e7 ws ls,.tup [x,y]]/\gZ x ws/\(y = .tup (aY ls) ∨ y = .lst (aY ls))/\ws.length<=1000/\ls.length<=100000/\Q (.bl true)
def uP (K:PySem.W.Frag):aQ:=(aK (bD (fB (dF (aS (dY K "tuple" (a6 0)))) (fB (aS (gT (aF cN (a7 (a6 0) aB)) (qC (.int 2)))) (dF (aS (aF jG (a7 (bJ (a6 0) (qC (.int 0))) (a7 (bJ (a6 1) (qC (.int 0))) aB))))))) (aX (qC (.bl false))) bC)
 (aK (bD (fB (dF (aS (dY K "tuple" (bJ (a6 0) (qC (.int 1)))))) (aS (gT (aF cN (a7 (bJ (a6 0) (qC (.int 1))) aB)) (aF cN (a7 (bJ (a6 1) (qC (.int 1))) aB))))) (aX (qC (.bl false))) bC)
 (aK (cY (fU (aF cN (a7 (bJ (a6 1) (qC (.int 1))) aB))) (bO 2)
  (bD (dF (aS (aF jG (a7 (bJ (bJ (a6 0) (qC (.int 1))) (a6 2)) (a7 (bJ (bJ (a6 1) (qC (.int 1))) (a6 2)) aB))))) (aX (qC (.bl false))) bC))
 (aX (qC (.bl true))))))
theorem T8 {K:PySem.W.Frag} (kt:PySem.W.kitOne K (.type "tuple") (.type "tuple")=some true):bX (uP K) ["found","due","k"] lH:=by
 rintro xs Q ⟨ws,ls,x,y,rfl,hx,hy,lw,ll,q⟩
 have sy:gP y=some (aY ls):=by rcases hy with rfl | rfl <;> rfl
 have ly:kQ y=some (aY ls).length:=by rcases hy with rfl | rfl <;> rfl
 have pl:(aY ls).length=ls.length:=ad1 _
 refine⟨_,rfl,_,_,rfl,kt,_,rfl,aT ⟨_,rfl,_,_,rfl,rfl,.inl ⟨_,_,rfl,rfl,_,rfl,?_⟩⟩⟩
 show if (!decide ((2:Int)=2))=true then _ else _
 refine aT ⟨_,rfl,_,_,_,rfl,rfl,rfl,_,rfl,_,_,_,rfl,rfl,rfl,x,ws,ws,rfl,hx,lw,lw,_,rfl,?_⟩
 rw [af0 rfl]
 refine aT ?_
 refine⟨_,rfl,_,_,_,rfl,rfl,rfl,_,_,rfl,kt,_,rfl,aT ⟨_,rfl,_,_,_,rfl,rfl,rfl,_,_,rfl,rfl,_,rfl,_,_,_,rfl,rfl,rfl,_,_,rfl,ly,.inl ⟨_,_,rfl,rfl,_,rfl,?_⟩⟩⟩
 show if (!decide (((aY ls).length:Int)=((aY ls).length:Int)))=true then _ else _
 rw [af0 rfl]
 refine aT ?_
 refine⟨_,rfl,_,_,_,rfl,rfl,rfl,_,_,rfl,ly,_,rfl,by omega,by omega,fun i ρ=>∃ z,ρ = [some (.sh (flat (e7 ws ls)) (e7 ws ls)),some (.sh (flat (.tup [x,y])) (.tup [x,y])),z],⟨none,rfl⟩,?_,?_⟩
 ·rintro i z ρ hz ⟨z0,rfl⟩
  obtain ⟨rfl,hi⟩:=gA hz
  have i1:i < ls.length:=by omega
  have hl:ls[i]? = some ls[i]:=ae8 i1
  have a1:L2.atI (aY ls) ((0:Int)+(i:Int))=some (.tup (intz [ls[i].1,ls[i].2])):=by
   rw [show (0:Int)+(i:Int)=(i:Int) by omega]
   exact k7 (by unfold aY; rw [ad9,hl]; rfl)
  refine⟨_,rfl,_,_,_,rfl,rfl,rfl,_,rfl,_,_,_,rfl,rfl,a1,_,rfl,_,_,_,rfl,rfl,rfl,_,rfl,_,_,_,sy,rfl,a1,_,[ls[i].1,ls[i].2],[ls[i].1,ls[i].2],rfl,.inl rfl,by show 2<=1000; decide,by show 2<=1000; decide,_,rfl,?_⟩
  rw [af0 rfl]
  exact aT ⟨_,rfl⟩
 ·rintro ρ ⟨z,rfl⟩
  exact⟨trivial,q⟩
end Core
namespace Txs
open PySem
abbrev nS (n:Nat):Str:=Str.ofString (toString (n:Int))
end Txs
namespace L2
open PySem PySem.Spec PyProof.Rows Txs
section
variable {X : Cx}
theorem T9:bW X (.type "int") (fun xs H Q=>∃ n:Nat,xs = [.str (nS n)]/\n < 61/\Q (.int (n:Int)) H):=by
 rintro pins s σ H xs us Q I r ⟨n,rfl,hn,q⟩
 obtain ⟨u,rfl,t,rfl⟩:=dO r
 exact PySem.W.KIN.call_num (n:=(n:Int)) (by omega) (by omega) ⟨.int n,H,I.tok _,⟨_,rfl⟩,q⟩
theorem uQ:∀ l:List (Str × Tok),aH ((l.map (·.1)).map V.str) (strValues l)
 | []=>.nil
 | p :: l=>.cons ⟨p.2,rfl⟩ (uQ l)
theorem U0:mN X "str.split" (fun x vs H Q=>∃ a b:Str,x = .str a/\vs = [.str b]/\b.length ≠ 0/\a.length<=100000/\∀ p,H p=none->Q (.ref p) (upd H p (.lst ((Txt.split a b).map V.str)))):=by
 rintro pins s σ H x xs v us Q I rx rv ⟨a,b,rfl,rfl,hb,ha,q⟩
 obtain ⟨t,rfl⟩:=rx
 obtain ⟨u,rfl,t2,rfl⟩:=dO rv
 have hb:(b.length == 0)=false:=by simpa using hb
 have ol:=StrLaws.occ_length_le a b 0 a.length (a.length+1)
 have sz:a.length+2<=sizeLine:=by rw [sizeLine_eq]; omega
 have fin:∀ (l:List (Str × Tok)) (k:Nat),l.map (·.1)=Txt.split a b->l.length<=a.length+2->EP X pins σ Q (.ref s.heap.objs.size) { s with heap:=s.heap.push { cls:=.type "list",data:=.seq (strValues l).toArray },toks:=k }:=fun l k e hl=>by
  refine⟨.ref s.heap.objs.size,_,I.laid (t':=k) (o:=.lst ((l.map (·.1)).map V.str)) (fun b ob z=>ad0 _ z) (ad6 _) ⟨by rw [ad1,ad1]; omega,strValues l,0,uQ l,ae1 _ rfl⟩,rfl,?_⟩
  rw [e]
  exact q _ (I.hok.fresh (ad6 _))
 cases h1:(decide (a.length < b.length) || decide (Builtin.Str.strKind a < Builtin.Str.strKind b)) with
 | true=>exact call_meets F.slot_str_split (typeIs_str _ _ _) F.entry_str_split (F.args_str_split_2 _ _) (meets_str_split_cannot_occur a b t t2 h1) (fin [(a,t)] s.toks (if_pos h1).symm (by show 1<=_; omega))
 | false=>
  have eZ:=ne_true_of_eq_false h1
  cases hf:(Builtin.Str.occurrences a b 0 a.length (a.length+1)).isEmpty with
  | true=>exact call_meets F.slot_str_split (typeIs_str _ _ _) F.entry_str_split (F.args_str_split_2 _ _) (meets_str_split_not_found a b t t2 h1 hb hf) (fin [(a,t)] s.toks ((if_neg eZ).trans (if_pos hf)).symm (by show 1<=_; omega))
  | false=>
   refine call_meets F.slot_str_split (typeIs_str _ _ _) F.entry_str_split (F.args_str_split_2 _ _) (meets_str_split_sep a b t t2 h1 hb hf (by omega) (by rw [length_partsBetween]; omega)) ?_
   have e:Txt.split a b=Builtin.Str.partsBetween a (Builtin.Str.occurrences a b 0 a.length (a.length+1)) b.length:=(if_neg eZ).trans (if_neg (ne_true_of_eq_false hf))
   have r:=fun k=>fin (numbered s.toks (Builtin.Str.partsBetween a (Builtin.Str.occurrences a b 0 a.length (a.length+1)) b.length)) k ((numbered_texts _ _).trans e.symm) (by have:=congrArg List.length (numbered_texts s.toks (Builtin.Str.partsBetween a (Builtin.Str.occurrences a b 0 a.length (a.length+1)) b.length)); rw [ad1,length_partsBetween] at this; omega)
   rw [<- strsFrom_eq] at r
   exact r _
theorem uR:∀ {ws:List Str}{us:List Value},aH (ws.map V.str) us->CarriedAll us (ws.map fun a=>PyData.str a)
 | [],_,.nil=>.nil
 | _ :: _,_,.cons ⟨_,e⟩ r=>by subst e; exact .cons (.str _ _) (uR r)
theorem U1:mN X "str.join" (fun x vs H Q=>∃ (a:Str) (l:Addr) (ws:List Str),x = .str a/\vs = [.ref l]/\aM X.K H l (ws.map V.str)/\(∀ w ∈ ws,w.length<=12)/\a.length<=4/\ws.length<=100000/\Q (.str (Txt.join a ws)) H):=by
 rintro pins s σ H x xs v us Q I rx rv ⟨a,l,ws,rfl,rfl,hl,hw,ha,hn,q⟩
 obtain ⟨t,rfl⟩:=rx
 obtain ⟨u,rfl,ru⟩:=dO rv
 cases ru
 obtain ⟨its,r,p,_⟩:=I.list hl
 have:=PySem.W.KT.join_B (g:=fun a:Str=>a) 12 p.isList (uR r) hw (by omega) (by omega) (Q:=EP X pins σ Q) (x:=a) (t:=t) (prog:=X.prog) (w:=X.w) (A:=X.A) (E:=X.xe) fun t' k=>⟨.str _,H,I.tok k,⟨_,rfl⟩,by rw [List.map_id']; exact q⟩
 exact this
end
theorem oO:∀ m:Nat,m < 61->(m:Int).natAbs.log2 < 1920:=by decide +kernel
theorem lI:∀ m:Nat,m < 61->(nS m).length<=2:=by decide +kernel
section
variable {X : Cx} {a b : Expr} {ta tb : TE} {pos p1 p2 p3 : Pos} {c : Str} {kk : Nat}
def U2 (c:Str) (ta tb:TE):TE:=fun σ H Q=>ta σ H fun x H1=>∃ m:Nat,x = .int m/\m < 61/\tb σ H1 fun y H2=>∃ n:Nat,y = .int n/\n < 61/\Q (.str (nS m ++ c ++ nS n)) H2
theorem dB (x y:Str):(x ++ y).length=x.length+y.length:=strLen_append x y
theorem jJ (x:Str):Str.empty ++ x=x:=by
 obtain ⟨c⟩:=x
 show (⟨#[] ++ c⟩:Str)=⟨c⟩
 simp
theorem U3 (hc:c.length<=100) (ha:PE X a ta) (hb:PE X b tb)
  (he:evalEach [.FormattedValue a (-1) none p1,.Constant (.str c) kk p2,.FormattedValue b (-1) none p3] X.env = [eval (.FormattedValue a (-1) none p1) X.env,eval (.Constant (.str c) kk p2) X.env,eval (.FormattedValue b (-1) none p3) X.env]:=by rfl) :
  PE X (.JoinedStr [.FormattedValue a (-1) none p1,.Constant (.str c) kk p2,.FormattedValue b (-1) none p3] pos) (U2 c ta tb):=by
 intro pins s σ H Q I h
 refine wpAny_JoinedStr ?_
 rw [he]
 have sl:1000<=sizeLine:=by rw [sizeLine_eq]; decide
 refine wpAny_FormattedValue_plain (aI (ha pins s σ H _ I h) fun v s1 ⟨x,H1,I1,r1,m,ex,hm,q1⟩=>?_)
 subst ex
 obtain ⟨t1,rfl⟩:=r1
 have l1:=lI m hm
 refine wpAny_formatField_int (oO m hm) ⟨nS m,_,rfl,by rw [jJ]; omega,?_⟩
 refine Calls.Constant_str ⟨c,_,rfl,by rw [jJ,dB]; omega,?_⟩
 refine wpAny_FormattedValue_plain (aI (hb pins _ σ H1 _ ((I1.tok _).tok _) q1) fun v s2 ⟨y,H2,I2,r2,n,ey,hn,q2⟩=>?_)
 subst ey
 obtain ⟨t2,rfl⟩:=r2
 have l2:=lI n hn
 refine wpAny_formatField_int (oO n hn) ⟨nS n,_,rfl,by rw [jJ,dB,dB]; omega,by rw [jJ,dB,dB]; omega,?_⟩
 rw [jJ]
 exact⟨.str (nS m ++ c ++ nS n),H2,(I2.tok _).tok _,⟨_,rfl⟩,q2⟩
end
end L2
namespace PP
open PySem L2 PyProof.Rows Txs
section
variable {X : Cx} {σ : L2.St} {H : Hp} {Q' : VK} {a b e o : Expr} {ta tb te : aA} {tr : bV} {pos p1 p2 p3 apos cpos : Pos} {c : Str} {kk : Nat}
def uS (c:Str) (ta tb:aA):aA:=fun ρ Q=>ta ρ fun x _=>∃ m:Nat,x = .int m/\m < 61/\tb ρ fun y _=>∃ n:Nat,y = .int n/\n < 61/\Q (.str (nS m ++ c ++ nS n)) .fr
theorem U4 (ha:QE X a ta) (hb:QE X b tb) (hc:c.length<=100:=by decide) (he:evalEach [.FormattedValue a (-1) none p1,.Constant (.str c) kk p2,.FormattedValue b (-1) none p3] X.env = [eval (.FormattedValue a (-1) none p1) X.env,eval (.Constant (.str c) kk p2) X.env,eval (.FormattedValue b (-1) none p3) X.env]:=by rfl) :
  QE X (.JoinedStr [.FormattedValue a (-1) none p1,.Constant (.str c) kk p2,.FormattedValue b (-1) none p3] pos) (uS c ta tb):=
 bE (U3 hc ha hb he) fun σ H Q' h=>by
  obtain ⟨W,ρ,Q,px,q,k⟩:=h
  refine⟨W,ρ,_,px,q,?_⟩
  rintro v H1 x g s r ⟨m,rfl,hm,q⟩
  cases r
  refine⟨m,rfl,hm,W,ρ,_,px.mono s,q,?_⟩
  rintro v H2 y g' s2 r ⟨n,rfl,hn,q⟩
  cases r
  exact⟨n,rfl,hn,k _ _ _ .fr (s.trans s2) (.str _) q⟩
def iO:List PV->(PV->Prop)->Prop:=fun xs Q=>∃ n:Nat,xs = [.int n]/\n < 61/\Q (.str (nS n))
theorem U5:cX X iO (fun xs H Q=>∃ i,xs = [.int i]/\i.natAbs.log2 < 1920/\Q (.str (toString i:String)) H):=by
 rintro H vs xs Q Q' r ⟨n,rfl,hn,q⟩ k
 obtain ⟨v,rfl,r1⟩:=r.one
 cases r1
 exact⟨_,rfl,oO n hn,k _ _ _ (a9.refl _) (.str _) q⟩
theorem lJ (bs:X.mg "str" = none) (ha:QA X [e] tr) (hg:Gl X "str":=by rfl) (he:starEach [e] X.env=(false,eval e X.env) :: starEach [] X.env:=by rfl) (hpl:(backTo pos (starEach [] X.env)).any (·.1)=false:=by rfl):QE X (.Call (.Name "str" p2) [e] [] pos) (aF iO tr):=
 l3 xY U5 hg bs PyProof.Rows.boot_str ha (he:=he) (hpl:=hpl)
def oP:List PV->(PV->Prop)->Prop:=fun xs Q=>∃ n:Nat,xs = [.str (nS n)]/\n < 61/\Q (.int n)
theorem U6:cX X oP (fun xs H Q=>∃ n:Nat,xs = [.str (nS n)]/\n < 61/\Q (.int (n:Int)) H):=by
 rintro H vs xs Q Q' r ⟨n,rfl,hn,q⟩ k
 obtain ⟨v,rfl,r1⟩:=r.one
 cases r1
 exact⟨n,rfl,hn,k _ _ _ (a9.refl _) (.int _) q⟩
theorem U7 (B:Bt X.mg) (ha:QA X [e] tr) (hg:Gl X "int":=by rfl) (he:starEach [e] X.env=(false,eval e X.env) :: starEach [] X.env:=by rfl) (hpl:(backTo pos (starEach [] X.env)).any (·.1)=false:=by rfl):QE X (.Call (.Name "int" p2) [e] [] pos) (aF oP tr):=
 l3 T9 U6 hg B.int PyProof.Rows.boot_int ha (he:=he) (hpl:=hpl)
def stxs (ws:List Str):List PV:=ws.map PV.str
theorem Reps.stxs {K:PySem.W.Frag}{M:Addr->Prop}{H:Hp}:∀ ws:List Str,Reps K M H (ws.map V.str) (stxs ws)
 | []=>.nil
 | _ :: l=>.cons (.str _) (Reps.stxs l)
theorem Reps.ofTxs {K:PySem.W.Frag}{M:Addr->Prop}{H:Hp}:∀ {ws:List Str}{us:List V},Reps K M H us (PP.stxs ws)->us=ws.map V.str
 | [],_,.nil=>rfl
 | n :: r,_,.cons q t=>by
  cases q
  rw [Reps.ofTxs t]; rfl
def lK (te:aA) (tr:bV):aA:=fun ρ Q=>te ρ fun x _=>∃ a:Str,x = .str a/\tr ρ fun xs=>∃ b:Str,xs.map (·.1) = [.str b]/\b.length ≠ 0/\a.length<=100000/\Q (.lst (stxs (Txt.split a b))) .fr
theorem oQ (ho:QE X o te) (ha:QA X [e] tr) (hbase:attributeBase o "split" X.env (eval o X.env)=eval o X.env:=by rfl)
  (hfew:((backTo cpos (starEach [e] X.env)).all (fun x=>!x.1) && (backToKw cpos (keywordEach [] X.env)).all (fun x=>x.1.isSome) && decide (([e]:List Expr).length+([]:List Keyword).length+(if ([]:List Keyword).isEmpty then 0 else 1) < 30))=true:=by rfl)
  (hline:(apos.endLine == cpos.line)=true:=by rfl) (hs:starEach [e] X.env=(false,eval e X.env) :: starEach [] X.env:=by rfl) (hplain:(backTo cpos (starEach [] X.env)).any (·.1)=false:=by rfl) :
  QE X (.Call (.Attribute o "split" apos) [e] [] cpos) (lK te tr):=
 bE (mP PySem.F.plainAttrs_str PySem.F.slot_str_split PySem.F.type_str_split U0 ho ha hbase hfew hline hs hplain) fun σ H Q' h=>by
  obtain ⟨W,ρ,Q,px,q,k⟩:=h
  refine⟨W,ρ,_,px,q,?_⟩
  rintro v H1 x g s r ⟨a,rfl,q⟩
  cases r
  refine⟨rfl,W,ρ,_,px.mono s,q,fun vs H2 xs s2 rs q2=>?_⟩
  obtain ⟨b,e,hb,ha,q⟩:=q2
  have rs:=rs.any
  rw [e] at rs
  obtain ⟨w,rfl,rw'⟩:=rs.one
  cases rw'
  have S:=s.trans s2
  exact⟨a,b,rfl,rfl,hb,ha,fun p hp=>k _ _ _ .fr (S.trans (bI hp _)) (.lst (S.free hp) bL (Reps.stxs _)) q⟩
def uT (te:aA) (tr:bV):aA:=fun ρ Q=>te ρ fun x _=>∃ a:Str,x = .str a/\tr ρ fun xs=>∃ ws:List Str,xs.map (·.1) = [.lst (stxs ws)]/\(∀ w ∈ ws,w.length<=12)/\a.length<=4/\ws.length<=100000/\Q (.str (Txt.join a ws)) .fr
theorem U8 (ho:QE X o te) (ha:QA X [e] tr) (hbase:attributeBase o "join" X.env (eval o X.env)=eval o X.env:=by rfl)
  (hfew:((backTo cpos (starEach [e] X.env)).all (fun x=>!x.1) && (backToKw cpos (keywordEach [] X.env)).all (fun x=>x.1.isSome) && decide (([e]:List Expr).length+([]:List Keyword).length+(if ([]:List Keyword).isEmpty then 0 else 1) < 30))=true:=by rfl)
  (hline:(apos.endLine == cpos.line)=true:=by rfl) (hs:starEach [e] X.env=(false,eval e X.env) :: starEach [] X.env:=by rfl) (hplain:(backTo cpos (starEach [] X.env)).any (·.1)=false:=by rfl) :
  QE X (.Call (.Attribute o "join" apos) [e] [] cpos) (uT te tr):=
 bE (mP PySem.F.plainAttrs_str PySem.F.slot_str_join PySem.F.type_str_join U1 ho ha hbase hfew hline hs hplain) fun σ H Q' h=>by
  obtain ⟨W,ρ,Q,px,q,k⟩:=h
  refine⟨W,ρ,_,px,q,?_⟩
  rintro v H1 x g s r ⟨a,rfl,q⟩
  cases r
  refine⟨rfl,W,ρ,_,px.mono s,q,fun vs H2 xs s2 rs q2=>?_⟩
  obtain ⟨ws,e,hw,ha,hn,q⟩:=q2
  have rs:=rs.any
  rw [e] at rs
  obtain ⟨w,rfl,rw'⟩:=rs.one
  obtain ⟨l,us,rfl,_,h,r2⟩:=rw'.sqL
  obtain rfl:=r2.ofTxs
  exact⟨a,l,ws,rfl,rfl,aM.of h,hw,ha,hn,k _ _ _ .fr (s.trans s2) (.str _) q⟩
def jK:List PV->(PV->Prop)->Prop:=fun xs Q=>∃ z:Str,xs = [.str z]/\z.length<=1000/\Q (.int z.length)
theorem U9:cX X jK (fun xs H Q=>∃ z,xs = [.str z]/\z.length<=sizeLine/\Q (.int z.length) H):=by
 rintro H vs xs Q Q' r ⟨n,rfl,hn,q⟩ k
 obtain ⟨v,rfl,r1⟩:=r.one
 cases r1
 exact⟨n,rfl,kN hn,k _ _ _ (a9.refl _) (.int _) q⟩
def oR:PV->Tg->PV->Tg->PK->Prop:=fun x _ y _ Q=>∃ (z:Str) (i:Int) (c:Nat),x = .str z/\y = .int i/\z.length<=1000/\L2.atI z.cps.toList i=some c/\Q (.str ⟨#[c]⟩) .fr
theorem V0:c7 X oR mO:=by
 rintro W Hs H u v x y g g' Q Q' s n r1 r2 ⟨z,i,c,rfl,rfl,hz,hc,q⟩ k
 cases r1; cases r2
 exact⟨z,i,c,rfl,rfl,kN hz,hc,k _ _ _ .fr (a9.refl _) (.str _) q⟩
def lL:PV->Tg->PV->Tg->PK->Prop:=fun x _ y _ Q=>∃ i j:Str,x = .str i/\y = .str j/\Q (.bl (!(Builtin.Str.occurrences j i 0 j.length 1).isEmpty)) .fr
theorem V1:c7 X lL (fun x y H Q=>∃ i j,x = .str i/\y = .str j/\Q (.bl (!(Builtin.Str.occurrences j i 0 j.length 1).isEmpty)) H):=by
 rintro W Hs H u v x y g g' Q Q' s n r1 r2 ⟨i,j,rfl,rfl,q⟩ k
 cases r1; cases r2
 exact⟨i,j,rfl,rfl,k _ _ _ .fr (a9.refl _) (.bl _) q⟩
theorem V2 (ha:QE X a ta) (hb:QE X b tb) (hm:behindInMarks .In b=false:=by rfl):QE X (.Compare a [.In] [b] pos) (q2 lL ta tb):=tM xO V1 ha hb hm
end
end PP
namespace L2
open PySem PySem.Spec PyProof.Rows Txs
def uU (x:Str):It:=⟨fun i _=>i < x.cps.size,fun i H v H'=>H'=H/\∃ c,x.cps[i]? = some c/\v = .str ⟨#[c]⟩,fun i _=>x.cps.size<=i⟩
theorem V3 {P:Program}{w:World}{K:PySem.W.Frag}{tg:Expr} (x:Str) (t:Tok) (it:Addr):eR P w K tg (uU x) [it] it (fun i h=>h.IsStrIter it "str_ascii_iterator" x t i) where
 mem:=by simp
 obj:=fun i h st b hb=>by
  have e:b=it:=by simpa using hb
  subst e
  obtain ⟨o,e,c,d⟩:=st
  exact⟨o,e,fun v z=>by rw [d] at z; cases z⟩
 keep:=fun i h h' st k=>by
  obtain ⟨o,e,r⟩:=st
  exact⟨o,k it (by simp) o e,r⟩
 item:=by
  intro X hP hw hK hc i pins s σ H E I hf st hg
  subst hP hw hK
  obtain ⟨f0,f1,f2,f3,f4,f5⟩:=hf it (by simp)
  have hx:x.cps[i]? = some x.cps[i]:=Array.getElem?_eq_getElem hg
  refine wpAny_pyNext_ascii_item st hx fun h' st' sb=>?_
  have I1:a5 X pins σ H { s with heap:=h',toks:=s.toks+1 }:=I.turned (t':=s.toks+1) (fun b o hb e=>(sb.2 b hb).trans e) f0 f1 f3 f4 f5
  obtain ⟨o,e,c,d⟩:=id st'
  exact⟨_,rfl,jX (s:={ s with heap:=h',toks:=s.toks+1 }) e c d (by decide) ⟨.str ⟨#[x.cps[i]]⟩,H,I1,⟨_,rfl⟩,⟨rfl,_,hx,rfl⟩,st',fun b hb=>(hf b hb).1⟩⟩
 done:=by
  intro X hP hw hK hc i pins s σ H E I hf st hg
  subst hP hw hK
  obtain ⟨f0,f1,f2,f3,f4,f5⟩:=hf it (by simp)
  exact wpAny_pyNext_ascii_end (I.ok.hd hc) st (Array.getElem?_eq_none hg) fun h' eb=>⟨rfl,I.turned (t':=s.toks) (fun b o hb e=>eb b o hb e) f0 f1 f3 f4 f5⟩
 self:=fun _ _ _ _ _ st h=>wpAny_pyIter_striter_ascii st h
section
variable {X : Cx}
def V4 (tl:TE):TI:=fun σ H R=>tl σ H fun v H1=>∃ x:Str,v = .str x/\x.cps.all (· < 128)=true/\R (uU x) H1
theorem V5 {tg l:Expr}{tl:TE} (hl:PE X l tl):PI X tg l (V4 tl):=by
 intro pins s σ H R I h
 refine aI (hl pins s σ H _ I h) fun v s1 ⟨y,H1,I1,r1,q1⟩=>?_
 obtain ⟨x,rfl,ha,q⟩:=q1
 obtain ⟨t,rfl⟩:=r1
 refine wpAny_pyIter_ascii ha ?_
 refine⟨s1.heap.objs.size,[s1.heap.objs.size],_,_,H1,rfl,I1.kept (t':=s1.toks) fun b o e=>ad0 _ e,V3 x t _,⟨_,ae1 _ rfl,rfl,rfl⟩,fun b hb=>?_,q⟩
 have e:b=s1.heap.objs.size:=by simpa using hb
 subst e
 exact I1.fpOk (ad6 _) (I1.hok.fresh (ad6 _))
def V6:V->Option Int->Option Int->Hp->VK->Prop:=fun x lo hi H Q=>∃ (z:Str) (i:Int),x = .str z/\lo=some i/\hi=none/\z.length<=100000/\Q (.str (Txt.slice z (some i) none)) H
theorem V7:eV X V6:=by
 rintro pins s σ H x v vl vu lo hi sl Q I rx hs pl pu ⟨z,i,rfl,rfl,rfl,hz,q⟩
 obtain ⟨t,rfl⟩:=rx
 cases pl
 cases pu
 refine⟨"str",_,F.slot_str_getitem.lookup,typeIs_str _ _ _,wpAny_getItem_str_slice (l:=some (i,_)) (u:=none) (st:=none) hs rfl (post_val_or_str ⟨ag1 (Txt.slice_le z _ _) (by rw [sizeLine_eq]; omega),fun t' k=>?_⟩)⟩
 exact⟨.str _,H,I.tok k,⟨_,rfl⟩,q⟩
end
theorem V8 (n:Nat):Builtin.Str.strSliceIndices (some 1) none 1 (n+1)=(List.range n).map fun k=>1+k:=by
 have h1:(max 0 (min (1:Int) ((n+1:Nat):Int)))=1:=by omega
 show sliceRange (max 0 (min (1:Int) ((n+1:Nat):Int))) ((n+1:Nat):Int) 1=_
 rw [h1]
 unfold sliceRange
 dsimp only
 have hc:(if (1:Int) > 0 then (if (1:Int) < ((n+1:Nat):Int) then ((((n+1:Nat):Int)) - 1+1 - 1) / 1 else 0) else (if (1:Int) > ((n+1:Nat):Int) then (1 - ((n+1:Nat):Int) - 1 - 1) / (-1) else 0)).toNat=n:=by
  rw [if_pos (by decide)]
  split <;> omega
 rw [hc]
 refine List.map_congr_left fun k _=>?_
 omega
theorem uV {α β:Type}{f g:α->Option β}:∀ {l:List α},(∀ x ∈ l,f x=g x)->l.filterMap f=l.filterMap g
 | [],_=>rfl
 | a :: l,h=>by
  rw [List.filterMap_cons,List.filterMap_cons,h a ad2,uV fun x hx=>h x (ad5 _ hx)]
theorem V9 (z:Str):(Txt.slice z (some 1) none).cps.toList=z.cps.toList.drop 1:=by
 obtain ⟨c⟩:=z
 obtain ⟨l⟩:=c
 cases l with
 | nil=>rfl
 | cons a r=>
  have ll:(⟨⟨a :: r⟩⟩:Str).length=r.length+1:=rfl
  unfold Txt.slice
  rw [ll,V8,ad1,List.length_range]
  rw [if_neg (by simp)]
  show (((List.range r.length).map fun k=>1+k).filterMap fun i=>(a :: r).toArray[i]?)=r
  rw [List.filterMap_map]
  have e:∀ k ∈ List.range r.length,((fun i=>(a :: r).toArray[i]?) ∘ fun k=>1+k) k=some (r.getD k 0):=fun k hk=>by
   have hk:=List.mem_range.mp hk
   show (a :: r).toArray[1+k]? = _
   rw [List.getElem?_toArray,Nat.add_comm,aj6,ah8,ae8 hk]; rfl
  rw [uV e]
  have f:(List.range r.length).filterMap (fun k=>some (r.getD k 0))=(List.range r.length).map fun k=>r.getD k 0:=by
   rw [<- List.filterMap_eq_map]; rfl
  rw [f]
  apply List.ext_getElem?
  intro i
  rw [ad9]
  by_cases h:i < r.length
  ·rw [List.getElem?_range h,ae8 h]
   show some (r.getD i 0)=_
   rw [ah8,ae8 h]; rfl
  ·rw [List.getElem?_eq_none (by rw [List.length_range]; omega),List.getElem?_eq_none (by omega)]; rfl
end L2
namespace PP
open PySem L2 PyProof.Rows Txs
section
variable {X : Cx} {σ : L2.St} {H : Hp} {R : It → Hp → Prop} {a b e l tg : Expr} {ta tb te : aA} {tr : bV} {tl th : fW} {lo hi : Option Expr} {pos p2 px sp : Pos}
def hJ (x:Str):List PV:=x.cps.toList.map fun c=>PV.str ⟨#[c]⟩
def oS (te:aA):cF:=fun ρ Q=>te ρ fun v _=>∃ x:Str,v = .str x/\x.cps.all (· < 128)=true/\Q (hJ x) true
theorem W0 (hl:QE X l te):QI X tg l (oS te):=jD (V5 hl) fun σ H R h=>by
 obtain ⟨W,ρ,Q,px,q,k⟩:=h
 refine⟨W,ρ,_,px,q,?_⟩
 rintro v H1 y g s r ⟨x,rfl,ha,q⟩
 cases r
 refine⟨x,rfl,ha,k _ _ _ _ s ⟨fun W' H' i _ hi=>?_,fun W' H' i v H2 _ yl hi=>?_,fun W' H' _=>?_⟩ q⟩
 ·unfold hJ at hi; rw [ad1,ai8] at hi; exact hi
 ·obtain ⟨rfl,c,hc,rfl⟩:=yl
  refine⟨a9.refl _,.str ⟨#[c]⟩,?_,.str _⟩
  unfold hJ
  rw [ad9,Array.getElem?_toList,hc]; rfl
 ·show x.cps.size<=(hJ x).length
  unfold hJ; rw [ad1,ai8]; exact ad6 _
theorem oT (B:Bt X.mg) (ha:QA X [e] tr) (hg:Gl X "len":=by rfl) (he:starEach [e] X.env=(false,eval e X.env) :: starEach [] X.env:=by rfl) (hpl:(backTo pos (starEach [] X.env)).any (·.1)=false:=by rfl):QE X (.Call (.Name "len" p2) [e] [] pos) (aF jK tr):=
 iL zH U9 hg B.len PySem.boot_len ha (he:=he) (hpl:=hpl)
theorem W4 (ha:QE X a ta) (hb:QE X b tb) (hs:mM b:=by exact fun _ _=>rfl):QE X (.Subscript a b pos) (q2 oR ta tb):=bE (qZ rA ha hb hs) fun _ _ _=>j4 V0
def uW (te:aA) (tl th:fW):aA:=fun ρ Q=>te ρ fun x _=>tl ρ fun lo=>th ρ fun hi=>∃ (z:Str) (i:Int),x = .str z/\lo=some i/\hi=none/\z.length<=100000/\Q (.str (Txt.slice z (some i) none)) .fr
theorem W5 (ha:QE X a ta) (hl:QO X lo tl) (hh:QO X hi th):QE X (.Subscript a (.Slice lo hi none sp) pos) (uW ta tl th):=
 bE (qX V7 ha hl hh) fun σ H Q' h=>by
  obtain ⟨W,ρ,Q,px,q,k⟩:=h
  refine⟨W,ρ,_,px,q,fun v H1 x g s r q=>⟨W,ρ,_,px.mono s,q,fun lo H2 s2 q2=>⟨W,ρ,_,px.mono (s.trans s2),q2,?_⟩⟩⟩
  rintro hi H3 s3 ⟨z,i,rfl,rfl,rfl,hz,q⟩
  cases r
  exact⟨z,i,rfl,rfl,rfl,hz,k _ _ _ .fr ((s.trans s2).trans s3) (.str _) q⟩
theorem oU {x c:Str}{t:Nat} (hg:Gl X x) (hm:X.mg x=some (.str c t)) (hd:(x == ("__debug__" : Str))=false:=by decide):QE X (.Name x pos) (qC (.str c)):=
 bE (pH (v:=.str c) hg hm ⟨t,rfl⟩ hd) fun _ _ _=>j3 fun _=>.str c
end
section
variable {X : Cx} {a b : Expr} {ta tb : aA} {pos : Pos}
def uX:PV->Tg->PV->Tg->PK->Prop:=fun x _ y _ Q=>∃ i j:Str,x = .str i/\y = .str j/\i.length+j.length<=1000000/\Q (.str (i ++ j)) .fr
abbrev fM (ta tb:aA):aA:=q2 uX ta tb
theorem W6:c7 X uX (fun x y H Q=>∃ i j:Str,x = .str i/\y = .str j/\i.length+j.length<=sizeLine/\Q (.str (i ++ j)) H):=by
 rintro W Hs H u v x y g g' Q Q' s n r1 r2 ⟨i,j,rfl,rfl,h,q⟩ k
 cases r1; cases r2
 exact⟨i,j,rfl,rfl,by rw [sizeLine_eq]; omega,k _ _ _ _ (a9.refl _) (.str _) q⟩
theorem gC (ha:QE X a ta) (hb:QE X b tb):QE X (.BinOp a .Add b pos) (fM ta tb):=iH xV W6 ha hb
end
end PP
namespace Core
open PySem L2 PP Txs
abbrev Lc (x:Str):List Nat:=x.cps.toList
theorem oV {x y:Str} (h:Lc x=Lc y):x=y:=by
 obtain ⟨⟨a⟩⟩:=x
 obtain ⟨⟨b⟩⟩:=y
 have h:a=b:=h
 rw [h]
theorem gD (x y:Str):Lc (x ++ y)=Lc x ++ Lc y:=by
 show (x.cps ++ y.cps).toList=_
 rw [Array.toList_append]
theorem gE (x:Str):x.length=(Lc x).length:=(ai8 ..).symm
def jn (c:Nat):List (List Nat)->List Nat
 | []=>[]
 | [w]=>w
 | w :: v :: r=>w ++ c :: jn c (v :: r)
theorem lM (c:Nat):∀ ws:List Str,Lc (Str.join ⟨#[c]⟩ ws)=jn c (ws.map Lc)
 | []=>rfl
 | [_]=>rfl
 | x :: y :: r=>by
  show Lc (x ++ ⟨#[c]⟩ ++ Str.join ⟨#[c]⟩ (y :: r))=_
  rw [gD,gD,lM c (y :: r)]
  show Lc x ++ [c] ++ jn c ((y :: r).map Lc)=_
  rw [List.append_assoc]; rfl
theorem lN (s:Str) (l:List Str):Txt.join s l=Str.join s l:=eq_of_beq (PyProof.Rows.join_plain_closes s l)
theorem uY {c:Nat}:∀ {a b X Y:List Nat},c ∉ a->c ∉ b->a ++ c :: X=b ++ c :: Y->a=b/\X=Y
 | [],[],_,_,_,_,h=>by cases h; exact⟨rfl,rfl⟩
 | [],b :: r,_,_,_,hb,h=>by
  cases h
  exact absurd ad2 hb
 | a :: r,[],_,_,ha,_,h=>by
  cases h
  exact absurd ad2 ha
 | a :: r,b :: t,X,Y,ha,hb,h=>by
  injection h with h1 h2
  obtain ⟨e1,e2⟩:=uY (fun z=>ha (ad5 _ z)) (fun z=>hb (ad5 _ z)) h2
  exact⟨by rw [h1,e1],e2⟩
theorem uZ {c:Nat}:∀ {A B:List (List Nat)},A ≠ []->B ≠ []->(∀ w ∈ A,c ∉ w)->(∀ w ∈ B,c ∉ w)->jn c A=jn c B->A=B
 | [],_,h,_,_,_,_=>absurd rfl h
 | _,[],_,h,_,_,_=>absurd rfl h
 | [a],[b],_,_,_,_,h=>by rw [show a=b from h]
 | [a],b :: b' :: r,_,_,ha,_,h=>by
  have h:a=b ++ c :: jn c (b' :: r):=h
  exact absurd (by rw [h]; exact af1 _ ad2) (ha a ad2)
 | a :: a' :: r,[b],_,_,_,hb,h=>by
  have h:a ++ c :: jn c (a' :: r)=b:=h
  exact absurd (by rw [<- h]; exact af1 _ ad2) (hb b ad2)
 | a :: a' :: r,b :: b' :: t,_,_,ha,hb,h=>by
  obtain ⟨e1,e2⟩:=uY (ha a ad2) (hb b ad2) h
  rw [e1,uZ (by simp) (by simp) (fun w hw=>ha w (ad5 _ hw)) (fun w hw=>hb w (ad5 _ hw)) e2]
theorem v1:∀ {A B:List Str},A.map Lc=B.map Lc->A=B
 | [],[],_=>rfl
 | [],_ :: _,h=>by cases h
 | _ :: _,[],h=>by cases h
 | a :: A,b :: B,h=>by
  injection h with h1 h2
  rw [oV h1,v1 h2]
theorem W7 (x y:Str):Txt.split x y ≠ []:=by
 unfold Txt.split
 split
 ·exact fun z=>by cases z
 ·split
  ·exact fun z=>by cases z
  ·intro z
   have:=congrArg List.length z
   rw [length_partsBetween] at this
   cases this
theorem oW {c:Nat}{ws:List Str} (ne:ws ≠ []) (fr:∀ w ∈ ws,c ∉ Lc w):Txt.split (Txt.join ⟨#[c]⟩ ws) ⟨#[c]⟩=ws:=by
 have e:=StrLaws.join_split (Txt.join ⟨#[c]⟩ ws) ⟨#[c]⟩
 have f:=StrLaws.split_free (Txt.join ⟨#[c]⟩ ws) c
 have n:=W7 (Txt.join ⟨#[c]⟩ ws) ⟨#[c]⟩
 generalize Txt.split (Txt.join ⟨#[c]⟩ ws) ⟨#[c]⟩=P at e f n
 rw [lN] at e
 have e:=congrArg Lc e
 rw [lM,lM] at e
 refine v1 (uZ (by simpa using n) (by simpa using ne) (fun w hw=>?_) (fun w hw=>?_) e)
 ·obtain ⟨p,hp,rfl⟩:=ag8.mp hw
  exact f p hp
 ·obtain ⟨p,hp,rfl⟩:=ag8.mp hw
  exact fr p hp
def oX (x:Str):Bool:=decide (x.length=1) || (decide (x.length=2) && !decide (x.cps.toList.head? = some 48))
theorem v2:∀ n:Nat,n < 61->oX (nS n)=true:=by decide +kernel
theorem W8:∀ n:Nat,n < 61->((Lc (nS n)).all fun c=>decide (48<=c) && decide (c<=57))=true:=by decide +kernel
theorem W9:∀ c:Nat,48<=c->c<=57->(!(Builtin.Str.occurrences ("0123456789" : Str) ⟨#[c]⟩ 0 ("0123456789" : Str).length 1).isEmpty)=true:=by
 have:∀ k:Nat,k < 10->(!(Builtin.Str.occurrences ("0123456789" : Str) ⟨#[48+k]⟩ 0 ("0123456789" : Str).length 1).isEmpty)=true:=by decide +kernel
 intro c h1 h2
 have:=this (c - 48) (by omega)
 rwa [show 48+(c - 48)=c by omega] at this
theorem iP {n c:Nat} (h:n < 61) (hc:c ∈ Lc (nS n)):48<=c/\c<=57:=by
 have:=ak3.mp (W8 n h) c hc
 simpa using this
abbrev iS (w:Int):Str:=nS w.toNat
abbrev hU:Str:="-"
abbrev lS (l:Int × Int):Str:=iS l.1 ++ hU ++ iS l.2
theorem oY:(" " : Str)=⟨#[32]⟩:=by decide
theorem v3:("\n" : Str)=⟨#[10]⟩:=by decide
theorem lO:hU=⟨#[45]⟩:=by decide
theorem X0 {l:Int × Int}{c:Nat} (h1:l.1.toNat < 61) (h2:l.2.toNat < 61) (hc:c ∈ Lc (lS l)):(48<=c/\c<=57) ∨ c=45:=by
 rw [gD,gD,lO] at hc
 rcases ag4.mp hc with hc | hc
 ·rcases ag4.mp hc with hc | hc
  ·exact .inl (iP h1 hc)
  ·exact .inr (ae4.mp hc)
 ·exact .inl (iP h2 hc)
theorem jL {w:Int} (h:w.toNat < 61):(iS w).length<=2:=lI _ h
theorem v4 {l:Int × Int} (h1:l.1.toNat < 61) (h2:l.2.toNat < 61):(lS l).length<=5:=by
 rw [dB,dB]
 have:=jL h1
 have:=jL h2
 have:hU.length=1:=by decide
 omega
noncomputable def aZ (ws:List Str):Str:=if ws.isEmpty=true then "." else Txt.join " " ws
def dL (w:Str):Prop:=Lc w ≠ []/\(∀ c ∈ Lc w,c ≠ 46/\c ≠ 32/\c ≠ 10)/\w.length<=12
theorem v5 {w:Int} (h:w.toNat < 61):dL (iS w):=by
 refine⟨fun z=>?_,fun c hc=>?_,?_⟩
 ·have o:=v2 _ h
  have l0:(nS w.toNat).length=0:=by rw [gE]; rw [show Lc (nS w.toNat) = [] from z]; rfl
  unfold oX at o
  rw [l0] at o
  cases o
 ·have:=iP h hc
  omega
 ·have:=jL h
  omega
theorem X1 {l:Int × Int} (h1:l.1.toNat < 61) (h2:l.2.toNat < 61):dL (lS l):=by
 refine⟨fun z=>?_,fun c hc=>?_,?_⟩
 ·rw [gD,gD,lO] at z
  have:=congrArg List.length z
  rw [af4,af4] at this
  simp at this
 ·have:=X0 h1 h2 hc
  omega
 ·have:=v4 h1 h2
  omega
theorem oZ {c x:Nat}:∀ {A:List (List Nat)},x ∈ jn c A->x=c ∨ ∃ w ∈ A,x ∈ w
 | [],h=>by cases h
 | [w],h=>.inr ⟨w,ad2,h⟩
 | w :: v :: r,h=>by
  rcases ag4.mp h with h | h
  ·exact .inr ⟨w,ad2,h⟩
  ·rcases ae0.mp h with h | h
   ·exact .inl h
   ·rcases oZ h with h | ⟨u,hu,h⟩
    ·exact .inl h
    ·exact .inr ⟨u,ad5 _ hu,h⟩
theorem v6 {c:Nat}:∀ {A:List (List Nat)},(∀ w ∈ A,w.length<=12)->(jn c A).length<=13 * A.length
 | [],_=>ad6 _
 | [w],h=>by
  have:=h w ad2
  show w.length<=13
  omega
 | w :: v :: r,h=>by
  have h1:=h w ad2
  have h2:=v6 (c:=c) (A:=v :: r) fun u hu=>h u (ad5 _ hu)
  show (w ++ c :: jn c (v :: r)).length<=_
  rw [af4,ag6]
  rw [ag6 (a:=w)]
  omega
theorem lP {ws:List Str} (ne:ws ≠ []):Lc (aZ ws)=jn 32 (ws.map Lc):=by
 unfold aZ
 rw [if_neg (by simpa using ne),lN,oY,lM]
theorem p4 {ws:List Str} (h:∀ w ∈ ws,dL w):(aZ ws).length<=13 * ws.length+1:=by
 by_cases ne:ws = []
 ·subst ne; decide
 ·rw [gE,lP ne]
  have:=v6 (c:=32) (A:=ws.map Lc) fun w hw=>by
   obtain ⟨p,hp,rfl⟩:=ag8.mp hw
   rw [<- gE]
   exact (h p hp).2.2
  rw [ad1] at this
  omega
theorem v7 {ws:List Str} (h:∀ w ∈ ws,dL w):10 ∉ Lc (aZ ws):=by
 by_cases ne:ws = []
 ·subst ne; decide
 ·rw [lP ne]
  intro z
  rcases oZ z with z | ⟨w,hw,z⟩
  ·cases z
  ·obtain ⟨p,hp,rfl⟩:=ag8.mp hw
   exact ((h p hp).2.1 10 z).2.2 rfl
theorem X2 {ws:List Str} (ne:ws ≠ []) (h:∀ w ∈ ws,dL w):aZ ws ≠ ".":=by
 intro z
 have z:=congrArg Lc z
 rw [lP ne] at z
 have m:46 ∈ jn 32 (ws.map Lc):=by rw [z]; decide
 rcases oZ m with m | ⟨w,hw,m⟩
 ·cases m
 ·obtain ⟨p,hp,rfl⟩:=ag8.mp hw
  exact ((h p hp).2.1 46 m).1 rfl
theorem X3 {ws:List Str} (ne:ws ≠ []) (h:∀ w ∈ ws,dL w):Txt.split (aZ ws) " " = ws:=by
 unfold aZ
 rw [if_neg (by simpa using ne),oY]
 exact oW ne fun w hw z=>((h w hw).2.1 32 z).2.1 rfl
theorem jM (ws:List Str):(stxs ws).length=ws.length:=ad1 ..
theorem lQ (a:List Str) (w:Str):stxs a ++ [.str w]=stxs (a ++ [w]):=by unfold stxs; rw [ag5]; rfl
def iQ:bA:=fun xs Q=>∃ ws:List Str,xs = [.lst (stxs ws)]/\(∀ w ∈ ws,dL w)/\ws.length<=5000/\Q (.str (aZ ws))
def v8:aQ:=(aK (bD (dF (nT (a6 0))) (aX (qC (.str "."))) bC)
 (aX (uT (qC (.str " ")) (a7 (a6 0) aB))))
theorem X4:bX v8 ["words"] iQ:=by
 rintro xs Q ⟨ws,rfl,hw,hl,q⟩
 unfold aZ at q
 refine⟨_,rfl,_,rfl,?_⟩
 cases ws with
 | nil=>exact bU ⟨trivial,q⟩
 | cons w r=>
  refine aT ⟨_,rfl,_,rfl,w :: r,rfl,fun u hu=>(hw u hu).2.2,by decide,by omega,trivial,q⟩
def lR:bA:=fun xs Q=>∃ ws:List Int,xs = [.tup (intz ws)]/\(∀ w ∈ ws,0<=w/\w<=60)/\ws.length<=1000/\Q (.str (aZ (ws.map iS)))
def v9:aQ:=(aX (aF iQ (a7 (cZ (eG (a6 0)) [none] (bO 0) c8 (aF iO (a7 (a6 0) aB))) aB)))
theorem X5:bX v9 ["numbers"] lR:=by
 rintro xs Q ⟨ws,rfl,hw,hl,q⟩
 refine⟨_,rfl,_,rfl,(fun z=>by first | cases z | exact dS ws),by rw [bZ]; omega,fun i acc=>acc=stxs ((ws.take i).map iS),rfl,?_,?_⟩
 ·rintro i y acc hy rfl
  obtain ⟨w,rfl,hx⟩:=oA hy
  have hb:=hw w (ag2 hx)
  refine uB ?_
  refine⟨_,rfl,w.toNat,?_,by omega,trivial,?_⟩
  ·show [PV.int w] = [PV.int ((w.toNat:Nat):Int)]
   rw [show ((w.toNat:Nat):Int)=w by omega]
  ·show stxs ((ws.take i).map iS) ++ [.str (iS w)]=stxs ((ws.take (i+1)).map iS)
   rw [lQ,l6 hx]
 ·rintro acc rfl
  rw [bZ,ak4]
  refine⟨ws.map iS,rfl,fun u hu=>?_,by rw [ad1]; omega,trivial,q⟩
  obtain ⟨w,hw',rfl⟩:=ag8.mp hu
  have:=hw w hw'
  exact v5 (by omega)
def iR (ls:List (Int × Int)):Prop:=∀ l ∈ ls,(0<=l.1/\l.1<=60)/\0<=l.2/\l.2<=60
theorem jN {ls:List (Int × Int)} (h:iR ls):∀ u ∈ ls.map lS,dL u:=fun u hu=>by
 obtain ⟨l,hl,rfl⟩:=ag8.mp hu
 have:=h l hl
 exact X1 (by omega) (by omega)
def lT:bA:=fun xs Q=>∃ ls:List (Int × Int),xs = [.tup (aY ls)]/\iR ls/\ls.length<=1700/\Q (.str (aZ (ls.map lS)))
def vA:aQ:=(aX (aF iQ (a7 (cZ (eG (a6 0)) [none,none] (iD 0 1) c8 (uS "-" (a6 0) (a6 1))) aB)))
theorem vB {i j:Nat}{a b:Int}{g:Bool}{ρ:aV}{Q:aV->Prop} (q:Q ((ρ.set i (si a)).set j (si b))):iD i j (.tup [.int a,.int b]) g ρ Q:=by
 refine⟨_,_,rfl,?_⟩
 rw [show (g || flat (PV.int a))=true from Bool.or_true g,show (g || flat (PV.int b))=true from Bool.or_true g]
 exact q
theorem X6:bX vA ["links"] lT:=by
 rintro xs Q ⟨ls,rfl,hw,hl,q⟩
 refine⟨_,rfl,_,rfl,(fun z=>by first | cases z | exact fH ls),by rw [l8]; omega,fun i acc=>acc=stxs ((ls.take i).map lS),rfl,?_,?_⟩
 ·rintro i y acc hy rfl
  obtain ⟨l,rfl,hx⟩:=u3 hy
  have hb:=hw l (ag2 hx)
  refine vB ?_
  have e1:((l.1.toNat:Nat):Int)=l.1:=by omega
  have e2:((l.2.toNat:Nat):Int)=l.2:=by omega
  refine⟨_,rfl,l.1.toNat,?_,by omega,_,rfl,l.2.toNat,?_,by omega,trivial,?_⟩
  ·show PV.int l.1=PV.int ((l.1.toNat:Nat):Int)
   rw [e1]
  ·show PV.int l.2=PV.int ((l.2.toNat:Nat):Int)
   rw [e2]
  ·show stxs ((ls.take i).map lS) ++ [.str (lS l)]=stxs ((ls.take (i+1)).map lS)
   rw [lQ,l6 hx]
 ·rintro acc rfl
  rw [l8,ak4]
  exact⟨ls.map lS,rfl,jN hw,by rw [ad1]; omega,trivial,q⟩
abbrev dM:Str:="\n"
noncomputable def gF (ws:List Int) (ls:List (Int × Int)):Str:=aZ (ws.map iS) ++ dM ++ aZ (ls.map lS)
theorem lU {ws:List Int} (h:∀ w ∈ ws,0<=w/\w<=60):∀ u ∈ ws.map iS,dL u:=fun u hu=>by
 obtain ⟨w,hw,rfl⟩:=ag8.mp hu
 have:=h w hw
 exact v5 (by omega)
theorem p5 {ws:List Int}{ls:List (Int × Int)} (h1:∀ w ∈ ws,0<=w/\w<=60) (h2:iR ls) (l1:ws.length<=1000) (l2:ls.length<=1700):(aZ (ws.map iS)).length<=13001/\(aZ (ls.map lS)).length<=22101/\(gF ws ls).length<=40000:=by
 have a:=p4 (lU h1)
 have b:=p4 (jN h2)
 rw [ad1] at a b
 unfold gF
 rw [dB,dB]
 have:dM.length=1:=by decide
 omega
def lV:bA:=fun xs Q=>∃ ws ls,xs = [e7 ws ls]/\(∀ w ∈ ws,0<=w/\w<=60)/\iR ls/\ws.length<=1000/\ls.length<=1700/\Q (.str (gF ws ls))
def vC:aQ:=(aX (fM (fM (aF lR (a7 (bJ (a6 0) (qC (.int 0))) aB)) (qC (.str "\n"))) (aF lT (a7 (bJ (a6 0) (qC (.int 1))) aB))))
theorem X7:bX vC ["web"] lV:=by
 rintro xs Q ⟨ws,ls,rfl,h1,h2,l1,l2,q⟩
 obtain ⟨a,b,_⟩:=p5 h1 h2 l1 l2
 have e:dM.length=1:=by decide
 refine⟨_,rfl,_,_,_,rfl,rfl,rfl,ws,rfl,h1,l1,_,_,rfl,rfl,by show _+dM.length<=_; omega,_,rfl,_,_,_,rfl,rfl,rfl,ls,rfl,h2,l2,_,_,rfl,rfl,?_,trivial,q⟩
 show (aZ (ws.map iS) ++ dM).length+_<=_
 rw [dB]
 omega
def jO:bA:=fun xs Q=>∃ ws:List Str,xs = [.str (aZ ws)]/\(∀ w ∈ ws,dL w)/\ws.length<=5000/\Q (.lst (stxs ws))
def vD:aQ:=(aK (bD (aS (q2 (gB false) (a6 0) (qC (.str ".")))) (aX (eD aB)) bC)
 (aX (lK (a6 0) (a7 (qC (.str " ")) aB))))
theorem X8:bX vD ["row"] jO:=by
 rintro xs Q ⟨ws,rfl,hw,hl,q⟩
 refine⟨_,rfl,_,_,rfl,rfl,_,rfl,?_⟩
 show if decide (aZ ws=".")=true then _ else _
 by_cases ne:ws = []
 ·subst ne
  rw [af0 (show aZ []=("." : Str) from rfl)]
  exact bU ⟨ah7 _,rfl,trivial,q⟩
 ·rw [ad7 (X2 ne hw)]
  have rl:=p4 hw
  refine aT ⟨_,rfl,_,rfl," ",rfl,by decide,by omega,trivial,?_⟩
  rw [X3 ne hw]
  exact q
def lW:bA:=fun xs Q=>∃ n:Nat,xs = [.str (nS n)]/\n < 61/\Q (.bl true)
def vE:aQ:=(aK (bD (fB (aS (kU (aF jK (a7 (a6 0) aB)) (qC (.int 1)))) (aS (iG (aF jK (a7 (a6 0) aB)) (qC (.int 60))))) (aX (qC (.bl false))) bC)
 (aK (bD (j5 (aS (iG (aF jK (a7 (a6 0) aB)) (qC (.int 1)))) (aS (q2 (gB false) (q2 oR (a6 0) (qC (.int 0))) (qC (.str "0"))))) (aX (qC (.bl false))) bC)
 (aX (aF j7 (a7 (cZ (oS (a6 0)) [none] (bO 0) c8 (q2 lL (a6 0) (qC (.str "0123456789")))) aB)))))
theorem lX {i:Nat}{s:Str}{g:Bool}{ρ:aV}{Q:aV->Prop} (q:Q (ρ.set i (some (.sh true (.str s))))):bO i (.str s) g ρ Q:=by
 unfold bO
 rw [show (g || flat (PV.str s))=true from Bool.or_true g]; exact q
theorem X9:bX vE ["word"] lW:=by
 rintro xs Q ⟨n,rfl,hn,q⟩
 have ok:=v2 n hn
 have ln:=lI n hn
 have dg:∀ c ∈ Lc (nS n),48<=c/\c<=57:=fun c hc=>iP hn hc
 generalize nS n=z at ok ln dg
 unfold oX at ok
 rw [Bool.or_eq_true,ah3,aj2,ah3,Bool.not_eq_true',decide_eq_false_iff_not] at ok
 have l1:1<=z.length:=by omega
 refine⟨_,rfl,z,rfl,by omega,_,_,rfl,rfl,_,rfl,?_⟩
 rw [ad7 (by omega)]
 refine aT ⟨_,rfl,z,rfl,by omega,_,_,rfl,rfl,_,rfl,?_⟩
 rw [ad7 (by omega)]
 refine aT ?_
 have tail:(aX (aF j7 (a7 (cZ (oS (a6 0)) [none] (bO 0) c8 (q2 lL (a6 0) (qC (.str "0123456789")))) aB))) { nx:=fun _=>Q .non,rt:=Q } [some (.sh true (.str z))]:=by
  refine⟨_,rfl,z,rfl,?_,?_,fun i acc=>acc=(List.replicate i true).map PV.bl,rfl,?_,?_⟩
  ·rw [<- Array.all_toList,ak3]
   intro c hc
   have:=dg c hc
   exact af0 (by omega)
  ·unfold hJ
   rw [ad1,<- gE]; omega
  ·rintro i y acc hy rfl
   unfold hJ at hy
   rw [ad9] at hy
   cases e:z.cps.toList[i]? with
   | none=>rw [e] at hy; cases hy
   | some c=>
    rw [e] at hy
    cases hy
    have hc:=dg c (ag2 e)
    refine lX ?_
    refine⟨_,rfl,_,_,rfl,rfl,trivial,?_⟩
    rw [W9 c hc.1 hc.2]
    show (List.replicate i true).map PV.bl ++ [PV.bl true]=(List.replicate (i+1) true).map PV.bl
    rw [List.replicate_succ',ag5]; rfl
  ·rintro acc rfl
   refine⟨_,rfl,trivial,?_⟩
   have:∀ k:Nat,(List.replicate k true).all id=true:=fun k=>by
    rw [ak3]
    intro b hb
    rw [(List.mem_replicate.mp hb).2]; rfl
   rw [this]
   exact q
 refine⟨_,rfl,z,rfl,by omega,_,_,rfl,rfl,_,rfl,?_⟩
 by_cases l2:z.length=1
 ·rw [ad7 (by omega)]
  exact aT (aT tail)
 ·rw [af0 (by omega)]
  obtain ⟨c,r,ez⟩:∃ c r,z.cps.toList=c :: r:=by
   cases e:z.cps.toList with
   | nil=>
    rw [gE,show Lc z = [] from e] at l1
    cases l1
   | cons c r=>exact⟨c,r,rfl⟩
  have hc:c ≠ 48:=by
   have:=(ok.resolve_left l2).2
   rw [ez] at this
   exact fun w=>this (by rw [w]; rfl)
  refine bU ⟨_,rfl,z,0,c,rfl,rfl,by omega,sP (by decide) (by rw [ez]; rfl),_,_,rfl,rfl,_,rfl,?_⟩
  show if decide ((⟨#[c]⟩:Str)="0")=true then _ else _
  rw [ad7 (fun w=>hc (by
   have w:=congrArg Lc w
   have : [c] = [48]:=w
   injection this))]
  exact aT tail
def lY:bA:=fun xs Q=>∃ n:Nat,xs = [.str (nS n)]/\n < 61/\Q (.int n)
def vF:aQ:=(aK (bD (dF (aS (aF lW (a7 (a6 0) aB)))) fX bC)
 (aX (aF oP (a7 (a6 0) aB))))
theorem Y0:bX vF ["word"] lY:=by
 rintro xs Q ⟨n,rfl,hn,q⟩
 exact⟨_,rfl,n,rfl,hn,_,rfl,aT ⟨_,rfl,n,rfl,hn,trivial,q⟩⟩
def hV:bA:=fun xs Q=>∃ (n:Nat) (m:Int),xs = [.str (nS n),.int m]/\n < 61/\(n:Int)<=m/\Q (.int n)
def vG:aQ:=(aK (b9 2 (aF lY (a7 (a6 0) aB)))
 (aK (bD (aS (iG (a6 2) (a6 1))) fX bC)
 (nN 2)))
theorem Y1:bX vG ["word","most","number"] hV:=by
 rintro xs Q ⟨n,m,rfl,hn,hm,q⟩
 refine⟨_,rfl,n,rfl,hn,trivial,?_⟩
 refine⟨_,rfl,_,rfl,_,_,rfl,rfl,_,rfl,?_⟩
 rw [ad7 (by omega)]
 exact aT ⟨_,rfl,trivial,q⟩
def lZ:bA:=fun xs Q=>∃ (l:Int × Int) (m:Int),xs = [.str (lS l),.int m]/\0<=l.1/\l.1 < l.2/\l.2 < m/\m<=61/\Q (.tup [.int l.1,.int l.2])
def vH:aQ:=(aK (b9 2 (lK (a6 0) (a7 (qC (.str "-")) aB)))
 (aK (bD (aS (gT (aF cN (a7 (a6 2) aB)) (qC (.int 2)))) fX bC)
 (aK (b9 3 (aF hV (a7 (bJ (a6 2) (qC (.int 0))) (a7 (tH (a6 1) (qC (.int 1))) aB))))
 (aK (b9 4 (aF hV (a7 (bJ (a6 2) (qC (.int 1))) (a7 (tH (a6 1) (qC (.int 1))) aB))))
 (aK (bD (aS (M1 (a6 3) (a6 4))) fX bC)
 (aX (eC (a7 (a6 3) (a7 (a6 4) aB)))))))))
theorem Y2 {l:Int × Int} (h1:l.1.toNat < 61) (h2:l.2.toNat < 61):Txt.split (lS l) "-" = [iS l.1,iS l.2]:=by
 have e:lS l=Txt.join ⟨#[45]⟩ [iS l.1,iS l.2]:=by
  rw [lN]
  show iS l.1 ++ hU ++ iS l.2=iS l.1 ++ ⟨#[45]⟩ ++ iS l.2
  rw [lO]
 rw [e,show ("-" : Str)=⟨#[45]⟩ from lO]
 refine oW (by simp) fun w hw z=>?_
 rcases ae0.mp hw with rfl | hw
 ·have:=iP h1 z; omega
 ·rw [ae4.mp hw] at z
  have:=iP h2 z; omega
theorem Y3:bX vH ["word","many","parts","one","other"] lZ:=by
 rintro xs Q ⟨l,m,rfl,a0,ab,bm,m1,q⟩
 have h1:l.1.toNat < 61:=by omega
 have h2:l.2.toNat < 61:=by omega
 have e1:((l.1.toNat:Nat):Int)=l.1:=by omega
 have e2:((l.2.toNat:Nat):Int)=l.2:=by omega
 have ll:=v4 h1 h2
 refine⟨_,rfl,_,rfl,"-",rfl,by decide,by omega,trivial,?_⟩
 rw [Y2 h1 h2]
 refine⟨_,rfl,_,_,rfl,rfl,.inl ⟨_,_,rfl,rfl,_,rfl,aT ?_⟩⟩
 refine⟨_,rfl,_,_,_,rfl,rfl,rfl,_,rfl,_,_,rfl,rfl,l.1.toNat,m - 1,rfl,h1,by omega,trivial,?_⟩
 refine⟨_,rfl,_,_,_,rfl,rfl,rfl,_,rfl,_,_,rfl,rfl,l.2.toNat,m - 1,rfl,h2,by omega,trivial,?_⟩
 rw [e1,e2]
 refine⟨_,rfl,_,rfl,_,_,rfl,rfl,_,rfl,?_⟩
 rw [ad7 (by omega)]
 exact aT ⟨_,rfl,_,rfl,by show 2<=1000; decide,rfl,trivial,q⟩
end Core
namespace PP
open PySem L2 PyProof.Rows Txs
section
variable {X : Cx} {a : Expr} {ta : aA} {pos p2 px : Pos}
theorem Y4 (B:Bt X.mg) (bst:X.mg "str" = none) (ha:QE X a ta) (hg:Gl X "isinstance":=by rfl) (hgx:Gl X "str":=by rfl)
  (he:starEach [a,.Name "str" px] X.env=(false,eval a X.env) :: starEach [.Name "str" px] X.env:=by rfl) (he2:starEach [.Name "str" px] X.env=(false,eval (.Name "str" px) X.env) :: starEach [] X.env:=by rfl) (hpl:(backTo pos (starEach [.Name "str" px] X.env)).any (·.1)=false:=by rfl):QE X (.Call (.Name "isinstance" p2) [a,.Name "str" px] [] pos) (dY X.K "str" ta):=
 l4 B PyProof.Rows.boot_str bst ha (hg:=hg) (hgx:=hgx) (he:=he) (he2:=he2) (hpl:=hpl)
end
end PP
namespace Core
open PySem L2 PP Txs
theorem Y5 (K:PySem.W.Frag):PySem.W.kitOne K (.type "str") (.type "str")=some true:=by
 unfold PySem.W.kitOne; rw [if_pos (by decide)]
theorem Y6 {ws:List Int}{ls:List (Int × Int)} (h1:∀ w ∈ ws,0<=w/\w<=60) (h2:iR ls):Txt.split (gF ws ls) "\n" = [aZ (ws.map iS),aZ (ls.map lS)]:=by
 have e:gF ws ls=Txt.join ⟨#[10]⟩ [aZ (ws.map iS),aZ (ls.map lS)]:=by
  rw [lN]
  show aZ (ws.map iS) ++ dM ++ aZ (ls.map lS)=aZ (ws.map iS) ++ ⟨#[10]⟩ ++ aZ (ls.map lS)
  rw [show dM=⟨#[10]⟩ from v3]
 rw [e,show ("\n" : Str)=⟨#[10]⟩ from v3]
 refine oW (by simp) fun w hw z=>?_
 rcases ae0.mp hw with rfl | hw
 ·exact v7 (lU h1) z
 ·rw [ae4.mp hw] at z
  exact v7 (jN h2) z
def m3:bA:=fun xs Q=>∃ ws ls,xs = [.str (gF ws ls)]/\WD (ws.length:Int) ws ls/\ws.length<=40/\Q (e7 ws ls)
theorem WD.lkn {ws:List Int}{ls:List (Int × Int)} (w:WD (ws.length:Int) ws ls) (h:ws.length<=40):iR ls:=fun l hl=>by
 have:=w.inn l hl
 omega
def vI:aQ:=(aK (b9 1 (lK (a6 0) (a7 (qC (.str "\n")) aB)))
 (aK (bD (aS (gT (aF cN (a7 (a6 1) aB)) (qC (.int 2)))) fX bC)
 (aK (b9 2 (cZ (eG (aF jO (a7 (bJ (a6 1) (qC (.int 0))) aB))) [none] (bO 0) c8 (aF hV (a7 (a6 0) (a7 (qC (.int 60)) aB)))))
 (aK (bD (aS (iG (aF cN (a7 (a6 2) aB)) (qC (.int 40)))) fX bC)
 (aK (b9 3 (cZ (eG (aF jO (a7 (bJ (a6 1) (qC (.int 1))) aB))) [none,some 2] (bO 0) c8 (aF lZ (a7 (a6 0) (a7 (aF cN (a7 (a6 1) aB)) aB)))))
 (aK (bD (dF (aS (aF lE (a7 (a6 3) aB)))) fX bC)
 (aX (eC (a7 (aF fE (a7 (a6 2) aB)) (a7 (aF fE (a7 (a6 3) aB)) aB))))))))))
theorem p6 {α:Type}{f:α->Str}{l:List α}{i:Nat}{y:PV} (h:(stxs (l.map f))[i]? = some y):∃ x,y = .str (f x)/\l[i]? = some x:=by
 unfold stxs at h
 rw [ad9,ad9] at h
 cases e:l[i]? with
 | none=>rw [e] at h; cases h
 | some x=>rw [e] at h; exact⟨x,(ae6 h).symm,rfl⟩
theorem Y7 (A:List (Int × Int)) (l:Int × Int):aY (A ++ [l])=aY A ++ [PV.tup [.int l.1,.int l.2]]:=by unfold aY; rw [ag5]; rfl
theorem Y8:bX vI ["text","rows","wants","links"] m3:=by
 rintro xs Q ⟨ws,ls,rfl,w,few,q⟩
 have lk:=WD.lkn w few
 have lm:=w.most
 obtain ⟨_,_,tl⟩:=p5 w.pos lk (by omega) lm
 refine⟨_,rfl,_,rfl,"\n",rfl,by decide,by omega,trivial,?_⟩
 rw [Y6 w.pos lk]
 refine⟨_,rfl,_,_,rfl,rfl,.inl ⟨_,_,rfl,rfl,_,rfl,aT ?_⟩⟩
 refine⟨_,rfl,_,_,_,rfl,rfl,rfl,ws.map iS,rfl,lU w.pos,by rw [ad1]; omega,_,rfl,(fun z=>by cases z),by rw [jM,ad1]; omega,fun i acc=>acc=intz (ws.take i),rfl,?_,?_⟩
 ·rintro i y acc hy rfl
  obtain ⟨x,rfl,hx⟩:=p6 hy
  have hb:=w.pos x (ag2 hx)
  have e:((x.toNat:Nat):Int)=x:=by omega
  refine lX ?_
  refine⟨_,rfl,x.toNat,60,rfl,by omega,by omega,trivial,?_⟩
  rw [e]
  show intz (ws.take i) ++ [PV.int x]=intz (ws.take (i+1))
  rw [aj7,hx,l7]; rfl
 rintro acc rfl
 rw [jM,ad1,ak4]
 refine⟨trivial,?_⟩
 refine⟨_,rfl,_,_,rfl,rfl,_,_,rfl,rfl,_,rfl,?_⟩
 rw [bZ,ad7 (by omega)]
 refine aT ?_
 refine⟨_,rfl,_,_,_,rfl,rfl,rfl,ls.map lS,rfl,jN lk,by rw [ad1]; omega,_,rfl,(fun z=>by cases z),by rw [jM,ad1]; omega,fun i acc=>acc=aY (ls.take i),rfl,?_,?_⟩
 ·rintro i y acc hy rfl
  obtain ⟨l,rfl,hx⟩:=p6 hy
  have hb:=w.inn l (ag2 hx)
  refine lX ?_
  refine⟨_,rfl,_,rfl,_,_,rfl,rfl,l,_,rfl,by omega,by omega,by rw [bZ]; omega,by rw [bZ]; omega,trivial,?_⟩
  show aY (ls.take i) ++ [PV.tup [.int l.1,.int l.2]]=aY (ls.take (i+1))
  rw [aj7,hx]
  exact (Y7 _ _).symm
 rintro acc rfl
 rw [jM,ad1,ak4]
 refine⟨trivial,?_⟩
 refine⟨_,rfl,_,rfl,.inr ⟨ls,rfl,by omega,fun b hb=>?_⟩⟩
 rw [hb.mpr w.ord]
 refine⟨_,rfl,aT ?_⟩
 refine⟨_,rfl,⟨_,_,rfl,rfl,dS ws,_,rfl,⟨_,_,rfl,rfl,fH ls,by show 2<=1000; decide,u7 ws ls,trivial,q⟩,fun ns z=>by cases z⟩,fun ns z=>by cases z⟩
def jP:bA:=fun xs Q=>∃ ws:List Str,xs = [.lst (stxs ws)]/\(∀ w ∈ ws,dL w)/\ws.length<=1700/\Q (.str (aZ ws))
def vJ:aQ:=(aK (b9 1 (qC (.str "")))
 (aK (cY (eG (a6 0)) (bO 2)
  (b9 1 (fM (fM (a6 1) (qC (.str " "))) (a6 2))))
 (aK (bD (aS (q2 (gB false) (a6 1) (qC (.str "")))) (aX (qC (.str "."))) bC)
 (aX (uW (a6 1) (jC (qC (.int 1))) jB)))))
def gG (ws:List Str):List Nat:=ws.flatMap fun w=>32 :: Lc w
theorem p7:∀ (w:Str) (r:List Str),gG (w :: r)=32 :: jn 32 ((w :: r).map Lc)
 | w,[]=>by
  show (32 :: Lc w) ++ []=32 :: Lc w
  rw [List.append_nil]
 | w,v :: r=>by
  show (32 :: Lc w) ++ gG (v :: r)=32 :: (Lc w ++ 32 :: jn 32 ((v :: r).map Lc))
  rw [p7 v r]; rfl
theorem p9:∀ {ws:List Str},(∀ w ∈ ws,dL w)->(gG ws).length<=13 * ws.length
 | [],_=>ad6 _
 | w :: r,h=>by
  have h1:=(h w ad2).2.2
  have h2:=p9 (ws:=r) fun u hu=>h u (ad5 _ hu)
  show ((32 :: Lc w) ++ gG r).length<=_
  rw [af4,ag6,<- gE,ag6]
  omega
theorem Y9:bX vJ ["parts","text","part"] jP:=by
 rintro xs Q ⟨ws,rfl,hw,hl,q⟩
 refine⟨trivial,?_⟩
 refine⟨_,rfl,_,rfl,(fun z=>by cases z),fun i ρ=>∃ (T:Str) (y2:Option Slot),ρ = [some (.sh false (.lst (stxs ws))),some (.sh true (.str T)),y2]/\Lc T=gG (ws.take i),⟨"",none,rfl,rfl⟩,?_,?_⟩
 ·rintro i y ρ hy ⟨T,y2,rfl,eT⟩
  have hy':(stxs (ws.map id))[i]? = some y:=by rw [List.map_id]; exact hy
  obtain ⟨x,rfl,hx⟩:=p6 hy'
  have wx:=hw x (ag2 hx)
  have tl:T.length<=13 * 1700:=by
   have:=p9 (ws:=ws.take i) fun u hu=>hw u (List.mem_of_mem_take hu)
   rw [gE,eT]
   rw [List.length_take] at this
   omega
  have sl:(" " : Str).length=1:=by decide
  refine lX ?_
  refine⟨_,rfl,_,_,rfl,rfl,by omega,_,rfl,_,_,rfl,rfl,?_,trivial,T ++ " " ++ x,some (.sh true (.str x)),rfl,?_⟩
  ·have:=wx.2.2
   rw [dB]
   show T.length+(" " : Str).length+x.length<=_
   omega
  ·rw [gD,gD,eT,oY,aj7,hx]
   show gG (ws.take i) ++ [32] ++ Lc x=gG (ws.take i ++ [x])
   unfold gG
   rw [List.flatMap_append,List.append_assoc]
   show _=_ ++ ((32 :: Lc x) ++ [])
   rw [List.append_nil]; rfl
 ·rintro ρ ⟨T,y2,rfl,eT⟩
  rw [jM,ak4] at eT
  refine⟨_,rfl,_,_,rfl,rfl,_,rfl,?_⟩
  show if decide (T="")=true then _ else _
  cases ws with
  | nil=>
   rw [af0 (show T="" from oV eT)]
   exact bU ⟨trivial,q⟩
  | cons w r=>
   have ne:T ≠ "":=fun z=>by
    rw [z,p7] at eT
    cases eT
   have tl:=p9 hw
   rw [ad7 ne]
   refine aT ⟨_,rfl,1,rfl,T,1,rfl,rfl,rfl,by rw [gE,eT]; omega,trivial,?_⟩
   have e:Txt.slice T (some 1) none=aZ (w :: r):=oV (by
    rw [lP (by simp)]
    show (Txt.slice T (some 1) none).cps.toList=_
    rw [V9]
    show (Lc T).drop 1=_
    rw [eT,p7]; rfl)
   rw [e]
   exact q
def pA:bA:=uA
def pB (K:PySem.W.Frag):aQ:=(aK (b9 4 (aF jP (a7 (cZ (eG (bJ (a6 3) (qC (.int 0)))) [none] (bO 0) c8 (aF iO (a7 (a6 0) aB))) aB)))
 (aK (b9 5 (fM (fM (a6 4) (qC (.str "\n"))) (aF jP (a7 (cZ (eG (bJ (a6 3) (qC (.int 1)))) [none,none] (iD 0 1) c8 (fM (fM (aF iO (a7 (a6 0) aB)) (qC (.str "-"))) (aF iO (a7 (a6 1) aB)))) aB))))
 (aK (b9 6 (aF lV (a7 (a6 3) aB)))
 (aK (bD (fB (dF (aS (dY K "str" (a6 6)))) (aS (q2 (gB true) (a6 6) (a6 5)))) (aX (qC (.bl false))) bC)
 (aX (aF lH (a7 (aF m3 (a7 (a6 6) aB)) (a7 (a6 3) aB))))))))
def vK (K:PySem.W.Frag):aQ:=(aK (b9 1 (aF fJ (a7 (a6 0) (a7 (qC (.int 0)) aB))))
 (aK (b9 2 (bP (a6 1) (qC (.int 9))))
 (aK (bD (aS (kW (bP (cB (a6 1) (qC (.int 9))) (qC (.int 4))) (qC (.int 1)))) (b9 2 (bP (cB (a6 1) (qC (.int 36))) (qC (.int 41)))) bC)
 (aK (b9 3 (aF jI (a7 (kT (a6 0) (jC (qC (.int 1))) jB) (a7 (a6 2) (a7 (cB (a6 1) (qC (.int 1476))) aB)))))
 (pB K)))))
section
variable {K : PySem.W.Frag} {ns : List Int} {h n : Int} {ws : List Int} {ls : List (Int × Int)} {E : j6}
theorem Z0 (w:WD (ws.length:Int) ws ls) (few:ws.length<=40) (q:E.rt (.bl true)):pB K E [some (.sh true (.scr ns)),si h,si n,some (.sh true (e7 ws ls)),none,none,none]:=by
 have lk:=WD.lkn w few
 have lm:=w.most
 obtain ⟨r1,r2,tl⟩:=p5 w.pos lk (by omega) lm
 have nl:dM.length=1:=by decide
 have ds:hU.length=1:=by decide
 refine⟨_,rfl,_,_,_,rfl,rfl,rfl,_,rfl,(fun z=>by first | cases z | exact dS ws),by rw [bZ]; omega,fun i acc=>acc=stxs ((ws.take i).map iS),rfl,?_,?_⟩
 ·rintro i y acc hy rfl
  obtain ⟨x,rfl,hx⟩:=oA hy
  have hb:=w.pos x (ag2 hx)
  refine uB ?_
  refine⟨_,rfl,x.toNat,?_,by omega,trivial,?_⟩
  ·show [PV.int x] = [PV.int ((x.toNat:Nat):Int)]
   rw [show ((x.toNat:Nat):Int)=x by omega]
  ·show stxs ((ws.take i).map iS) ++ [.str (iS x)]=stxs ((ws.take (i+1)).map iS)
   rw [lQ,l6 hx]
 rintro acc rfl
 rw [bZ,ak4]
 refine⟨ws.map iS,rfl,lU w.pos,by rw [ad1]; omega,trivial,?_⟩
 refine⟨_,rfl,_,_,rfl,rfl,by show _+dM.length<=_; omega,_,rfl,_,_,_,rfl,rfl,rfl,_,rfl,(fun z=>by first | cases z | exact fH ls),by rw [ad1]; omega,fun i acc=>acc=stxs ((ls.take i).map lS),rfl,?_,?_⟩
 ·rintro i y acc hy rfl
  obtain ⟨l,rfl,hx⟩:=u3 hy
  have hb:=lk l (ag2 hx)
  have h1:l.1.toNat < 61:=by omega
  have h2:l.2.toNat < 61:=by omega
  have e1:((l.1.toNat:Nat):Int)=l.1:=by omega
  have e2:((l.2.toNat:Nat):Int)=l.2:=by omega
  have l1:(nS l.1.toNat).length<=2:=jL h1
  have l2:(nS l.2.toNat).length<=2:=jL h2
  refine vB ?_
  refine⟨_,rfl,l.1.toNat,?_,h1,_,_,rfl,rfl,by show _+hU.length<=_; omega,_,rfl,l.2.toNat,?_,h2,_,_,rfl,rfl,?_,trivial,?_⟩
  ·show [PV.int l.1] = [PV.int ((l.1.toNat:Nat):Int)]
   rw [e1]
  ·show [PV.int l.2] = [PV.int ((l.2.toNat:Nat):Int)]
   rw [e2]
  ·show (nS l.1.toNat ++ hU).length+(nS l.2.toNat).length<=_
   rw [dB]; omega
  ·show stxs ((ls.take i).map lS) ++ [.str (lS l)]=stxs ((ls.take (i+1)).map lS)
   rw [lQ,l6 hx]
 rintro acc rfl
 rw [ad1,ak4]
 refine⟨ls.map lS,rfl,jN lk,by rw [ad1]; omega,_,_,rfl,rfl,?_,trivial,?_⟩
 ·show (aZ (ws.map iS) ++ dM).length+_<=_
  rw [dB]; omega
 refine⟨_,rfl,ws,ls,rfl,w.pos,lk,by omega,lm,trivial,?_⟩
 refine⟨_,rfl,_,_,rfl,Y5 K,_,rfl,aT ⟨_,rfl,_,rfl,_,_,rfl,rfl,_,rfl,?_⟩⟩
 show if (!decide (gF ws ls=aZ (ws.map iS) ++ dM ++ aZ (ls.map lS)))=true then _ else _
 rw [af0 (show gF ws ls=aZ (ws.map iS) ++ dM ++ aZ (ls.map lS) from rfl)]
 refine aT ⟨_,rfl,ws,ls,rfl,w,few,_,rfl,ws,ls,_,_,rfl,.inl rfl,.inl rfl,by omega,by omega,trivial,q⟩
end
theorem Z1 {K:PySem.W.Frag}:bX (vK K) ["script","head","many","web","wants","due","found"] pA:=by
 rintro xs Q ⟨ns,rfl,hl,q⟩
 refine⟨_,rfl,_,ns,0,rfl,.inl rfl,by decide,trivial,?_⟩
 generalize ns.getD (0:Int).toNat 0=head
 refine⟨_,rfl,_,_,rfl,rfl,(by show (0:Int) < 9; decide),trivial,?_⟩
 have fin:∀ many:Int,0<=many->many<=40->(aK (b9 3 (aF jI (a7 (kT (a6 0) (jC (qC (.int 1))) jB) (a7 (a6 2) (a7 (cB (a6 1) (qC (.int 1476))) aB))))) (pB K)) { nx:=fun _=>Q .non,rt:=Q } [some (.sh true (.scr ns)),si head,si many,none,none,none,none]:=fun many h0 h1=>by
  refine⟨_,rfl,1,rfl,_,rfl,dS ns,_,rfl,_,rfl,_,_,rfl,rfl,⟨by decide,by decide⟩,_,ns.drop 1,many,_,rfl,?_,by rw [ak2]; omega,h0,h1,fun ws ls w=>⟨trivial,?_⟩⟩
  ·have:=Q6 ns (k:=1) (by decide)
   show fI (.lst (fD (intz ns) (some 1) none)) _
   rw [this]
   exact .inr rfl
  ·have e:=w.many
   rw [<- e] at w
   exact Z0 w (by omega) q
 refine⟨_,rfl,_,_,rfl,rfl,⟨by decide,by decide⟩,_,_,rfl,rfl,(by show (0:Int) < 4; decide),.inl ⟨_,_,rfl,rfl,_,rfl,?_⟩⟩
 cases hc:(decide (head / 9 % 4=1)) with
 | false=>
  have a1:=aj0 head (show (9:Int) ≠ 0 by decide)
  have a2:=ah9 head (show (0:Int) < 9 by decide)
  exact aT (fin (head % 9) a1 (by omega))
 | true=>
  have a1:=aj0 (head / 36) (show (41:Int) ≠ 0 by decide)
  have a2:=ah9 (head / 36) (show (0:Int) < 41 by decide)
  exact bU ⟨_,rfl,_,_,rfl,rfl,⟨by decide,by decide⟩,_,_,rfl,rfl,(by show (0:Int) < 41; decide),trivial,fin (head / 36 % 41) a1 (by omega)⟩
end Core
namespace K_k06
open PySem PySem.W L2 PP Core
theorem _root_.L2.FnScope.au {N P:List Str}{s:Scope} (a:s.kind=.function:=by rfl) (b:s.isCoroutine=false:=by rfl) (c:s.isGenerator=false:=by rfl) (d:N.Nodup:=by decide +kernel) (e:N.take P.length=P:=by rfl) (f:∀ x∈P,s.names.lookup x=some .local∨s.names.lookup x=some .cell:=by decide +kernel) (g:∀ y∈s.names,y.2≠.free:=by decide +kernel):FnScope N P s:=⟨a,b,c,d,e,f,g⟩
def aW (i:Nat):Stmt:=PySem.Challenge.pw_kindleweb_k06_webs_written.main.body.getD i (.Pass ⟨0,0,0,0⟩)
structure FK (K:Frag) (n:Str) (i:Nat) (f:Addr) (d:FuncData):Prop where
 a:nsIn K mainGlobals n=some (some (.ref f))
 F:eB K n n (aW i) f d
structure FM (K:Frag) (mg:Str->Option Value) (n:Str) (i:Nat) (f:Addr) (d:FuncData):Prop where
 F:eB K n n (aW i) f d
 m:mg n=some (.ref f)
theorem FK.M {K:Frag}{mg:Str->Option Value}{n:Str}{i:Nat}{f:Addr}{d:FuncData}{h:Heap} (z:FK K n i f d) (X:K.In h) (G:h.Ns mainGlobals mg):FM K mg n i f d:=⟨z.F,mg_of X G z.a⟩
abbrev Hb (x:Str) (ps:List Str) (i:Nat):Prop:=∀ (kV doc pm:Value) (an:Option Addr) (cdv ct:Value) (us:List Value),us.length=ps.length->bindArgs (fnOf x x (fQ (aW i)) (dC (aW i)) (aU (aW i)) .none kV doc pm an cdv ct) ⟨us,[]⟩=pure (ps.zip us)
section
variable {P : Program} {w : World} {K : Frag} {mg : Str → Option Value} {base : Heap} {f : Addr} {fd : FuncData} {k i : Nat} {x : Str} {ps N : List Str}
theorem Df.au {p:bA} (F:FM K mg x i f fd) (S:FnScope N ps (aU (aW i))) (body:∀ (cdv:Value) (A:Around) (outer:List Env) (s:Shared) (H:Hp) (E:XK),bT k (A.deeper (PyProof.Rows.envOfC x (aU (aW i)) s.heap.objs.size f cdv))->∃ t,dZ (eU cK P w K mg base N x (aU (aW i)) f cdv A outer s H E).nox (dC (aW i)) t/\∀ xs Q,p xs Q->t { nx:=fun _=>Q .non,rt:=Q } (dG N xs)) (hb:Hb x ps i:=by intro _ _ _ _ _ _ us hl; first | (obtain ⟨_,rfl⟩:=us1 hl; rfl) | (obtain ⟨_,_,rfl⟩:=us2 hl; rfl) | (obtain ⟨_,_,_,rfl⟩:=uD hl; rfl) | (obtain ⟨_,_,_,_,rfl⟩:=R8 hl; rfl) | (obtain ⟨_,_,_,_,_,rfl⟩:=us5 hl; rfl)) (len:∀ xs Q,p xs Q->xs.length=ps.length:=by intro xs Q h; repeat (first | (obtain ⟨rfl,_⟩:=h; rfl) | (obtain ⟨_,h⟩:=h))):Df P w K mg base (k+1) x ps p:=
 Df.of F.F F.m S hb len body
end
section
variable {P : Program} {w : World} {K : Frag} {mg : Str → Option Value} {base : Heap} {f : Addr} {fd : FuncData}
theorem Z2:FnScope ["things"] ["things"] (aU (aW 6)):=.au
theorem Z3 (B:Bt mg) (F:FM K mg "rises" 6 f fd)  : Df P w K mg base 1 "rises" ["things"] lE:=
 Df.au F Z2 (fun cdv A outer s H E hr=>by
  have hu:=rV hr
  exact⟨(oM),(aN (b0 (tO B rfl (a8 (oF (N:=["ahead","behind"]) (fr:=[none,none]) (T0 B (qv 0) (tQ (qv 0) (o8 aC) o7)) (fun _ _ _ _=>(S6 hu (qv 0) (qv 1)))) aD)))),T3⟩)
theorem Z4:FnScope ["words"] ["words"] (aU (aW 14)):=.au
theorem Z5 (B:Bt mg) (F:FM K mg "row_of" 14 f fd) {u_NONE_AT_ALL:Nat} (m_NONE_AT_ALL:mg "NONE_AT_ALL" = some (.str "." u_NONE_AT_ALL)):Df P w K mg base 1 "row_of" ["words"] iQ:=
 Df.au F Z4 (fun cdv A outer s H E hr=>by
  exact⟨(v8),(aL (bG (eJ (M3 (qv 0))) (aN (b0 (oU rfl m_NONE_AT_ALL))) bF)
   (aN (b0 (U8 dH (a8 (qv 0) aD))))),X4⟩)
theorem Z6:FnScope ["row"] ["row"] (aU (aW 16)):=.au
theorem Z7 (B:Bt mg) (F:FM K mg "words_of" 16 f fd) {u_NONE_AT_ALL:Nat} (m_NONE_AT_ALL:mg "NONE_AT_ALL" = some (.str "." u_NONE_AT_ALL)):Df P w K mg base 1 "words_of" ["row"] jO:=
 Df.au F Z6 (fun cdv A outer s H E hr=>by
  exact⟨(vD),(aL (bG (oJ (qv 0) (oU rfl m_NONE_AT_ALL)) (aN (b0 (fZ aD))) bF)
   (aN (b0 (oQ (qv 0) (a8 dH aD))))),X8⟩)
theorem Z8:FnScope ["word"] ["word"] (aU (aW 19)):=.au
theorem Z9 (B:Bt mg) (F:FM K mg "is_number" 19 f fd) {u_FIGURES:Nat} (m_FIGURES:mg "FIGURES" = some (.str "0123456789" u_FIGURES)) {u_MOST_FIGURES:Nat} (m_MOST_FIGURES:mg "MOST_FIGURES" = some (.int 60 u_MOST_FIGURES)):Df P w K mg base 1 "is_number" ["word"] lW:=
 Df.au F Z8 (fun cdv A outer s H E hr=>by
  exact⟨(vE),(aL (bG (fG (gX (kY (oT B (a8 (qv 0) aD)) aC) (iK (iJ (oT B (a8 (qv 0) aD)) (oG rfl m_MOST_FIGURES))))) (aN (b0 e6)) bF)
   (aL (bG (fG (o5 (iJ (oT B (a8 (qv 0) aD)) aC) (o4 (oJ (W4 (qv 0) aC) dH)))) (aN (b0 e6)) bF)
   (aN (b0 (tO B rfl (a8 (l5 (N:=["sign"]) (fr:=[none]) (W0 (qv 0)) (fun _ _ _ _=>(V2 (qv 0) (oU rfl m_FIGURES)))) aD)))))),X9⟩)
theorem aa0:FnScope ["script","k"] ["script","k"] (aU (aW 22)):=.au
theorem aa1 (B:Bt mg) (F:FM K mg "_law_cell_at" 22 f fd)  : Df P w K mg base 1 "_law_cell_at" ["script","k"] fJ:=
 Df.au F aa0 (fun cdv A outer s H E hr=>by
  exact⟨(tX),(aL (bG (kY (qv 1) (dI B (a8 (qv 0) aD))) (aN (b0 (bK (qv 0) (qv 1)))) bF)
   (aN (b0 aC))),O8⟩)
theorem vL:FnScope ["wants_cell","links_cell","many","most","wants","k","links","one","other"] ["wants_cell","links_cell","many","most"] (aU (aW 23)):=.au
theorem aa2 (B:Bt mg) (F:FM K mg "_law_web_of_digits" 23 f fd)  : Df P w K mg base 1 "_law_web_of_digits" ["wants_cell","links_cell","many","most"] lF:=
 Df.au F vL (fun cdv A outer s H E hr=>by
  have nd:=vL.nd
  exact⟨(uM),(aL (iM (i:=4) nd (fZ aD))
   (aL (eL 5 nd (iN rfl B.range (qv 2))
    (aL (jE 4 (bQ (qv 0) (qv 3)))
    (aN (bR (i:=0) nd (cP (qv 0) (qv 3))))))
   (aL (iM (i:=6) nd (fZ aD))
   (aL (eL 7 nd (iN rfl B.range (qv 2))
    (aN (eL 8 nd (tN rfl B.range (gU (qv 7) aC) (qv 2))
     (aL (bG (kZ (bQ (qv 1) aC) aC) (aN (jE 6 (fY (a8 (qv 7) (a8 (qv 8) aD))))) bF)
     (aN (bR (i:=1) nd (cP (qv 1) aC)))))))
   (aN (b0 (fY (a8 (g9 B (a8 (qv 4) aD)) (a8 (g9 B (a8 (qv 6) aD)) aD))))))))),T4⟩)
theorem vM:FnScope ["cell","many","wants","links","mark","one","other","number"] ["cell","many"] (aU (aW 24)):=.au
theorem aa3 (B:Bt mg) (F:FM K mg "_law_dense" 24 f fd)  : Df P w K mg base 1 "_law_dense" ["cell","many"] lG:=
 Df.au F vM (fun cdv A outer s H E hr=>by
  have nd:=vM.nd
  exact⟨(uN),(aL (iM (i:=2) nd (fZ aD))
   (aL (iM (i:=3) nd (fZ aD))
   (aL (bR (i:=4) nd (gU aC (bQ (qv 0) aC)))
   (aL (eL 5 nd (iN rfl B.range (qv 1))
    (aL (jE 2 (bQ (cP (qv 0) (gU aC (qv 5))) aC))
    (aN (eL 6 nd (tN rfl B.range (gU (qv 5) aC) (qv 1))
     (aL (bR (i:=7) nd (gU (gU (bQ (qv 0) aC) (iI (iI aC (qv 5)) (qv 5))) (iI aC (qv 6))))
     (aL (bR (i:=7) nd (bQ (iI (gU (qv 7) aC) aC) aC))
     (aN (bG (kY (bQ (cP (bQ (iI (qv 7) (qv 7)) aC) aC) aC) (qv 4)) (aN (jE 3 (fY (a8 (qv 5) (a8 (qv 6) aD))))) bF))))))))
   (aN (b0 (fY (a8 (g9 B (a8 (qv 2) aD)) (a8 (g9 B (a8 (qv 3) aD)) aD))))))))),T5⟩)
theorem aa4:FnScope ["found"] ["found"] (aU (aW 26)):=.au
theorem aa5 (B:Bt mg) (F:FM K mg "_law_whole_number" 26 f fd)  : Df P w K mg base 1 "_law_whole_number" ["found"] l9:=
 Df.au F aa4 (fun cdv A outer s H E hr=>by
  exact⟨(tY K),(aN (b0 (M5 (N7 B (qv 0)) (M4 (M6 (N8 B (qv 0))))))),P3 (lA K).ii (lA K).ib⟩)
theorem vN:FnScope ["parts","text","part"] ["parts"] (aU (aW 29)):=.au
theorem aa6 (B:Bt mg) (F:FM K mg "_law_row_text" 29 f fd)  : Df P w K mg base 1 "_law_row_text" ["parts"] jP:=
 Df.au F vN (fun cdv A outer s H E hr=>by
  have nd:=vN.nd
  exact⟨(vJ),(aL (bR (i:=1) nd dH)
   (aL (eL 2 nd (g6 (qv 0))
    (aN (bR (i:=1) nd (gC (gC (qv 1) dH) (qv 2)))))
   (aL (bG (oJ (qv 1) dH) (aN (b0 dH)) bF)
   (aN (b0 (W5 (qv 1) (o8 aC) o7)))))),Y9⟩)
theorem aa7:FnScope ["numbers"] ["numbers"] (aU (aW 12)):=.au
theorem aa8 (B:Bt mg) (F:FM K mg "numbers_row" 12 f fd) (d_row_of:Df P w K mg base 1 "row_of" ["words"] iQ) (bst:mg "str" = none):Df P w K mg base 2 "numbers_row" ["numbers"] lR:=
 Df.au F aa7 (fun cdv A outer s H E hr=>by
  exact⟨(v9),(aN (b0 (bB d_row_of hr (a8 (l5 (N:=["number"]) (fr:=[none]) (g6 (qv 0)) (fun _ _ _ _=>(lJ bst (a8 (qv 0) aD)))) aD)))),X5⟩)
theorem aa9:FnScope ["links"] ["links"] (aU (aW 13)):=.au
theorem ab0 (B:Bt mg) (F:FM K mg "links_row" 13 f fd) (d_row_of:Df P w K mg base 1 "row_of" ["words"] iQ):Df P w K mg base 2 "links_row" ["links"] lT:=
 Df.au F aa9 (fun cdv A outer s H E hr=>by
  exact⟨(vA),(aN (b0 (bB d_row_of hr (a8 (oF (N:=["one","other"]) (fr:=[none,none]) (g6 (qv 0)) (fun _ _ _ _=>(U4 (qv 0) (qv 1)))) aD)))),X6⟩)
theorem ab1:FnScope ["word"] ["word"] (aU (aW 18)):=.au
theorem ab2 (B:Bt mg) (F:FM K mg "read_figures" 18 f fd) (d_is_number:Df P w K mg base 1 "is_number" ["word"] lW):Df P w K mg base 2 "read_figures" ["word"] lY:=
 Df.au F ab1 (fun cdv A outer s H E hr=>by
  exact⟨(vF),(aL (bG (eJ (fF (bB d_is_number hr (a8 (qv 0) aD)))) (aN gY) bF)
   (aN (b0 (U7 B (a8 (qv 0) aD))))),Y0⟩)
theorem vO:FnScope ["flow","many","way","wants","k","cell","pairs","one","other"] ["flow","many","way"] (aU (aW 25)):=.au
theorem ab3 (B:Bt mg) (F:FM K mg "_law_web" 25 f fd) (d__law_dense:Df P w K mg base 1 "_law_dense" ["cell","many"] lG) (d__law_cell_at:Df P w K mg base 1 "_law_cell_at" ["script","k"] fJ) (d__law_web_of_digits:Df P w K mg base 1 "_law_web_of_digits" ["wants_cell","links_cell","many","most"] lF):Df P w K mg base 2 "_law_web" ["flow","many","way"] jI:=
 Df.au F vO (fun cdv A outer s H E hr=>by
  have nd:=vO.nd
  have hu:=rV hr
  exact⟨(uO),(aL (bG (fG (o5 (kZ (bQ (cP (qv 2) aC) aC) aC) (o4 (iJ (qv 1) aC)))) (aN (b0 (bB d__law_dense hr (a8 (bB d__law_cell_at hr (a8 (qv 0) (a8 aC aD))) (a8 (qv 1) aD))))) bF)
   (aL (bG (fG (o5 (kZ (bQ (cP (qv 2) aC) aC) aC) (o4 (kY (qv 1) aC)))) (aN (b0 (bB d__law_web_of_digits hr (a8 (bB d__law_cell_at hr (a8 (qv 0) (a8 aC aD))) (a8 (bB d__law_cell_at hr (a8 (qv 0) (a8 aC aD))) (a8 (qv 1) (a8 (bK (fZ (a8 aC (a8 aC (a8 aC (a8 aC aD))))) (bQ (qv 2) aC)) aD))))))) bF)
   (aL (iM (i:=3) nd (fZ aD))
   (aL (eL 4 nd (iN rfl B.range (qv 1))
    (aL (bR (i:=5) nd (bB d__law_cell_at hr (a8 (qv 0) (a8 (qv 4) aD))))
    (aN (jE 3 (bK (fZ (a8 (bQ (cP (qv 5) aC) aC) (a8 (bQ (cP (qv 5) aC) aC) (a8 (bQ (cP (qv 5) aC) aC) (a8 (bQ (cP (qv 5) aC) aC) aD))))) (bQ (qv 2) aC))))))
   (aL (iM (i:=6) nd M7)
   (aL (eL 5 nd (g6 (qv 0))
    (aN (bG (iJ (qv 1) aC) (aL (bR (i:=7) nd (bQ (qv 5) (qv 1)))
     (aL (bR (i:=8) nd (bQ (cP (bQ (iI (bQ (qv 5) aC) aC) aC) aC) (qv 1)))
     (aN (bG (gW (qv 7) (qv 8)) (aN (M9 hu (i:=6) (fY (a8 (N3 B rfl (a8 (qv 7) (a8 (qv 8) aD))) (a8 (N4 B rfl (a8 (qv 7) (a8 (qv 8) aD))) aD))) e6)) bF)))) bF)))
   (aN (b0 (fY (a8 (g9 B (a8 (qv 3) aD)) (a8 (g9 B (a8 (P8 B (a8 (P5 B rfl (a8 (qv 6) aD)) aD)) aD)) aD))))))))))),T7⟩)
theorem vP:FnScope ["found","due","k"] ["found","due"] (aU (aW 27)):=.au
theorem ab4 (B:Bt mg) (F:FM K mg "_law_row_is" 27 f fd) (d__law_whole_number:Df P w K mg base 1 "_law_whole_number" ["found"] l9):Df P w K mg base 2 "_law_row_is" ["found","due"] jG:=
 Df.au F vP (fun cdv A outer s H E hr=>by
  have nd:=vP.nd
  exact⟨(tZ K),(aL (bG (fG (gX (eJ (fF (o6 B (qv 0)))) (iK (gW (dI B (a8 (qv 0) aD)) (dI B (a8 (qv 1) aD)))))) (aN (b0 e6)) bF)
   (aL (eL 2 nd (iN rfl B.range (dI B (a8 (qv 1) aD)))
    (aN (bG (fG (gX (eJ (fF (bB d__law_whole_number hr (a8 (bK (qv 0) (qv 2)) aD)))) (iK (gW (bK (qv 0) (qv 2)) (bK (qv 1) (qv 2)))))) (aN (b0 e6)) bF)))
   (aN (b0 e6)))),P0 (lA K).tt⟩)
theorem ab5:FnScope ["web"] ["web"] (aU (aW 11)):=.au
theorem ab6 (B:Bt mg) (F:FM K mg "web_text" 11 f fd) (d_numbers_row:Df P w K mg base 2 "numbers_row" ["numbers"] lR) (d_links_row:Df P w K mg base 2 "links_row" ["links"] lT):Df P w K mg base 3 "web_text" ["web"] lV:=
 Df.au F ab5 (fun cdv A outer s H E hr=>by
  exact⟨(vC),(aN (b0 (gC (gC (bB d_numbers_row hr (a8 (bK (qv 0) aC) aD)) dH) (bB d_links_row hr (a8 (bK (qv 0) aC) aD))))),X7⟩)
theorem vQ:FnScope ["word","most","number"] ["word","most"] (aU (aW 17)):=.au
theorem ab7 (B:Bt mg) (F:FM K mg "read_number" 17 f fd) (d_read_figures:Df P w K mg base 2 "read_figures" ["word"] lY):Df P w K mg base 3 "read_number" ["word","most"] hV:=
 Df.au F vQ (fun cdv A outer s H E hr=>by
  have nd:=vQ.nd
  exact⟨(vG),(aL (bR (i:=2) nd (bB d_read_figures hr (a8 (qv 0) aD)))
   (aL (bG (iJ (qv 2) (qv 1)) (aN gY) bF)
   (aN (M8 2)))),Y1⟩)
theorem vR:FnScope ["found","due","k"] ["found","due"] (aU (aW 28)):=.au
theorem ab8 (B:Bt mg) (F:FM K mg "_law_web_is" 28 f fd) (d__law_row_is:Df P w K mg base 2 "_law_row_is" ["found","due"] jG):Df P w K mg base 3 "_law_web_is" ["found","due"] lH:=
 Df.au F vR (fun cdv A outer s H E hr=>by
  have nd:=vR.nd
  exact⟨(uP K),(aL (bG (fG (gX (eJ (fF (o6 B (qv 0)))) (gX (gW (dI B (a8 (qv 0) aD)) aC) (iK (eJ (fF (bB d__law_row_is hr (a8 (bK (qv 0) aC) (a8 (bK (qv 1) aC) aD))))))))) (aN (b0 e6)) bF)
   (aL (bG (fG (gX (eJ (fF (o6 B (bK (qv 0) aC)))) (iK (gW (dI B (a8 (bK (qv 0) aC) aD)) (dI B (a8 (bK (qv 1) aC) aD)))))) (aN (b0 e6)) bF)
   (aL (eL 2 nd (iN rfl B.range (dI B (a8 (bK (qv 1) aC) aD)))
    (aN (bG (eJ (fF (bB d__law_row_is hr (a8 (bK (bK (qv 0) aC) (qv 2)) (a8 (bK (bK (qv 1) aC) (qv 2)) aD))))) (aN (b0 e6)) bF)))
   (aN (b0 e6))))),T8 (lA K).tt⟩)
theorem vS:FnScope ["word","many","parts","one","other"] ["word","many"] (aU (aW 20)):=.au
theorem ab9 (B:Bt mg) (F:FM K mg "read_link" 20 f fd) (d_read_number:Df P w K mg base 3 "read_number" ["word","most"] hV):Df P w K mg base 4 "read_link" ["word","many"] lZ:=
 Df.au F vS (fun cdv A outer s H E hr=>by
  have nd:=vS.nd
  exact⟨(vH),(aL (bR (i:=2) nd (oQ (qv 0) (a8 dH aD)))
   (aL (bG (gW (dI B (a8 (qv 2) aD)) aC) (aN gY) bF)
   (aL (bR (i:=3) nd (bB d_read_number hr (a8 (bK (qv 2) aC) (a8 (tL (qv 1) aC) aD))))
   (aL (bR (i:=4) nd (bB d_read_number hr (a8 (bK (qv 2) aC) (a8 (tL (qv 1) aC) aD))))
   (aL (bG (M2 (qv 3) (qv 4)) (aN gY) bF)
   (aN (b0 (fY (a8 (qv 3) (a8 (qv 4) aD)))))))))),Y3⟩)
theorem vT:FnScope ["text","rows","wants","links"] ["text"] (aU (aW 15)):=.au
theorem ac0 (B:Bt mg) (F:FM K mg "read_web" 15 f fd) (d_read_number:Df P w K mg base 3 "read_number" ["word","most"] hV) (d_words_of:Df P w K mg base 1 "words_of" ["row"] jO) (d_read_link:Df P w K mg base 4 "read_link" ["word","many"] lZ) (d_rises:Df P w K mg base 1 "rises" ["things"] lE) {u_MOST_HEARTHS:Nat} (m_MOST_HEARTHS:mg "MOST_HEARTHS" = some (.int 40 u_MOST_HEARTHS)) {u_MOST_WANTED:Nat} (m_MOST_WANTED:mg "MOST_WANTED" = some (.int 60 u_MOST_WANTED)):Df P w K mg base 5 "read_web" ["text"] m3:=
 Df.au F vT (fun cdv A outer s H E hr=>by
  have nd:=vT.nd
  exact⟨(vI),(aL (bR (i:=1) nd (oQ (qv 0) (a8 dH aD)))
   (aL (bG (gW (dI B (a8 (qv 1) aD)) aC) (aN gY) bF)
   (aL (bR (i:=2) nd (l5 (N:=["word"]) (fr:=[none]) (g6 (bB d_words_of hr (a8 (bK (qv 1) aC) aD))) (fun _ _ _ _=>(bB d_read_number hr (a8 (qv 0) (a8 (oG rfl m_MOST_WANTED) aD))))))
   (aL (bG (iJ (dI B (a8 (qv 2) aD)) (oG rfl m_MOST_HEARTHS)) (aN gY) bF)
   (aL (N9 (i:=3) nd (N:=["word","wants"]) (fr:=[none,some 2]) (g6 (bB d_words_of hr (a8 (bK (qv 1) aC) aD))) (fun _ _ _ _=>(bB d_read_link hr (a8 (qv 0) (a8 (dI B (a8 (qv 1) aD)) aD)))))
   (aL (bG (eJ (fF (bB d_rises hr (a8 (qv 3) aD)))) (aN gY) bF)
   (aN (b0 (fY (a8 (g9 B (a8 (qv 2) aD)) (a8 (g9 B (a8 (qv 3) aD)) aD))))))))))),Y8⟩)
theorem vU:FnScope ["script","head","many","web","wants","due","found"] ["script"] (aU (aW 30)):=.au
theorem ac1 (B:Bt mg) (F:eB K "law" "law" (aW 30) f fd) (d__law_cell_at:Df P w K mg base 1 "_law_cell_at" ["script","k"] fJ) (d__law_web:Df P w K mg base 2 "_law_web" ["flow","many","way"] jI) (d__law_row_text:Df P w K mg base 1 "_law_row_text" ["parts"] jP) (d_web_text:Df P w K mg base 3 "web_text" ["web"] lV) (d__law_web_is:Df P w K mg base 3 "_law_web_is" ["found","due"] lH) (d_read_web:Df P w K mg base 5 "read_web" ["text"] m3) (bst:mg "str" = none):cA P w K mg base cK 6 f fd ["script"] (j8 K pA):=
 Q8 F vU (fun xs Q h=>by unfold pA at h; repeat (first | (obtain ⟨rfl,_⟩:=h; rfl) | (obtain ⟨_,h⟩:=h))) (fun cdv A outer s H E hr=>by
  have nd:=vU.nd
  exact⟨(vK K),(aL (bR (i:=1) nd (bB d__law_cell_at hr (a8 (qv 0) (a8 aC aD))))
   (aL (bR (i:=2) nd (bQ (qv 1) aC))
   (aL (bG (kZ (bQ (cP (qv 1) aC) aC) aC) (aN (bR (i:=2) nd (bQ (cP (qv 1) aC) aC))) bF)
   (aL (bR (i:=3) nd (bB d__law_web hr (a8 (tQ (qv 0) (o8 aC) o7) (a8 (qv 2) (a8 (cP (qv 1) aC) aD)))))
   (aL (bR (i:=4) nd (bB d__law_row_text hr (a8 (l5 (N:=["want"]) (fr:=[none]) (g6 (bK (qv 3) aC)) (fun _ _ _ _=>(lJ bst (a8 (qv 0) aD)))) aD)))
   (aL (bR (i:=5) nd (gC (gC (qv 4) dH) (bB d__law_row_text hr (a8 (oF (N:=["one","other"]) (fr:=[none,none]) (g6 (bK (qv 3) aC)) (fun _ _ _ _=>(gC (gC (lJ bst (a8 (qv 0) aD)) dH) (lJ bst (a8 (qv 1) aD))))) aD))))
   (aL (bR (i:=6) nd (bB d_web_text hr (a8 (qv 3) aD)))
   (aL (bG (fG (gX (eJ (fF (Y4 B bst (qv 6)))) (iK (S2 (qv 6) (qv 5))))) (aN (b0 e6)) bF)
   (aN (b0 (bB d__law_web_is hr (a8 (bB d_read_web hr (a8 (qv 6) aD)) (a8 (qv 3) aD))))))))))))),Z1⟩)
end
set_option autoImplicit true in
theorem ac2 {l:OpenLaw}{w:World}{K:Frag}{h:Heap}{mg:Str->Option Value} (X:K.In h) (G:h.Ns mainGlobals mg) (hfa:mg "law" = some (.ref fa))
  (h0:FK K "rises" 6 f0 d0)
  (h1:FK K "row_of" 14 f1 d1)
  (h2:FK K "words_of" 16 f2 d2)
  (h3:FK K "is_number" 19 f3 d3)
  (h4:FK K "_law_cell_at" 22 f4 d4)
  (h5:FK K "_law_web_of_digits" 23 f5 d5)
  (h6:FK K "_law_dense" 24 f6 d6)
  (h7:FK K "_law_whole_number" 26 f7 d7)
  (h8:FK K "_law_row_text" 29 f8 d8)
  (h9:FK K "numbers_row" 12 f9 d9)
  (h10:FK K "links_row" 13 f10 d10)
  (h11:FK K "read_figures" 18 f11 d11)
  (h12:FK K "_law_web" 25 f12 d12)
  (h13:FK K "_law_row_is" 27 f13 d13)
  (h14:FK K "web_text" 11 f14 d14)
  (h15:FK K "read_number" 17 f15 d15)
  (h16:FK K "_law_web_is" 28 f16 d16)
  (h17:FK K "read_link" 20 f17 d17)
  (h18:FK K "read_web" 15 f18 d18)
  (a19:nsIn K mainGlobals "law" = some (some (.ref f19))) (l19:K.lookup f19=some ⟨oc19,od19,.func (fnOf "law" "law" (fQ (aW 30)) (dC (aW 30)) (aU (aW 30)) .none kV19 dc19 pm19 an19 cd19 ct19),sl19⟩) (c19:codeIn K cd19 "law" = true) (k19:keepIn K (.ref f19)=true)
  (z_len:nsIn K mainGlobals "len" = some none)
  (z_range:nsIn K mainGlobals "range" = some none)
  (z_tuple:nsIn K mainGlobals "tuple" = some none)
  (z_list:nsIn K mainGlobals "list" = some none)
  (z_sorted:nsIn K mainGlobals "sorted" = some none)
  (z_all:nsIn K mainGlobals "all" = some none)
  (z_any:nsIn K mainGlobals "any" = some none)
  (z_zip:nsIn K mainGlobals "zip" = some none)
  (z_min:nsIn K mainGlobals "min" = some none)
  (z_max:nsIn K mainGlobals "max" = some none)
  (z_sum:nsIn K mainGlobals "sum" = some none)
  (z_isinstance:nsIn K mainGlobals "isinstance" = some none)
  (z_int:nsIn K mainGlobals "int" = some none)
  (z_bool:nsIn K mainGlobals "bool" = some none)
  (z_enumerate:nsIn K mainGlobals "enumerate" = some none)
  (z_str:nsIn K mainGlobals "str" = some none)
  {u_FIGURES:Nat} (z_FIGURESx:nsIn K mainGlobals "FIGURES" = some (some (.str "0123456789" u_FIGURES)))
  {u_MOST_FIGURES:Nat} (z_MOST_FIGURESx:nsIn K mainGlobals "MOST_FIGURES" = some (some (.int 60 u_MOST_FIGURES)))
  {u_MOST_HEARTHS:Nat} (z_MOST_HEARTHSx:nsIn K mainGlobals "MOST_HEARTHS" = some (some (.int 40 u_MOST_HEARTHS)))
  {u_MOST_WANTED:Nat} (z_MOST_WANTEDx:nsIn K mainGlobals "MOST_WANTED" = some (some (.int 60 u_MOST_WANTED)))
  {u_NONE_AT_ALL:Nat} (z_NONE_AT_ALLx:nsIn K mainGlobals "NONE_AT_ALL" = some (some (.str "." u_NONE_AT_ALL)))
  : ∃ fd:FuncData,(∀ (s:Shared) (v:Value),BindsTo s fd ⟨[v],[]⟩ [("script",v)])/\∀ base:Heap,K.In base->base.Ns mainGlobals mg->cA l.prog w K mg base cK 6 fa fd ["script"] (lB K):=by
 have e:=hfa.symm.trans (mg_of X G a19)
 cases e
 have F19:=zZ (st:=aW 30) l19 c19 k19
 have m19:=mg_of X G a19
 have B:Bt mg:=⟨mg_none_of X G z_len,mg_none_of X G z_range,mg_none_of X G z_tuple,mg_none_of X G z_list,mg_none_of X G z_sorted,mg_none_of X G z_all,mg_none_of X G z_any,mg_none_of X G z_zip,mg_none_of X G z_min,mg_none_of X G z_max,mg_none_of X G z_sum,mg_none_of X G z_isinstance,mg_none_of X G z_int,mg_none_of X G z_bool,mg_none_of X G z_enumerate⟩
 have bst:=mg_none_of X G z_str
 have m_FIGURES:=mg_of X G z_FIGURESx
 have m_MOST_FIGURES:=mg_of X G z_MOST_FIGURESx
 have m_MOST_HEARTHS:=mg_of X G z_MOST_HEARTHSx
 have m_MOST_WANTED:=mg_of X G z_MOST_WANTEDx
 have m_NONE_AT_ALL:=mg_of X G z_NONE_AT_ALLx
 refine⟨fnOf "law" "law" (fQ (aW 30)) (dC (aW 30)) (aU (aW 30)) .none kV19 dc19 pm19 an19 cd19 ct19,fun s v=>.of_eq rfl,fun base KB _=>?_⟩
 have D0:=Z3 (P:=l.prog) (w:=w) (base:=base) B (h0.M X G)
 have D1:=Z5 (P:=l.prog) (w:=w) (base:=base) B (h1.M X G)  m_NONE_AT_ALL
 have D2:=Z7 (P:=l.prog) (w:=w) (base:=base) B (h2.M X G)  m_NONE_AT_ALL
 have D3:=Z9 (P:=l.prog) (w:=w) (base:=base) B (h3.M X G)  m_FIGURES m_MOST_FIGURES
 have D4:=aa1 (P:=l.prog) (w:=w) (base:=base) B (h4.M X G)
 have D5:=aa2 (P:=l.prog) (w:=w) (base:=base) B (h5.M X G)
 have D6:=aa3 (P:=l.prog) (w:=w) (base:=base) B (h6.M X G)
 have D7:=aa5 (P:=l.prog) (w:=w) (base:=base) B (h7.M X G)
 have D8:=aa6 (P:=l.prog) (w:=w) (base:=base) B (h8.M X G)
 have D9:=aa8 (P:=l.prog) (w:=w) (base:=base) B (h9.M X G) D1 bst
 have D10:=ab0 (P:=l.prog) (w:=w) (base:=base) B (h10.M X G) D1
 have D11:=ab2 (P:=l.prog) (w:=w) (base:=base) B (h11.M X G) D3
 have D12:=ab3 (P:=l.prog) (w:=w) (base:=base) B (h12.M X G) D6 D4 D5
 have D13:=ab4 (P:=l.prog) (w:=w) (base:=base) B (h13.M X G) D7
 have D14:=ab6 (P:=l.prog) (w:=w) (base:=base) B (h14.M X G) D9 D10
 have D15:=ab7 (P:=l.prog) (w:=w) (base:=base) B (h15.M X G) D11
 have D16:=ab8 (P:=l.prog) (w:=w) (base:=base) B (h16.M X G) D13
 have D17:=ab9 (P:=l.prog) (w:=w) (base:=base) B (h17.M X G) D15
 have D18:=ac0 (P:=l.prog) (w:=w) (base:=base) B (h18.M X G) D15 D2 D17 D0 m_MOST_HEARTHS m_MOST_WANTED
 exact Q9 (ac1 B F19 D4 D12 D8 D14 D16 D18 bst)
theorem ac3 {l:OpenLaw}{q:Program}{loose:List Str}{XP:(Str->Option Value)->Heap->Prop}{YP:World->Heap->Prop}{d:DefRec}{K:Params->Frag} (hn:l.most=some 63) (hdf:d.params.defaults = [])
  (hY:∀ (w:World) (h:Heap),YP w h->(K w.params).In h)
  (F:∀ (w:World) (mg:Str->Option Value) (fa:Addr) (h:Heap),(K w.params).In h->h.Ns mainGlobals mg->mg d.name=some (.ref fa)->
   ∃ fd:FuncData,(∀ (s:Shared) (u:Value),BindsTo s fd ⟨[u],[]⟩ [("script",u)])/\∀ base:Heap,(K w.params).In base->base.Ns mainGlobals mg->cA l.prog w (K w.params) mg base cK 6 fa fd ["script"] (lB (K w.params))) :
  WalkO q loose XP YP l.row.toRowW d [] (fun f vs=>PySem.call f vs):=
 L2.zX (n:=63) (k:=6) (x:="script") (CX:=fun _=>cK) (sp:=fun w=>lB (K w.params)) hn (by decide) hdf ⟨rfl,by decide,by decide⟩ hY F (fun _ _ a ns hl hO hS=>⟨a,ns,rfl,R0 hO hS,hl,fun _=>rfl⟩) fun _ _ _ _ _ z=>z
end K_k06
open PySem PySem.W PyProof.Rows
set_option maxRecDepth 100000 in
set_option maxHeartbeats 0 in
theorem PySem.Challenge.cw_kindleweb_k06_webs_written_holds : PySem.Challenge.rw_kindleweb_k06_webs_written.Holds := by
 w_on; o_law; k_head; (case hw => w_witness2)
 k_fill
 refine K_k06.ac3 (l := PySem.Challenge.rw_kindleweb_k06_webs_written) rfl rfl (fun w h Y => PySem.W.kIn_of Y) ?F
 case F =>
  intro w mg fa h KX G hmg
  refine' K_k06.ac2 KX G hmg ?h0 ?h1 ?h2 ?h3 ?h4 ?h5 ?h6 ?h7 ?h8 ?h9 ?h10 ?h11 ?h12 ?h13 ?h14 ?h15 ?h16 ?h17 ?h18 ?a19 ?l19 ?c19 ?k19 ?z_len ?z_range ?z_tuple ?z_list ?z_sorted ?z_all ?z_any ?z_zip ?z_min ?z_max ?z_sum ?z_isinstance ?z_int ?z_bool ?z_enumerate ?z_str ?z_FIGURESx ?z_MOST_FIGURESx ?z_MOST_HEARTHSx ?z_MOST_WANTEDx ?z_NONE_AT_ALLx
  (case h0 | h1 | h2 | h3 | h4 | h5 | h6 | h7 | h8 | h9 | h10 | h11 | h12 | h13 | h14 | h15 | h16 | h17 | h18 => exact ⟨by k_is, ⟨⟨_, _, _, _, _, _, _, _, _, rfl, by k_is, by k_is⟩, by k_is⟩⟩)
  (case a19|l19|c19|k19|z_len|z_range|z_tuple|z_list|z_sorted|z_all|z_any|z_zip|z_min|z_max|z_sum|z_isinstance|z_int|z_bool|z_enumerate|z_str|z_FIGURESx|z_MOST_FIGURESx|z_MOST_HEARTHSx|z_MOST_WANTEDx|z_NONE_AT_ALLx => k_is)


